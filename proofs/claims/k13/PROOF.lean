import PyProof.Rows.All
import Wide.All
import OpenK.AllK
import Wide.FinOn
import Lean
import PyProof.EqAt
import PyProof.EqKinds
import PyProof.TupleCall
import PyProof.ZipIter
import PyProof.EnumIter
import KE.KDictSum
import KE.KItemsList
import KE.KSortKey
import KE.KLam
import PyProof.SeqI3
import PyProof.WalkInts
import PyProof.EqLayable
import KE.KSortTup
import PyProof.SetNew
import PyProof.Rows.SetFrom
import PyProof.EnumFor
import PyProof.EnumStmt
import PyProof.WalksMore
import PyProof.SetRoads
import PyProof.ListRange
import PyProof.Conv_int_bool
import KE.KRevSl
import KE.KTryMore
import KE.KIsAll
import PySem.Challenge.RW_storejudge_k13_what_is_a_problem
set_option genInjectivity false
set_option compiler.extract_closed false
set_option bootstrap.genMatcherCode false
set_option genSizeOf false
section
open PySem PySem.W PyProof.Rows
set_option Elab.async false
set_option maxRecDepth 100000
set_option maxHeartbeats 0
namespace PySem.W.Fast
def tw9526986288804653824:=0
def tw861502493610598483:=0
def tw13406242734642179557:=0
def tw7774113678449685934:=0
def tw10474955418446329604:=0
def tw1881633818833800520:=0
def tw16008359073273489704:=0
def tw1099918578628675820:=0
def tw2706584449700448635:=0
def tw13732051381489595846:=0
def tw5892134785273998893:=0
def tw9380741260308362100:=0
def tw7363655315013122544:=0
def tw11018145951921344529:=0
def tw3615178456390077923:=0
def tw3998647374267775353:=0
def tw12188032599808994241:=0
def tw10065395384575387378:=0
def tw977512076041815475:=0
def tw9368122197164973604:=0
def tw8448305426059154538:=0
def tw11692469974320434101:=0
def tw5196873999451345938:=0
def tw16615150188913437886:=0
def tw8997383693586321770:=0
def tw8715888555302371167:=0
def tw6690350156832105676:=0
def tw17260811203177919210:=0
def tw4483904966330829159:=0
def tw866717566613908145:=0
def tw11513857634932158529:=0
def tw140001813534094272:=0
def tw8331849164307833061:=0
def tw209982475168477708:=0
def tw18262670878535919901:=0
def tw3238445694619138142:=0
def tw7921390202802761869:=0
def tw9784134513789038367:=0
def tw8222940686941784037:=0
def tw15925456577456769635:=0
def tw11153475782318119604:=0
def tw11066385474520676512:=0
def tw15831126876759372255:=0
def tw15621415185263527259:=0
def tw13385558918117058561:=0
def tw11429584451438056573:=0
def tw17613222154834848340:=0
def tw10741264400317747893:=0
def tw1835071406663858368:=0
def tw14592624751514493413:=0
def tw14404928986312190071:=0
def tw18157406047293677543:=0
def tw1342123614928995077:=0
def tw17691633702590694504:=0
def tw3520257249291928256:=0
def tw15214748959534726111:=0
def tw4096438862311573950:=0
def tw6170744672141170255:=0
def tw13855379610559885079:=0
def tw13547939009206843870:=0
def tw10295913840692754127:=0
def tw15438627641174518403:=0
def tw11481637867367846703:=0
def tw13437419889732721216:=0
def tw7086961617601330827:=0
def tw3099597729799864441:=0
def tw5072417060200589145:=0
def tw11024694936033576346:=0
def tw9630203353718772412:=0
def tw13135312941875745310:=0
def tw5101696844757716304:=0
def tw7374399212775623666:=0
def tw12138319994727072339:=0
def tw8285278889055680438:=0
def tw3303267245142563540:=0
def tw6548459193220583526:=0
def tw5467331546851215429:=0
def tw1864683662541468164:=0
def tw17590705303994421779:=0
def tw6575520176995025181:=0
def tw12431713363859531893:=0
def tw1070438729232803039:=0
def tw6162269159774324313:=0
def tw12099505692703838030:=0
def tw855453113358079251:=0
def tw7867829370405329436:=0
def tw5362036446546632119:=0
def tw9461873434466728008:=0
def tw8535803893964050539:=0
def tw16248296213531012650:=0
def tw615563214671542189:=0
def tw4323258101793500111:=0
def tw14424681132571578402:=0
def tw14727194681476072466:=0
def tw12727641955093265886:=0
def tw8733291241859026926:=0
def tw6216382948874008006:=0
def tw9402243437249704421:=0
def tw14226173905949225808:=0
def tw14243238205550065757:=0
def tw16636501806038632012:=0
def tw17013487888433625170:=0
def tw8431482922422412695:=0
def tw2259672571474061568:=0
def tw11898673842065290130:=0
def tw5323657890516693427:=0
def tw4635989785427082552:=0
def tw16864618592142003386:=0
def tw1717767836212652739:=0
def tw8080008513338510535:=0
def tw772564365185477556:=0
def tw4884199854448574:=0
def tw9615563845995560447:=0
def tw258204147387103276:=0
def tw10551173667578312727:=0
def tw13622603851894308203:=0
def tw1725486776273817318:=0
def tw3049343062529576306:=0
def tw13160504802963445071:=0
def tw7046044490832178742:=0
def tw17339309145561079191:=0
def tw6549852094080907030:=0
def tw5217270863462422736:=0
def tw3985964047577975286:=0
def tw10510056951384868246:=0
def tw1293241653719404408:=0
def tw2827255003249426055:=0
def tw896239598344801917:=0
def tw4039707410889071942:=0
def tw4490611911172417597:=0
def tw13421457143807847188:=0
def tw12954591660760965231:=0
def tw11662115353561507501:=0
def tw7322748291113730364:=0
def tw14842496431369740429:=0
def tw8171798328758944481:=0
def tw10258873121960336067:=0
def tw4859391219904099992:=0
def tw12488014758255163090:=0
def tw2295934692909999376:=0
def tw3778530596728393105:=0
def tw10792498714594961201:=0
def tw10888863842102328177:=0
def tw523537741815420091:=0
def tw8949853181751564097:=0
def tw3235425350174046738:=0
def tw16140922888777852060:=0
def tw9646623106273453227:=0
def tw16654469307462801742:=0
def tw4971374062829452455:=0
def tw4189273013823423559:=0
def tw1825952489489211193:=0
def tw2144661209622563809:=0
def tw6128106870883400570:=0
def tw2570914705882880060:=0
def tw3919386906821981792:=0
def tw6822071536725586909:=0
def tw14261769069557060686:=0
def tw6968137755033780318:=0
def tw13953587524928339648:=0
def tw10698057553749749337:=0
def tw1956775160557780875:=0
def tw13810262117814702294:=0
def tw1950803216711332702:=0
def tw2080317491765294665:=0
def tw16902440903046159558:=0
def tw896878414759379649:=0
def tw12903330217458380548:=0
def tw5344687154915797982:=0
def tw16298917771340976007:=0
def tw11738243743197964597:=0
def tw4734895289157585001:=0
def tw11266997524610791606:=0
def tw1599053048872161195:=0
def tw15402603294489630176:=0
def tw17318462890700432884:=0
def tw5537553045615171315:=0
def tw4562827626845409882:=0
def tw4683681711962371626:=0
def tw3300257896294614128:=0
def tw3308634892276815127:=0
def tw6030501089693204938:=0
def tw15541240446876304647:=0
def tw16607193741793207195:=0
def tw2314633323536394700:=0
def tw4309217394794523951:=0
def tw10910644110388302437:=0
def tw9387514328989991554:=0
def tw2474200967059427378:=0
def tw15433366417846715934:=0
def tw2353497105660221152:=0
def tw13861969467909019144:=0
def tw2340837018749705212:=0
def tw17334828202450815106:=0
def tw15554417296805563061:=0
def tw11853640710764476214:=0
def tw6557801498797044033:=0
def tw2084650752826471497:=0
def tw4436474186459923750:=0
def tw8432719020341155521:=0
def tw18367749455379333440:=0
def tw12330612334027959195:=0
def tw9919008367099125623:=0
def tw8760152093665844161:=0
def tw17659185236578331656:=0
def tw14904681115217272601:=0
def tw16053306600634468012:=0
def tw13769103115541136327:=0
def tw8159993647027272844:=0
def tw1532491051758110099:=0
def tw5444512763150141072:=0
def tw1719895430356276633:=0
def tw2400638427578300857:=0
def tw10297410513487048360:=0
def tw15166322114958858414:=0
def tw3365755272349913518:=0
def tw14847308668706973960:=0
def tw14746253646979254834:=0
def tw12960429369202013873:=0
def tw12768989823518198380:=0
def tw1915925776726481438:=0
def tw8737599933303070863:=0
def tw14703100239697439463:=0
def tw5872530126848033075:=0
def tw17435391645217708394:=0
def tw4046790133079468173:=0
def tw14196522196718054806:=0
def tw2646887283097553488:=0
def tw15861351967447197489:=0
def tw2466311954974566718:=0
def tw8297923619242306668:=0
def tw9806118890596472461:=0
def tw10879749546641988924:=0
def tw18073898193381586223:=0
def tw16409965706819354750:=0
def tw13462424878891718212:=0
def tw8219003486749837733:=0
def tw256976265262469064:=0
def tw6472337539984862722:=0
def tw8972062959192195235:=0
def tw17817366049700826239:=0
def tw14391293386007564604:=0
def tw2403389108928632939:=0
def tw16721508838639397229:=0
def tw1383625962624193546:=0
def tw12408111787983249662:=0
def tw16756451883985382160:=0
def tw16753820520455620202:=0
def tw10876078143196172821:=0
def tw4849480874435393781:=0
def tw2941924889016668590:=0
def tw17483705464198625004:=0
def tw2692750590507578028:=0
def tw3215387988796971590:=0
def tw14564479935002850509:=0
def tw6148498323302512570:=0
def tw15590096980072825465:=0
def tw5725222548895626118:=0
def tw14537775516033599862:=0
def tw11502921971960690029:=0
def tw16279288168775177219:=0
def tw10826640976665885199:=0
def tw4171853373547519906:=0
def tw15254633091992210921:=0
def tw3543459598558145280:=0
def tw17710873009340938204:=0
def tw52312688904243638:=0
def tw10206956779759575209:=0
def tw726351398001015727:=0
def tw14383893971135437652:=0
def tw938635154573522699:=0
def tw10988312798546598065:=0
def tw514280064592716601:=0
def tw14903569129155370506:=0
def tw15752536640612570366:=0
def tw14219159868682941630:=0
def tw8157277791214410489:=0
def tw9972681490609642005:=0
def tw15779231459743154856:=0
def tw3721919958574915784:=0
def tw18418582437962087742:=0
def tw7480016910919988345:=0
def tw9860861378791804195:=0
def tw2261719852989239553:=0
def tw18101783494082082527:=0
def tw4953865588907285216:=0
def tw6074174064106425954:=0
def tw14172470266813156586:=0
def tw17678831435119133177:=0
def tw17338325484393633139:=0
def tw643336161829623379:=0
def tw10374632558016547081:=0
def tw11408881796089955267:=0
def tw3953844824629472508:=0
def tw9757595895972200118:=0
def tw11766667032028208565:=0
def tw14935467056822913822:=0
def tw13034982811429478159:=0
def tw3419001889969749887:=0
def tw3300454383303005205:=0
def tw17760279517084355780:=0
def tw11161164713144168021:=0
def tw13053770412826190925:=0
def tw6056707288978253535:=0
def tw11401859456886640639:=0
def tw2950685276103557050:=0
def tw13055953723892786844:=0
def tw5459702643516471331:=0
def tw12459912946257978736:=0
def tw1205274952441263945:=0
def tw14760874974797668852:=0
def tw9536688357841153863:=0
def tw6953138203311097117:=0
def tw14689541978594310382:=0
def tw4548300405975405348:=0
def tw14827714588952709054:=0
def tw15805137534098808535:=0
def tw5002640475654186023:=0
def tw4547051000311932777:=0
def tw740290905518256060:=0
def tw16919654943277366748:=0
def tw2358075552688931204:=0
def tw1840220198017710270:=0
def tw4804111812005502284:=0
def tw17464319187374939960:=0
def tw16723463757517087524:=0
def tw9879335643197240621:=0
def tw1000662321505670351:=0
def tw11962351593759143498:=0
def tw12269216009862288129:=0
def tw2455152089536381482:=0
def tw16120054744476736488:=0
def tw14387916025512776202:=0
def tw13946496683202179788:=0
def tw15539815450414544023:=0
def tw1708089923452030704:=0
def tw6128145076113358165:=0
def tw3270257207059953099:=0
def tw12917704675397863716:=0
def tw4684226298888400098:=0
def tw13757698761724263525:=0
def tw5702276774652866934:=0
def tw8565224436197482051:=0
def tw10519837036962490867:=0
def tw17187875760726034783:=0
def tw17267597263503486738:=0
def tw7943549864190904611:=0
def tw12297992134047619483:=0
def tw9947508896943372755:=0
def tw8739830900816887780:=0
def tw9495317472360511255:=0
def tw6782663255696616371:=0
def tw12887044766017154078:=0
def tw446995266069924076:=0
def tw10624116801336726872:=0
def tw7217548393331319763:=0
def tw1607123104830579860:=0
def tw14961746396406840608:=0
def tw4321966507151631593:=0
def tw6105849179199505303:=0
def tw14664691819916384248:=0
def tw1495895850433845275:=0
def tw10016166984437732892:=0
def tw8422229294311615681:=0
def tw15240619367488684849:=0
def tw15577281813014381367:=0
def tw14520296925931582552:=0
def tw8060666987683057360:=0
def tw8899516883271353254:=0
def tw6607644564249050058:=0
def tw17963105932079019327:=0
def tw15895094517606616290:=0
def tw2595585439558603231:=0
def tw1142673529048489019:=0
def tw991626836265849350:=0
def tw3110587219445414310:=0
def tw11384182702204212275:=0
def tw10159399881129095643:=0
def tw1467881925912835984:=0
def tw14074196154385387334:=0
def tw11421057715548341654:=0
def tw5994696166404524948:=0
def tw2741014181512449073:=0
def tw14611616552423853409:=0
def tw447263597446747957:=0
def tw15127105006835628225:=0
def tw6420159726195949164:=0
def tw7485256538410118956:=0
def tw6469784823511061222:=0
def tw18183970276198133131:=0
def tw6356304189028158447:=0
def tw16226643914720891334:=0
def tw9116068151291705539:=0
def tw16728255500844073214:=0
def tw2244103112122482387:=0
def tw87601786513091389:=0
def tw1401067106901849026:=0
def tw1956260828630720203:=0
def tw4015202173357781934:=0
def tw2187251505897268136:=0
def tw6858818405166986180:=0
def tw5449601097390414333:=0
def tw6278996535519779258:=0
def tw16955839230299176341:=0
def tw5498123283257192965:=0
def tw12147665669636231765:=0
def tw2107523057676978006:=0
def tw819570635367399668:=0
def tw9592521066531166775:=0
def tw3641951560692057861:=0
def tw16108870410212019532:=0
def tw11907897558876765624:=0
def tw5622701340561072331:=0
def tw3671519592330383864:=0
def tw14170518179582410385:=0
def tw4075453323654395381:=0
def tw539538531456391632:=0
def tw561727478393794602:=0
def tw2789304352393801511:=0
def tw384561282630992784:=0
def tw2399617604181995578:=0
def tw7933485763601977624:=0
def tw7001957589650049515:=0
def tw13812277999558781770:=0
def tw18146532975450069615:=0
def tw9456574344343218679:=0
def tw28018229315631829:=0
def tw9796564346219866840:=0
def tw5000232492035539693:=0
def tw17062427158221528723:=0
def tw13956191218907399338:=0
def tw6542358382571353910:=0
def tw12740759652641322565:=0
def tw4906484309439969231:=0
def tw547895379624588593:=0
def tw13913613514976480042:=0
def tw6248682570935725439:=0
def tw443766864951011646:=0
def tw16670775579421159206:=0
def tw4077048163395320219:=0
def tw13674586047789940208:=0
def tw12770481643036789091:=0
def tw12314708539913122752:=0
def tw140236481695663071:=0
def tw6522051377940421278:=0
def tw8480184845173159842:=0
def tw5667099127317398114:=0
def tw1979317910248211280:=0
def tw4480162626587320490:=0
def tw14993981098963755598:=0
def tw16682895059504647277:=0
def tw3374319085511977134:=0
end PySem.W.Fast
open_top hd for PySem.Challenge.rw_storejudge_k13_what_is_a_problem
end
theorem ZR0 (h:True:=by rfl):True:=h
def ZR:Lean.Syntax:=ZR0._auto_1
theorem ZD0 (h:True:=by decide):True:=h
def ZD:Lean.Syntax:=ZD0._auto_1
theorem ZI0 (h:True:=by intro _;rfl):True:=h
def ZI:Lean.Syntax:=ZI0._auto_1
theorem ZW0 (h:True:=by with_unfolding_all rfl):True:=h
def ZW:Lean.Syntax:=ZW0._auto_1
open PySem.W (Frag)
set_option Elab.async false
set_option linter.all false
set_option maxRecDepth 100000
namespace L2
open PySem PySem.Spec PyProof.Rows
abbrev Key:=Sum Int Str
noncomputable def qA:Key->Value->Bool
 | .inl k,v=>Value.isInt k v
 | .inr x,v=>Value.isStrOf x v
noncomputable def dL2 (w:World):Key->Int
 | .inl k=>hashInt k
 | .inr x=>hashStr w x
theorem keyIs_shape:∀ {k:Key} {v:Value},qA k v=true->(∃ i t,k=Sum.inl i/\v=Value.int i t)\/(∃ x t,k=Sum.inr x/\v=Value.str x t)
 | .inl i,v,h=>by
  obtain ⟨t,e⟩:=Value.isInt_shape (k:=i) (v:=v) h;exact .inl ⟨i,t,rfl,e⟩
 | .inr x,v,h=>by
  obtain ⟨t,e⟩:=Value.isStrOf_shape (x:=x) (v:=v) h;exact .inr ⟨x,t,rfl,e⟩
def aC6 (i:Int) (t:Tok):qA (.inl i) (.int i t)=true:=by simp [qA,Value.isInt]
def aC7 (x:Str) (t:Tok):qA (.inr x) (.str x t)=true:=by simp [qA,Value.isStrOf]
def bW5 (a b:Int):decide ((Sum.inl a:Key)=Sum.inl b)=(a==b):=by
 by_cases e:a=b
 ·subst e;simp
 ·have h:¬ (Sum.inl a:Key)=Sum.inl b:=fun q=>e (Sum.inl.inj q);rw [decide_eq_false h];exact (beq_eq_false_iff_ne.mpr e).symm
def bW6 (a b:Str):decide ((Sum.inr a:Key)=Sum.inr b)=decide (a=b):=by
 by_cases e:a=b
 ·subst e;simp
 ·have h:¬ (Sum.inr a:Key)=Sum.inr b:=fun q=>e (Sum.inr.inj q);rw [decide_eq_false h,decide_eq_false e]
def bW7 (a:Int) (b:Str):decide ((Sum.inl a:Key)=Sum.inr b)=false:=decide_eq_false (fun q=>nomatch q)
def bW8 (a:Str) (b:Int):decide ((Sum.inr a:Key)=Sum.inl b)=false:=decide_eq_false (fun q=>nomatch q)
noncomputable def dD (prog:Program) (w:World):PySem.KeyKind prog w Key where
 is:=qA
 hash:=dL2 w
 inj:=fun v a b ha hb=>by
  rcases keyIs_shape ha with ⟨i,t,rfl,rfl⟩ | ⟨x,t,rfl,rfl⟩
  ·rcases keyIs_shape hb with ⟨j,u,rfl,e⟩ | ⟨y,u,rfl,e⟩
   ·injection e with e1 _;rw [e1]
   ·exact nomatch e
  ·rcases keyIs_shape hb with ⟨j,u,rfl,e⟩ | ⟨y,u,rfl,e⟩
   ·exact nomatch e
   ·injection e with e1 _;rw [e1]
 byValue:=fun k v h=>by
  rcases keyIs_shape h with ⟨i,t,rfl,rfl⟩ | ⟨x,t,rfl,rfl⟩<;>rfl
 pyHash:=fun hv h=>by
  rcases keyIs_shape hv with ⟨i,t,rfl,rfl⟩ | ⟨x,t,rfl,rfl⟩
  ·exact wpAny_pyHash_int h
  ·exact wpAny_pyHash_str h
 eqBool:=fun hu hv h=>by
  rcases keyIs_shape hu with ⟨i,t,rfl,rfl⟩ | ⟨x,t,rfl,rfl⟩
  ·rcases keyIs_shape hv with ⟨j,u,rfl,rfl⟩ | ⟨y,u,rfl,rfl⟩
   ·rw [bW5] at h;exact wpAny_eqBool_int h
   ·rw [bW7] at h;exact SeqAt.EqAt.int_str i t y u _ _ _ _ h
  ·rcases keyIs_shape hv with ⟨j,u,rfl,rfl⟩ | ⟨y,u,rfl,rfl⟩
   ·rw [bW8] at h;exact SeqAt.EqAt.str_int x t j u _ _ _ _ h
   ·rw [bW6] at h;exact wpAny_eqBool_str h
 «strs»:=fun k x t v h=>by
  rcases keyIs_shape h with ⟨i,u,rfl,e⟩ | ⟨y,u,rfl,e⟩
  ·exact nomatch e
  ·injection e with e1 _
   subst e1;cases v<;>rfl
def uA (prog:Program) (w:World) (i:Int) (t:Tok):(dD prog w).is (.inl i) (.int i t)=true:=aC6 i t
def uB (prog:Program) (w:World) (x:Str) (t:Tok):(dD prog w).is (.inr x) (.str x t)=true:=aC7 x t
def IsTupD (h:Heap) (a:Addr) (items:Array Value):Prop:=∃ o,h.get? a=some o/\o.cls=.type "tuple"/\(∃ n,o.data=.seq items n)/\o.dict=none
def IsTupD.tup {h:Heap} {a:Addr} {items:Array Value} (x:IsTupD h a items):IsTup h a items:=let ⟨o,h1,h2,h3,_⟩:=x;⟨o,h1,h2,h3⟩
def IsTupD.lt {h:Heap} {a:Addr} {items:Array Value} (x:IsTupD h a items):a < h.objs.size:=let ⟨_,h1,_⟩:=x;Heap.lt_size h1
def IsTupD.new (h:Heap) (items:Array Value):IsTupD (h.push { cls:=.type "tuple",data:=.seq items }) h.objs.size items:=⟨_,Heap.get?_push_size _ rfl,rfl,⟨_,rfl⟩,rfl⟩
set_option genInjectivity true in
inductive V where
 | non | bl (b:Bool) | int (i:Int) | str (x:Str) | byt (b:Array UInt8) | flt (b:UInt64) | ref (a:Addr) | ty (n:String)
 deriving DecidableEq
noncomputable def RelV:V->Value->Prop
 | .non,u=>u=Value.none
 | .bl b,u=>u=Value.bool b
 | .int i,u=>∃ t,u=Value.int i t
 | .str x,u=>∃ t,u=Value.str x t
 | .byt b,u=>∃ t,u=Value.bytes b t
 | .flt b,u=>∃ t,u=Value.float b t
 | .ref a,u=>u=Value.ref a
 | .ty n,u=>u=Value.type n
abbrev Vals:List V->List Value->Prop:=Paired RelV
def Vals.length {xs:List V} {us:List Value} (r:Vals xs us):xs.length=us.length:=Paired.length r
theorem Vals.get:∀ {xs:List V} {us:List Value} {i:Nat} {x:V},Vals xs us->xs[i]?=some x->∃ u,us[i]?=some u/\RelV x u
 | _,_,_,_,.nil,e=>by simp at e
 | _,_,0,_,.cons r _,e=>by simp at e;subst e;exact ⟨_,rfl,r⟩
 | _,_,i+1,x,.cons _ t,e=>by
  obtain ⟨u,h1,h2⟩:=Vals.get (i:=i) (x:=x) t (by simpa using e);exact ⟨u,by simpa using h1,h2⟩
theorem Vals.set {x:V} {u:Value} (r:RelV x u):∀ {xs:List V} {us:List Value} (i:Nat),Vals xs us->Vals (xs.set i x) (us.set i u)
 | _,_,_,.nil=>.nil
 | _,_,0,.cons _ t=>.cons r t
 | _,_,i+1,.cons q t=>.cons q (Vals.set r i t)
theorem Vals.append:∀ {xs ys:List V} {us ws:List Value},Vals xs us->Vals ys ws->Vals (xs++ys) (us++ws)
 | _,_,_,_,.nil,s=>s
 | _,_,_,_,.cons r t,s=>.cons r (Vals.append t s)
theorem Vals.take:∀ {xs:List V} {us:List Value} (n:Nat),Vals xs us->Vals (xs.take n) (us.take n)
 | _,_,0,_=>.nil
 | _,_,_+1,.nil=>.nil
 | _,_,n+1,.cons r t=>.cons r (Vals.take n t)
theorem Vals.drop:∀ {xs:List V} {us:List Value} (n:Nat),Vals xs us->Vals (xs.drop n) (us.drop n)
 | _,_,0,r=>r
 | _,_,_+1,.nil=>.nil
 | _,_,n+1,.cons _ t=>Vals.drop n t
noncomputable def RelO:Option V->Option Value->Prop
 | some v,some u=>RelV v u
 | none,none=>True
 | _,_=>False
noncomputable def KV {κ:Type}:List (κ×V)->List (κ×Value)->Prop:=Paired fun (p:κ×V) (q:κ×Value)=>p.1=q.1/\RelV p.2 q.2
noncomputable def kV:Key->V
 | .inl i=>.int i
 | .inr x=>.str x
set_option genInjectivity true in
inductive HO where
 | lst (xs:List V)
 | tup (xs:List V)
 | dK (kvs:List (Key×V)) | dT (kvs:List (List Key×V))
 | set (S:Int->Bool) (n:Nat)
 | ins (C dx:Addr) (fs:List (Str×V))
 | own (x:Addr)
 | xd (fs:List (Str×V))
 | met (f x:Addr)
 | rng (lo hi:Int)
 | frz (o:Obj) (u:HO)
 | tbl (ps:Array Value)
 | ext (φ:Heap->Prop)
abbrev Hp:=Addr->Option HO
noncomputable def upd (H:Hp) (a:Addr) (o:HO):Hp:=fun b=>if b=a then some o else H b
def bH {H:Hp} {a:Addr} {o:HO}:upd H a o a=some o:=by unfold upd;rw [if_pos rfl]
def aR {H:Hp} {a b:Addr} {o:HO} (h:b≠a):upd H a o b=H b:=by unfold upd;rw [if_neg h]
def aU {H:Hp} {a b:Addr} {o:HO} (h:H a=some o) (h':H b=none):a≠b:=by
 intro e;subst e;rw [h] at h';cases h'
section
variable (P:Program) (w:World)
noncomputable def ObjOk (H:Hp) (h:Heap) (a:Addr):HO->Prop
 | .lst xs=>xs.length<=sizeLine/\∃ (its:List Value) (n:Nat),Vals xs its/\h.get? a=some { cls:=.type "list",data:=.seq its.toArray n }
 | .tup xs=>xs.length<=sizeLine/\∃ its:List Value,Vals xs its/\IsTupD h a its.toArray
 | .dK kvs=>kvs.length<=sizeLine/\(a==sysModules)=false/\∃ vs,KV kvs vs/\h.DictOf (dD P w) a vs
 | .dT kvs=>kvs.length<=sizeLine/\(a==sysModules)=false/\∃ xs:List (List Key×Addr×Value),
   Paired (fun (p:List Key×V) (q:List Key×Addr×Value)=>p.1=q.1/\H q.2.1=some (.tup (p.1.map kV))/\RelV p.2 q.2.2) kvs xs /\
   ∃ o es ep,h.get? a=some o/\o.ExactDict/\o.data=.dict es ep/\es.toList=xs.map (entryOfKey (tupleKind (dD P w)))/\(xs.map (·.1)).Nodup
 | .set S n=>h.SetOf (intKind P w) a S n
 | .ins C dx fs=>H dx=some (.own a)/\fs.length<=1000/\dx≠a/\h.get? a=some (PySem.W.instObj C dx) /\
   ∃ mA,h.Ns1 dx mA/\(∀ f,RelO (fs.lookup f) (mA f))/\PySem.Within mA (fs.map (·.1))
 | .own _=>∃ o,h.get? a=some o
 | .xd fs=>∃ mA,h.Ns1 a mA/\∀ f,RelO (fs.lookup f) (mA f)
 | .rng lo hi=>∃ t u v,h.get? a=some { cls:=.type "range",data:=.fields #[.int lo t,.int hi u,.int 1 v] }
 | .frz o u=>h.get? a=some o/\ObjOk H h a u
 | .tbl ps=>h.get? a=some { cls:=.none,data:=.fields ps }
 | .met f x=>h.get? a=some (PySem.W.methodObj (.ref f) (.ref x))
 | .ext φ=>φ h/\(∃ o,h.get? a=some o)/\∀ h1 h2:Heap,φ h1->(∀ o,h1.get? a=some o->h2.get? a=some o)->φ h2
def HOk (H:Hp) (h:Heap):Prop:=∀ a o,H a=some o->ObjOk P w H h a o
end
section
variable {P:Program} {w:World} {H H':Hp} {h h':Heap} {a:Addr} {o:HO}
def ObjOk.lt (x:ObjOk P w H h a o):a < h.objs.size:=by
 cases o with
 | lst xs=>obtain ⟨_,_,_,_,e⟩:=x;exact Heap.lt_size e
 | tup xs=>obtain ⟨_,_,_,p⟩:=x;exact p.lt
 | dK kvs=>obtain ⟨_,_,_,_,o,_,_,e,_⟩:=x;exact Heap.lt_size e
 | dT kvs=>obtain ⟨_,_,_,_,o,_,_,e,_⟩:=x;exact Heap.lt_size e
 | set S n=>obtain ⟨o,_,_,_,e,_⟩:=x;exact Heap.lt_size e
 | ins C dx fs=>obtain ⟨_,_,_,e,_⟩:=x;exact Heap.lt_size e
 | own y=>obtain ⟨_,e⟩:=x;exact Heap.lt_size e
 | xd fs=>obtain ⟨_,⟨_,_,_,e,_⟩,_⟩:=x;exact Heap.lt_size e
 | rng lo hi=>obtain ⟨_,_,_,e⟩:=x;exact Heap.lt_size e
 | frz ob u=>obtain ⟨e,_⟩:=x;exact Heap.lt_size e
 | tbl ps=>exact Heap.lt_size (show h.get? a=some _ from x)
 | met f y=>exact Heap.lt_size (show h.get? a=some _ from x)
 | ext φ=>obtain ⟨_,⟨_,e⟩,_⟩:=x;exact Heap.lt_size e
theorem Paired.mapP {α β:Type} {F G:α->β->Prop}:∀ {l₁:List α} {l₂:List β},Paired F l₁ l₂->(∀ a b,F a b->G a b)->Paired G l₁ l₂
 | _,_,.nil,_=>.nil
 | _,_,.cons r t,f=>.cons (f _ _ r) (Paired.mapP t f)
def ObjOk.stay (x:ObjOk P w H h a o) (k:∀ b u,(b=a\/H b=some (.own a))->h.get? b=some u->h'.get? b=some u)
  (ho:∀ b,H b=some (.own a)->H' b=some (.own a)) (ht:∀ b xs,H b=some (.tup xs)->H' b=some (.tup xs)):ObjOk P w H' h' a o:=by
 induction o with
 | lst xs=>obtain ⟨z,its,n,r,e⟩:=x;exact ⟨z,its,n,r,k _ _ (.inl rfl) e⟩
 | tup xs=>obtain ⟨z,its,r,ob,e,c⟩:=x;exact ⟨z,its,r,ob,k _ _ (.inl rfl) e,c⟩
 | dK kvs=>obtain ⟨z,y,vs,r,ob,es,ep,e,c⟩:=x;exact ⟨z,y,vs,r,ob,es,ep,k _ _ (.inl rfl) e,c⟩
 | dT kvs =>
  obtain ⟨z,y,xs,r,ob,es,ep,e,c⟩:=x;exact ⟨z,y,xs,Paired.mapP r fun p q z=>⟨z.1,ht _ _ z.2.1,z.2.2⟩,ob,es,ep,k _ _ (.inl rfl) e,c⟩
 | set S n=>obtain ⟨ob,es,ep,t,e,c⟩:=x;exact ⟨ob,es,ep,t,k _ _ (.inl rfl) e,c⟩
 | ins C dx fs =>
  obtain ⟨d,z,ne,e,mA,⟨od,es,ep,e2,c⟩,r⟩:=x;exact ⟨ho _ d,z,ne,k _ _ (.inl rfl) e,mA,⟨od,es,ep,k _ _ (.inr d) e2,c⟩,r⟩
 | own y=>obtain ⟨ob,e⟩:=x;exact ⟨ob,k _ _ (.inl rfl) e⟩
 | xd fs=>obtain ⟨mA,⟨od,es,ep,e,c⟩,r⟩:=x;exact ⟨mA,⟨od,es,ep,k _ _ (.inl rfl) e,c⟩,r⟩
 | rng lo hi=>obtain ⟨t,u,v,e⟩:=x;exact ⟨t,u,v,k _ _ (.inl rfl) e⟩
 | frz ob u ih=>obtain ⟨e,q⟩:=x;exact ⟨k _ _ (.inl rfl) e,ih q⟩
 | tbl ps =>
  have e:h.get? a=some { cls:=.none,data:=.fields ps }:=x;show h'.get? a=some { cls:=.none,data:=.fields ps };exact k a _ (.inl rfl) e
 | met f y =>
  have e:h.get? a=some (PySem.W.methodObj (.ref f) (.ref y)):=x;show h'.get? a=some (PySem.W.methodObj (.ref f) (.ref y));exact k a _ (.inl rfl) e
 | ext φ=>obtain ⟨p,⟨o,e⟩,st⟩:=x;exact ⟨st _ _ p fun o q=>k _ _ (.inl rfl) q,⟨o,k _ _ (.inl rfl) e⟩,st⟩
def HOk.lt (x:HOk P w H h) (e:H a=some o):a < h.objs.size:=(x a o e).lt
def HOk.fresh (x:HOk P w H h) (e:h.objs.size<=a):H a=none:=by
 cases q:H a with
 | none=>rfl
 | some u=>exact absurd (Nat.lt_of_lt_of_le (x.lt q) e) (Nat.lt_irrefl _)
def HOk.kept (x:HOk P w H h) (k:∀ b u,h.get? b=some u->h'.get? b=some u):HOk P w H h':=fun a o e =>
 (x a o e).stay (fun b u _ q=>k b u q) (fun _ q=>q) fun _ _ q=>q
def HOk.laid (x:HOk P w H h) (k:∀ b u,h.get? b=some u->h'.get? b=some u) (hp:h.objs.size<=a) (new:ObjOk P w (upd H a o) h' a o):HOk P w (upd H a o) h':=fun b u e=>by
 have hn:=x.fresh hp
 by_cases hb:b=a
 ·subst hb;rw [bH] at e;cases e;exact new
 ·rw [aR hb] at e;exact (x b u e).stay (fun c v _ q=>k c v q) (fun c q=>by rw [aR (aU q hn)];exact q) fun c xs q=>by rw [aR (aU q hn)];exact q
end
def Rd (H:Hp) (a:Addr) (u:HO):Prop:=H a=some u\/∃ o,H a=some (.frz o u)
def Rd.ok {P:Program} {w:World} {H:Hp} {h:Heap} {a:Addr} {u:HO} (r:Rd H a u) (x:HOk P w H h):ObjOk P w H h a u:=by
 rcases r with r | ⟨o,r⟩
 ·exact x a u r
 ·obtain ⟨_,q⟩:=x a _ r;exact q
noncomputable def Mut:Option HO->Prop
 | some (.lst _)=>True
 | some (.dK _)=>True
 | some (.dT _)=>True
 | some (.set _ _)=>True
 | some (.ins _ _ _)=>True
 | some (.ext _)=>True
 | _=>False
section
variable {P:Program} {w:World} {H:Hp} {h h':Heap} {x e:Addr} {o':HO}
def HOk.write (ok:HOk P w H h) (mu:Mut (H x)) (he:e=x\/H e=some (.own x)) (k:∀ b u,b≠e->h.get? b=some u->h'.get? b=some u) (heo:∃ u,h'.get? e=some u)
  (new:ObjOk P w (upd H x o') h' x o'):HOk P w (upd H x o') h':=fun b u q=>by
 have nown:∀ c y,H c=some (.own y)->c≠x:=fun c y r z=>by subst z;rw [r] at mu;exact mu
 have ntup:∀ c xs,H c=some (.tup xs)->c≠x:=fun c xs r z=>by subst z;rw [r] at mu;exact mu
 by_cases hb:b=x
 ·subst hb;rw [bH] at q;cases q;exact new
 ·rw [aR hb] at q
  by_cases hbe:b=e
  ·have q':H b=some (.own x):=by
    rcases he with z | z
    ·exact absurd (hbe.trans z) hb
    ·rw [hbe];exact z
   rw [q] at q';cases q';obtain ⟨v,hv⟩:=heo;exact ⟨v,by rw [hbe];exact hv⟩
  ·refine (ok b u q).stay (fun c v hc r=>k c v ?_ r) (fun c r=>by rw [aR (nown c b r)];exact r) fun c xs r=>by rw [aR (ntup c xs r)];exact r
   rcases hc with rfl | hc
   ·exact hbe
   ·rintro rfl;rcases he with z | z
    ·exact nown c b hc z
    ·rw [hc] at z;cases z;exact hb rfl
end
structure Un (fs ex:List Addr) (H H':Hp) (h h':Heap):Prop where
 keep:∀ b o,h.get? b=some o->H b=none->b∉fs->b∉ex->h'.get? b=some o
 slot:∀ b o,h.get? b=some o->H b=none->b∈fs->b∉ex->∃ sl,h'.get? b=some { o with slots:=sl }
 free:∀ b o,h.get? b=some o->H b=none->b∉ex->H' b=none
 there:∀ b o,h.get? b=some o->b∉ex->∃ o',h'.get? b=some o'
 tups:∀ b xs,H b=some (.tup xs)->H' b=some (.tup xs)
 frzs:∀ b o u,H b=some (.frz o u)->H' b=some (.frz o u)
 tbls:∀ b ps,H b=some (.tbl ps)->∃ more,H' b=some (.tbl (ps++more))
section
variable {fs fs' ex ex':List Addr} {H H1 H2:Hp} {h h1 h2 h':Heap} {a x e:Addr} {o:HO}
def Un.any (u:Un fs ex H H1 h h1) {b:Addr} {ob:Obj} (q:h.get? b=some ob) (n:H b=none) (hx:b∉ex):∃ sl,h1.get? b=some { ob with slots:=sl }:=by
 by_cases hb:b∈fs
 ·exact u.slot b ob q n hb hx
 ·exact ⟨ob.slots,u.keep b ob q n hb hx⟩
def Un.kept (k:∀ b u,h.get? b=some u->h'.get? b=some u):Un fs ex H H h h' :=
 ⟨fun b ob q _ _ _=>k b ob q,fun b ob q _ _ _=>⟨ob.slots,k b ob q⟩,fun _ _ _ n _=>n,fun b ob q _=>⟨ob,k b ob q⟩,fun _ _ q=>q,fun _ _ _ q=>q,fun _ ps q=>⟨#[],by rw [q];simp⟩⟩
def Un.refl:Un fs ex H H h h:=Un.kept fun _ _ q=>q
def Un.laid (k:∀ b u,h.get? b=some u->h'.get? b=some u) (hp:h.objs.size<=a) (hn:H a=none):Un fs ex H (upd H a o) h h' where
 keep:=fun b u q _ _ _=>k b u q
 slot:=fun b u q _ _ _=>⟨u.slots,k b u q⟩
 free:=fun b u q n _=>by rw [aR (Nat.ne_of_lt (Nat.lt_of_lt_of_le (Heap.lt_size q) hp))];exact n
 there:=fun b u q _=>⟨u,k b u q⟩
 tups:=fun b xs q=>by rw [aR (aU q hn)];exact q
 frzs:=fun b u xs q=>by rw [aR (aU q hn)];exact q
 tbls:=fun b ps q=>⟨#[],by rw [aR (aU q hn),q];simp⟩
def Un.write (mu:Mut (H x)) (he:e=x\/H e=some (.own x)) (k:∀ b u,b≠e->h.get? b=some u->h'.get? b=some u) (heo:∃ u,h'.get? e=some u):Un fs ex H (upd H x o) h h':=by
 have hx:∀ b,H b=none->b≠x:=fun b n z=>by subst z;rw [n] at mu;exact mu
 have hb:∀ b,H b=none->b≠e:=fun b n z=>by
  subst z;rcases he with r | r
  ·exact hx b n r
  ·rw [n] at r;cases r
 have hm:∀ b u,H b=some u->¬ Mut (some u)->b≠x:=fun b u q nm z=>by subst z;rw [q] at mu;exact nm mu
 refine ⟨fun b u q n _ _=>k b u (hb b n) q,fun b u q n _ _=>⟨u.slots,k b u (hb b n) q⟩,fun b u q n _=>by rw [aR (hx b n)];exact n,fun b u q _=>?_,
  fun b xs q=>by rw [aR (hm b _ q fun z=>z)];exact q,fun b u xs q=>by rw [aR (hm b _ q fun z=>z)];exact q,fun b ps q=>⟨#[],by rw [aR (hm b _ q fun z=>z),q];simp⟩⟩
 by_cases hbe:b=e
 ·subst hbe;exact heo
 ·exact ⟨u,k b u hbe q⟩
end
noncomputable def trk (h:Heap) (H:Hp):List Addr:=(List.range h.objs.size).filter fun a=>(H a).isSome
noncomputable def rW (h:Heap) (H:Hp):Heap:=PySem.W.hideAll h (trk h H)
def aC8 (h:Heap) (H:Hp):(rW h H).objs.size=h.objs.size:=PySem.W.hideAll_size _ _
def aL1 {h:Heap} {H:Hp} {b:Addr} {o:Obj} (e:h.get? b=some o) (n:H b=none):(rW h H).get? b=some o :=
 PySem.W.hideAll_get _ e fun hm=>by
  have q:(H b).isSome=true:=(List.mem_filter.mp hm).2;rw [n] at q;simp at q
def bA8 {h:Heap} {H:Hp} {b:Addr} {o:Obj} (e:(rW h H).get? b=some o):h.get? b=some o/\H b=none:=by
 have e':h.get? b=some o:=PySem.W.of_hideAll (trk h H) e;refine ⟨e',?_⟩;cases q:H b with
 | none=>rfl
 | some x =>
  have hm:b∈trk h H:=List.mem_filter.mpr ⟨List.mem_range.mpr (Heap.lt_size e'),by simp [q]⟩;have z:(rW h H).get? b=none:=PySem.W.hideAll_none (trk h H) hm;rw [z] at e;cases e
noncomputable def bA9 (g h:Heap) (L:Addr):List (Addr×Obj):=(List.range h.objs.size).filterMap fun a=>if a=L\/(g.get? a).isSome=true then none else (h.get? a).map fun o=>(a,o)
noncomputable def rest (g h:Heap) (L d:Addr):List (Addr×Obj):=(bA9 g h L).filter fun p=>decide (p.1≠d)
structure Mod (K:Frag) (mg:Str->Option Value) (base:Heap):Prop where
 kin:K.In base
 glob:base.Ns mainGlobals mg
 blt:∃ mb,base.Ns builtinsNs mb/\∀ x:Str,x≠"__name__"->mb x=bootBuiltins x
 nolimit:base.NoLimit
structure Cx where
 prog:Program
 w:World
 K:Frag
 mg:Str->Option Value
 base:Heap
 A:Around
 N:List Str
 s₀:Shared
 H₀:Hp
 env:Env
 outer:List Env
 stack:List Env
 ex:List Addr
 fn:Str->Bool
 calm:Bool
 pn:List (Addr×Obj)
 xe:Value->Shared->Prop
noncomputable def frs (l:List Env):List Addr:=l.filterMap (·.frame)
noncomputable abbrev Cx.fs (X:Cx):List Addr:=frs X.outer
def Vis (sc:Scope) (x:Str):Prop:=sc.names.lookup x=some .local\/sc.names.lookup x=some .cell\/sc.names.lookup x=some .free
def Loc (sc:Scope) (x:Str):Prop:=sc.names.lookup x=some .local\/sc.names.lookup x=some .cell
def dL3 (env:Env) (h:Heap) (m:Str->Option Value) (x:Str) (u:Value):Prop :=
 (env.kindOf x=some .local/\m x=some u)\/((env.kindOf x=some .cell\/env.kindOf x=some .free)/\∃ c,env.cells.lookup x=some c/\h.IsCell c (some u))
structure Cx.Ok (X:Cx):Prop where
 mod:Mod X.K X.mg X.base
 kind:X.env.scope.kind=.function
 glob:X.env.globals=mainGlobals
 blt:X.env.builtins=builtinsNs
 above:X.s₀.heap.objs.size<=X.env.locals
 inj:∀ x y c,X.env.cells.lookup x=some c->X.env.cells.lookup y=some c->x=y
 has:∀ x,(X.env.kindOf x=some .cell\/X.env.kindOf x=some .free)->∃ c,X.env.cells.lookup x=some c
 cab:∀ x c,X.fn x=true->X.env.cells.lookup x=some c->X.s₀.heap.objs.size<=c
 hd:X.calm=true->X.A.handled=none
 frames:X.A.frames=some X.stack
 stk:X.stack=X.outer\/(X.stack=X.env::X.outer/\X.env.frame=some X.env.locals)
 exf:∀ b∈X.ex,b≠X.env.locals/\∀ x c,X.env.cells.lookup x=some c->c≠b
 bs:∀ b o,X.base.get? b=some o->X.s₀.heap.get? b=some o/\X.H₀ b=none
 bsz:X.base.objs.size<=X.s₀.heap.objs.size
 noex:∀ b o,X.base.get? b=some o->b∉X.ex
 exfs:∀ b∈X.ex,b∉X.fs
 funs:X.s₀.heap.FunFrames X.base X.outer
 frf:∀ b∈X.fs,X.H₀ b=none
structure Inv (X:Cx) (pins:List (Addr×Obj)) (σ:List (Option V)) (H:Hp) (s:Shared):Prop where
 ok:X.Ok
 os:s.os=X.s₀.os
 bare:AllBare s.gens
 base:Un X.fs X.ex X.H₀ H X.s₀.heap s.heap
 loc:∃ m,s.heap.Ns X.env.locals m/\∀ (i:Nat) (x:Str) (v:V),X.N[i]?=some x->σ[i]?=some (some v)->Vis X.env.scope x->∃ u,RelV v u/\dL3 X.env s.heap m x u
 cell:∀ x c,X.env.cells.lookup x=some c->∃ v,s.heap.IsCell c v
 free:H X.env.locals=none
 freeC:∀ x c,X.env.cells.lookup x=some c->H c=none
 pin:∀ p∈X.pn++pins,s.heap.get? p.1=some p.2/\H p.1=none/\p.1≠X.env.locals/\p.1∉X.fs/\∀ v,p.2.data≠.cell v
 hok:HOk X.prog X.w H s.heap
 len:σ.length=X.N.length
section
variable {X:Cx} {pins:List (Addr×Obj)} {σ:List (Option V)} {H H':Hp} {s:Shared} {h':Heap}
def Cx.Ok.nofr (ok:X.Ok) {b:Addr} {o:Obj} (e:X.base.get? b=some o):b∉X.fs:=fun hb=>by
 have:=(ok.funs.mem hb).1;rw [e] at this;cases this
def Inv.bs (I:Inv X pins σ H s):∀ b o,X.base.get? b=some o->s.heap.get? b=some o/\H b=none:=fun b o e =>
 ⟨I.base.keep b o (I.ok.bs b o e).1 (I.ok.bs b o e).2 (I.ok.nofr e) (I.ok.noex b o e),I.base.free b o (I.ok.bs b o e).1 (I.ok.bs b o e).2 (I.ok.noex b o e)⟩
def Inv.bk (I:Inv X pins σ H s):∀ b o,X.base.get? b=some o->s.heap.get? b=some o:=fun b o e=>(I.bs b o e).1
def Inv.mod (I:Inv X pins σ H s):Mod X.K X.mg X.base:=I.ok.mod
def Inv.kIn (I:Inv X pins σ H s):X.K.In s.heap:=I.ok.mod.kin.keeps I.bk
def Inv.lt (I:Inv X pins σ H s):X.env.locals < s.heap.objs.size:=let ⟨_,hn,_⟩:=I.loc;hn.lt
def Inv.sz (I:Inv X pins σ H s):X.s₀.heap.objs.size<=s.heap.objs.size:=Nat.le_trans I.ok.above (Nat.le_of_lt I.lt)
def Inv.nofs (I:Inv X pins σ H s) {a:Addr} (h:s.heap.objs.size<=a):a∉X.fs:=fun hb=>by
 obtain ⟨_,o,ho,_⟩:=I.ok.funs.mem hb;exact absurd (Nat.lt_of_lt_of_le (Heap.lt_size ho) (Nat.le_trans I.sz h)) (Nat.lt_irrefl _)
def Inv.cne (I:Inv X pins σ H s):∀ x c,X.env.cells.lookup x=some c->c≠X.env.locals:=fun x c e z=>by
 obtain ⟨v,o,ho,hd⟩:=I.cell x c e;obtain ⟨m,⟨o',es,ep,ho',hd',_⟩,_⟩:=I.loc;rw [z,ho'] at ho;cases ho;rw [hd'] at hd;cases hd
def Inv.funs (I:Inv X pins σ H s):s.heap.FunFrames X.base X.outer:=by
 have all:∀ (l:List Env),(∀ b∈frs l,b∈X.fs)->X.s₀.heap.FunFrames X.base l->s.heap.FunFrames X.base l:=by
  intro l;induction l with
  | nil=>intro _ _;trivial
  | cons env r ih =>
   intro hs hl;obtain ⟨hk,⟨L,o,hf,hn,ho,hd⟩,hr⟩:=hl;have hL:L∈X.fs:=hs L (by unfold frs;rw [List.filterMap_cons,hf];exact List.mem_cons_self);obtain ⟨sl,e⟩:=I.base.slot L o ho (I.ok.frf L hL) hL fun z=>I.ok.exfs L z hL;exact ⟨hk,⟨L,_,hf,hn,e,hd⟩,ih (fun b hb=>hs b (by unfold frs;rw [List.filterMap_cons,hf];exact List.mem_cons_of_mem _ hb)) hr⟩
 exact all X.outer (fun _ hb=>hb) I.ok.funs
def Inv.stack (I:Inv X pins σ H s):s.heap.FunFrames X.base X.stack:=by
 rcases I.ok.stk with e | ⟨e,hf⟩
 ·rw [e];exact I.funs
 ·rw [e];obtain ⟨m,hn,_⟩:=I.loc;refine .cons (by rw [I.ok.kind];decide) hf hn ?_ I.funs;exact Heap.get?_none_of_le (Nat.le_trans I.ok.bsz I.ok.above)
def Inv.stkSub (I:Inv X pins σ H s):∀ b∈frs X.stack,b∈X.env.locals::X.fs:=fun b hb=>by
 rcases I.ok.stk with e | ⟨e,hf⟩
 ·rw [e] at hb;exact List.mem_cons_of_mem _ hb
 ·rw [e] at hb;unfold frs at hb;rw [List.filterMap_cons,hf] at hb;exact hb
def Inv.stkFree (I:Inv X pins σ H s):∀ b∈frs X.stack,H b=none:=fun b hb=>by
 rcases List.mem_cons.mp (I.stkSub b hb) with e | hb
 ·rw [e];exact I.free
 ·obtain ⟨_,o,ho,_⟩:=I.ok.funs.mem hb;exact I.base.free b o ho (I.ok.frf b hb) fun z=>I.ok.exfs b z hb
def Inv.step {g':Array GenState} {t':Nat} {d':Drawn} {ch:List Addr} (I:Inv X pins σ H s)
  (hch:∀ b∈ch,(b∈X.ex\/X.s₀.heap.objs.size<=b)/\b≠X.env.locals/\(∀ x c,X.env.cells.lookup x=some c->c≠b)/\∀ p∈X.pn++pins,p.1≠b)
  (keep:∀ b o,b≠X.env.locals->b∉X.fs->b∉ch->s.heap.get? b=some o->H b=none->h'.get? b=some o)
  (slot:∀ b o,b≠X.env.locals->b∈X.fs->b∉ch->s.heap.get? b=some o->H b=none->∃ sl,h'.get? b=some { o with slots:=sl }) (free:∀ b o,b∉ch->s.heap.get? b=some o->H b=none->H' b=none)
  (there:∀ b o,b∉ch->s.heap.get? b=some o->∃ o',h'.get? b=some o')
  (tups:∀ b xs,H b=some (.tup xs)->H' b=some (.tup xs)) (frzs:∀ b o u,H b=some (.frz o u)->H' b=some (.frz o u)) (tbls:∀ b ps,H b=some (.tbl ps)->∃ more,H' b=some (.tbl (ps++more)))
  (ns:∀ m,s.heap.Ns X.env.locals m->h'.Ns X.env.locals m) (hok:HOk X.prog X.w H' h') (hg:AllBare g') :
  Inv X pins σ H' { s with heap:=h',gens:=g',drawn:=d',toks:=t' }:=by
 have neL:∀ b o,X.s₀.heap.get? b=some o->b≠X.env.locals:=fun b o e=>Nat.ne_of_lt (Nat.lt_of_lt_of_le (Heap.lt_size e) I.ok.above);have neC:∀ b o,X.s₀.heap.get? b=some o->b∉X.ex->b∉ch:=fun b o e hx hb=>by
  rcases (hch b hb).1 with z | z
  ·exact hx z
  ·exact absurd (Nat.lt_of_lt_of_le (Heap.lt_size e) z) (Nat.lt_irrefl _)
 have cellK:∀ x c,X.env.cells.lookup x=some c->∀ v,s.heap.IsCell c v->h'.IsCell c v:=fun x c e v ⟨o,ho,hd⟩=>by
  have nch:c∉ch:=fun z=>(hch c z).2.2.1 x c e rfl
  by_cases hc:c∈X.fs
  ·obtain ⟨sl,q⟩:=slot c o (I.cne x c e) hc nch ho (I.freeC x c e);exact ⟨_,q,hd⟩
  ·exact ⟨o,keep c o (I.cne x c e) hc nch ho (I.freeC x c e),hd⟩
 refine ⟨I.ok,I.os,hg,⟨fun b o e n hb hx=>?_,fun b o e n hb hx=>?_,fun b o e n hx=>?_,fun b o e hx=>?_,fun b xs e=>tups b xs (I.base.tups b xs e),fun b o xs e=>frzs b o xs (I.base.frzs b o xs e),fun b ps e=>?_⟩,?_,fun x c e=>?_,?_,fun x c e=>?_,fun p hp=>?_,hok,I.len⟩
 ·exact keep b o (neL b o e) hb (neC b o e hx) (I.base.keep b o e n hb hx) (I.base.free b o e n hx)
 ·obtain ⟨sl,e1⟩:=I.base.slot b o e n hb hx;obtain ⟨sl',e2⟩:=slot b _ (neL b o e) hb (neC b o e hx) e1 (I.base.free b o e n hx);exact ⟨sl',e2⟩
 ·obtain ⟨o',e1⟩:=I.base.there b o e hx;exact free b o' (neC b o e hx) e1 (I.base.free b o e n hx)
 ·obtain ⟨o',e1⟩:=I.base.there b o e hx;exact there b o' (neC b o e hx) e1
 ·obtain ⟨m1,e1⟩:=I.base.tbls b ps e;obtain ⟨m2,e2⟩:=tbls b _ e1;exact ⟨m1++m2,by rw [e2,Array.append_assoc]⟩
 ·obtain ⟨m,hn,hl⟩:=I.loc;refine ⟨m,ns m hn,fun i x v e1 e2 e3=>?_⟩;obtain ⟨u,r,l⟩:=hl i x v e1 e2 e3;refine ⟨u,r,?_⟩;rcases l with l | ⟨k,c,e,z⟩
  ·exact .inl l
  ·exact .inr ⟨k,c,e,cellK x c e _ z⟩
 ·obtain ⟨v,z⟩:=I.cell x c e;exact ⟨v,cellK x c e v z⟩
 ·obtain ⟨m,⟨o,_,_,ho,_⟩,_⟩:=I.loc;exact free _ o (fun z=>(hch _ z).2.1 rfl) ho I.free
 ·obtain ⟨v,o,ho,hd⟩:=I.cell x c e;exact free c o (fun z=>(hch c z).2.2.1 x c e rfl) ho (I.freeC x c e)
 ·obtain ⟨e,n,ne,nf,d⟩:=I.pin p hp;have nch:p.1∉ch:=fun z=>(hch p.1 z).2.2.2 p hp rfl;exact ⟨keep p.1 p.2 ne nf nch e n,free p.1 p.2 nch e n,ne,nf,d⟩
def Inv.un {t':Nat} (I:Inv X pins σ H s) (u:Un X.fs [] H H' s.heap h') (hok:HOk X.prog X.w H' h'):Inv X pins σ H' { s with heap:=h',toks:=t' }:=by
 obtain ⟨m,⟨o,es,ep,ho,r⟩,_⟩:=id I.loc;obtain ⟨sl,hL⟩:=u.any ho I.free (by simp);exact I.step (g':=s.gens) (d':=s.drawn) (ch:=[]) (fun _ z=>nomatch z) (fun b o _ hb _ e n=>u.keep b o e n hb (by simp)) (fun b o _ hb _ e n=>u.slot b o e n hb (by simp)) (fun b o _ e n=>u.free b o e n (by simp)) (fun b o _ e=>u.there b o e (by simp)) u.tups u.frzs u.tbls (fun m' hm=>by
  obtain ⟨o',es',ep',ho',r'⟩:=hm;rw [ho] at ho';cases ho';exact ⟨_,es',ep',hL,r'⟩) hok I.bare
def Inv.call {g':Array GenState} {t':Nat} {d':Drawn} {ch:List Addr} (I:Inv X pins σ H s) (u:Un (frs X.stack) ch H H' s.heap h') (hok:HOk X.prog X.w H' h') (hg:AllBare g')
  (hch:∀ b∈ch,(b∈X.ex\/X.s₀.heap.objs.size<=b)/\b≠X.env.locals/\(∀ x c,X.env.cells.lookup x=some c->c≠b)/\∀ p∈X.pn++pins,p.1≠b) :
  Inv X pins σ H' { s with heap:=h',gens:=g',drawn:=d',toks:=t' }:=by
 obtain ⟨m,⟨o,es,ep,ho,r⟩,_⟩:=id I.loc;obtain ⟨sl,hL⟩:=u.any ho I.free fun z=>(hch _ z).2.1 rfl;exact I.step (ch:=ch) hch (fun b o hL hb hc e n=>u.keep b o e n (fun z=>(List.mem_cons.mp (I.stkSub b z)).elim hL hb) hc) (fun b o _ _ hc e n=>u.any e n hc) (fun b o hc e n=>u.free b o e n hc) (fun b o hc e=>u.there b o e hc) u.tups u.frzs u.tbls (fun m' hm=>by
  obtain ⟨o',es',ep',ho',r'⟩:=hm;rw [ho] at ho';cases ho';exact ⟨_,es',ep',hL,r'⟩) hok hg
def Inv.turned {t':Nat} {it:Addr} (I:Inv X pins σ H s) (k:∀ b o,b≠it->s.heap.get? b=some o->h'.get? b=some o) (hn:H it=none) (hL:it≠X.env.locals)
  (h1:it∈X.ex\/X.s₀.heap.objs.size<=it) (h2:∀ x c,X.env.cells.lookup x=some c->c≠it) (h3:∀ p∈X.pn++pins,p.1≠it):Inv X pins σ H { s with heap:=h',toks:=t' }:=by
 have nit:∀ b u,H b=some u->b≠it:=fun b u e z=>by rw [z,hn] at e;cases e
 refine I.step (g':=s.gens) (d':=s.drawn) (ch:=[it]) (fun b hb=>?_) (fun b o _ _ hc e _=>k b o (fun z=>hc (by simp [z])) e) (fun b o _ _ hc e _=>⟨o.slots,k b o (fun z=>hc (by simp [z])) e⟩) (fun _ _ _ _ n=>n)
  (fun b o hc e=>⟨o,k b o (fun z=>hc (by simp [z])) e⟩) (fun _ _ e=>e) (fun _ _ _ e=>e) (fun b ps e=>⟨#[],by rw [e];simp⟩) (fun m hm=>?_) (fun b u e=>?_) I.bare
 ·have e:b=it:=by simpa using hb
  subst e;exact ⟨h1,hL,h2,h3⟩
 ·obtain ⟨o,es,ep,ho,r⟩:=hm;exact ⟨o,es,ep,k _ o (Ne.symm hL) ho,r⟩
 ·refine (I.hok b u e).stay (fun c v hc q=>k c v ?_ q) (fun _ q=>q) fun _ _ q=>q;rcases hc with z | z
  ·rw [z];exact nit b u e
  ·exact nit c _ z
def Inv.tok (I:Inv X pins σ H s) (t:Nat):Inv X pins σ H { s with toks:=t }:=I.un (h':=s.heap) (t':=t) Un.refl I.hok
def Inv.kept {t':Nat} (I:Inv X pins σ H s) (k:∀ b u,s.heap.get? b=some u->h'.get? b=some u):Inv X pins σ H { s with heap:=h',toks:=t' }:=I.un (Un.kept k) (I.hok.kept k)
def Inv.laid {a:Addr} {o:HO} {t':Nat} (I:Inv X pins σ H s) (k:∀ b u,s.heap.get? b=some u->h'.get? b=some u) (hp:s.heap.objs.size<=a) (new:ObjOk X.prog X.w (upd H a o) h' a o) :
  Inv X pins σ (upd H a o) { s with heap:=h',toks:=t' }:=I.un (Un.laid k hp (I.hok.fresh hp)) (I.hok.laid k hp new)
def Inv.write {x e:Addr} {o:HO} {t':Nat} (I:Inv X pins σ H s) (mu:Mut (H x)) (he:e=x\/H e=some (.own x)) (k:∀ b u,b≠e->s.heap.get? b=some u->h'.get? b=some u) (heo:∃ u,h'.get? e=some u)
  (new:ObjOk X.prog X.w (upd H x o) h' x o):Inv X pins σ (upd H x o) { s with heap:=h',toks:=t' }:=I.un (Un.write mu he k heo) (I.hok.write mu he k heo new)
def Inv.pins_of {pins':List (Addr×Obj)} (I:Inv X pins σ H s) (h:∀ p∈pins',s.heap.get? p.1=some p.2/\H p.1=none/\p.1≠X.env.locals/\p.1∉X.fs/\∀ v,p.2.data≠.cell v):Inv X pins' σ H s :=
 ⟨I.ok,I.os,I.bare,I.base,I.loc,I.cell,I.free,I.freeC,fun p hp=>(List.mem_append.mp hp).elim (fun z=>I.pin p (List.mem_append_left _ z)) (h p),I.hok,I.len⟩
def uC {N:List Str} (hN:N.Nodup) {i j:Nat} {x:Str} (a:N[i]?=some x) (b:N[j]?=some x):i=j:=by
 obtain ⟨h1,e1⟩:=List.getElem?_eq_some_iff.mp a;obtain ⟨h2,e2⟩:=List.getElem?_eq_some_iff.mp b;exact (List.getElem_inj hN).mp (e1.trans e2.symm)
def qB {M:Model} {A:Around} {E:Value->Shared->Prop} {i:Nat} {x:Str} {v:V} {u:Value} {Q:Unit->Shared->Prop} (I:Inv X pins σ H s) (hN:X.N.Nodup) (hi:X.N[i]?=some x) (hx:Loc X.env.scope x) (r:RelV v u)
  (h:∀ s',Inv X pins (σ.set i (some v)) H s'->(∃ a,Heap.SameBut a s.heap s'.heap/\(a=X.env.locals\/X.env.cells.lookup x=some a))->Q () s') (hf:X.fn x=true\/X.env.scope.names.lookup x=some .local:=by first | exact .inl rfl | exact .inr rfl | assumption):wpAny M A (storeName X.env x u) Q E s:=by
 obtain ⟨m,hn,hl⟩:=id I.loc;have hcls:(X.env.scope.kind==.class||(X.env.scope.kind==.module&&X.env.locals != X.env.globals))=false:=by rw [I.ok.kind];rfl
 have hiσ:i < σ.length:=by rw [I.len];exact (List.getElem?_eq_some_iff.mp hi).1
 have cne:=I.cne;have tracked:∀ {a:Addr} {h':Heap},(∃ o,s.heap.get? a=some o/\H a=none)->Heap.SameBut a s.heap h'->HOk X.prog X.w H h':=fun {a h'} ha hs b ob e=>by
  obtain ⟨_,_,hfree⟩:=ha;refine (I.hok b ob e).stay (fun c w' hc q=>(hs.2 c ?_).trans q) (fun _ q=>q) fun _ _ q=>q;rintro rfl;rcases hc with rfl | hc
  ·rw [hfree] at e;cases e
  ·rw [hfree] at hc;cases hc
 rcases hx with hk | hk
 ·refine wpAny_storeName_local hk hn (fun h' hn' hs=>?_) hcls;obtain ⟨oL,_,_,hoL,_⟩:=id hn;refine h _ ⟨I.ok,I.os,I.bare,⟨fun b o e n hb hx=>?_,fun b o e n hb hx=>?_,I.base.free,fun b o e hx=>?_,I.base.tups,I.base.frzs,I.base.tbls⟩,⟨_,hn',fun j y v' e1 e2 e3=>?_⟩,fun y c e=>?_,I.free,I.freeC,fun p hp=>?_,tracked ⟨oL,hoL,I.free⟩ hs,by simpa using I.len⟩ ⟨_,hs,.inl rfl⟩
  ·exact (hs.2 b (Nat.ne_of_lt (Nat.lt_of_lt_of_le (Heap.lt_size e) I.ok.above))).trans (I.base.keep b o e n hb hx)
  ·obtain ⟨sl,e1⟩:=I.base.slot b o e n hb hx;exact ⟨sl,(hs.2 b (Nat.ne_of_lt (Nat.lt_of_lt_of_le (Heap.lt_size e) I.ok.above))).trans e1⟩
  ·obtain ⟨o',e1⟩:=I.base.there b o e hx;exact ⟨o',(hs.2 b (Nat.ne_of_lt (Nat.lt_of_lt_of_le (Heap.lt_size e) I.ok.above))).trans e1⟩
  ·by_cases hj:j=i
   ·subst hj;rw [hi] at e1;cases e1;rw [List.getElem?_set_self hiσ] at e2;cases e2;exact ⟨u,r,.inl ⟨hk,by simp⟩⟩
   ·rw [List.getElem?_set_ne (Ne.symm hj)] at e2;obtain ⟨u',r',q⟩:=hl j y v' e1 e2 e3;refine ⟨u',r',?_⟩;rcases q with ⟨k,e⟩ | ⟨k,c,e,z⟩
    ·refine .inl ⟨k,?_⟩;have:y≠x:=fun e=>hj (uC hN e1 (e ▸ hi));simp [this,e]
    ·exact .inr ⟨k,c,e,z.sameBut hs (cne y c e)⟩
  ·obtain ⟨w',z⟩:=I.cell y c e;exact ⟨w',z.sameBut hs (cne y c e)⟩
  ·obtain ⟨e,n,ne,nf,d⟩:=I.pin p hp;exact ⟨(hs.2 p.1 ne).trans e,n,ne,nf,d⟩
 ·have hfn:X.fn x=true:=by
   rcases hf with z | z
   ·exact z
   ·rw [z] at hk;cases hk
  obtain ⟨c,hc⟩:=I.ok.has x (.inl hk);obtain ⟨w',z⟩:=I.cell x c hc;refine wpAny_storeName_cell I.ok.kind hk hc z (fun h' hc' hs=>?_);obtain ⟨oc,hoc,hocd⟩:=id z;refine h { s with heap:=h' } ⟨I.ok,I.os,I.bare,⟨fun b o e n hb hx=>?_,fun b o e n hb hx=>?_,I.base.free,fun b o e hx=>?_,I.base.tups,I.base.frzs,I.base.tbls⟩,⟨m,hn.sameBut hs (Ne.symm (cne x c hc)),fun j y v' e1 e2 e3=>?_⟩,fun y c' e=>?_,I.free,I.freeC,fun p hp=>?_,tracked ⟨oc,hoc,I.freeC x c hc⟩ hs,by simpa using I.len⟩ ⟨c,hs,.inr hc⟩
  ·exact (hs.2 b (Nat.ne_of_lt (Nat.lt_of_lt_of_le (Heap.lt_size e) (I.ok.cab x c hfn hc)))).trans (I.base.keep b o e n hb hx)
  ·obtain ⟨sl,e1⟩:=I.base.slot b o e n hb hx;exact ⟨sl,(hs.2 b (Nat.ne_of_lt (Nat.lt_of_lt_of_le (Heap.lt_size e) (I.ok.cab x c hfn hc)))).trans e1⟩
  ·obtain ⟨o',e1⟩:=I.base.there b o e hx;exact ⟨o',(hs.2 b (Nat.ne_of_lt (Nat.lt_of_lt_of_le (Heap.lt_size e) (I.ok.cab x c hfn hc)))).trans e1⟩
  ·by_cases hj:j=i
   ·subst hj;rw [hi] at e1;cases e1;rw [List.getElem?_set_self hiσ] at e2;cases e2;exact ⟨u,r,.inr ⟨.inl hk,c,hc,hc'⟩⟩
   ·rw [List.getElem?_set_ne (Ne.symm hj)] at e2;obtain ⟨u',r',q⟩:=hl j y v' e1 e2 e3;refine ⟨u',r',?_⟩;rcases q with q | ⟨k,c',e,z'⟩
    ·exact .inl q
    ·refine .inr ⟨k,c',e,z'.sameBut hs ?_⟩;rintro rfl;exact hj (uC hN e1 (I.ok.inj _ _ _ e hc ▸ hi))
  ·by_cases hcc:c'=c
   ·subst hcc;exact ⟨_,hc'⟩
   ·obtain ⟨w2,z2⟩:=I.cell y c' e;exact ⟨w2,z2.sameBut hs hcc⟩
  ·obtain ⟨e,n,ne,nf,d⟩:=I.pin p hp;refine ⟨(hs.2 p.1 ?_).trans e,n,ne,nf,d⟩;intro q;rw [q,hoc] at e;have q':oc=p.2:=Option.some.inj e;exact d w' (by rw [<- q'];exact hocd)
def gC {M:Model} {A:Around} {E:Value->Shared->Prop} {i:Nat} {x:Str} {v:V} {u:Value} {Q:Unit->Shared->Prop} (I:Inv X pins σ H s) (hN:X.N.Nodup) (hi:X.N[i]?=some x) (hx:Loc X.env.scope x) (r:RelV v u)
  (h:∀ s',Inv X pins (σ.set i (some v)) H s'->Q () s') (hf:X.fn x=true\/X.env.scope.names.lookup x=some .local:=by first | exact .inl rfl | exact .inr rfl | assumption):wpAny M A (storeName X.env x u) Q E s :=
 qB I hN hi hx r (fun s' I' _=>h s' I') hf
def Inv.call' {s':Shared} {ch:List Addr} (I:Inv X pins σ H s) (ho:s'.os=s.os) (u:Un (frs X.stack) ch H H' s.heap s'.heap) (hok:HOk X.prog X.w H' s'.heap) (hg:AllBare s'.gens)
  (hch:∀ b∈ch,(b∈X.ex\/X.s₀.heap.objs.size<=b)/\b≠X.env.locals/\(∀ x c,X.env.cells.lookup x=some c->c≠b)/\∀ p∈X.pn++pins,p.1≠b):Inv X pins σ H' s':=by
 obtain ⟨h',g',d',t',o'⟩:=s';have e:o'=s.os:=ho;subst e;exact I.call (g':=g') (t':=t') (d':=d') u hok hg hch
end
abbrev XK:=Value->Option Addr->Hp->Prop
abbrev St:=List (Option V)
abbrev VK:=V->Hp->Prop
abbrev TE:=St->Hp->VK->Prop
abbrev TT:=St->Hp->(Bool->Hp->Prop)->Prop
abbrev TA:=St->Hp->(List V->Hp->Prop)->Prop
structure Ends where
 nx:St->Hp->Prop
 rt:VK
 bk:St->Hp->Prop:=fun _ _=>False
 ct:St->Hp->Prop:=fun _ _=>False
abbrev TS:=Ends->St->Hp->Prop
def EP (X:Cx) (pins:List (Addr×Obj)) (σ:St) (Q:VK) (u:Value) (s':Shared):Prop:=∃ v H',Inv X pins σ H' s'/\RelV v u/\Q v H'
def TP (X:Cx) (pins:List (Addr×Obj)) (σ:St) (Q:Bool->Hp->Prop) (b:Bool) (s':Shared):Prop:=∃ H',Inv X pins σ H' s'/\Q b H'
def AP (X:Cx) (pins:List (Addr×Obj)) (σ:St) (Q:List V->Hp->Prop) (us:List Value) (s':Shared):Prop:=∃ vs H',Inv X pins σ H' s'/\Vals vs us/\Q vs H'
def SP (X:Cx) (pins:List (Addr×Obj)) (D:Ends) (f:Flow) (s':Shared):Prop :=
 match f with
 | .next=>∃ σ' H',Inv X pins σ' H' s'/\D.nx σ' H'
 | .brk=>∃ σ' H',Inv X pins σ' H' s'/\D.bk σ' H'
 | .cont=>∃ σ' H',Inv X pins σ' H' s'/\D.ct σ' H'
 | .ret u=>∃ v σ' H',Inv X pins σ' H' s'/\RelV v u/\D.rt v H'
def PE (X:Cx) (e:Expr) (t:TE):Prop :=
 ∀ (pins:List (Addr×Obj)) (s:Shared) (σ:St) (H:Hp) (Q:VK),Inv X pins σ H s->t σ H Q->wpAny (model X.prog X.w) X.A (eval e X.env) (EP X pins σ Q) X.xe s
def PT (X:Cx) (e:Expr) (t:TT):Prop :=
 ∀ (pins:List (Addr×Obj)) (s:Shared) (σ:St) (H:Hp) (Q:Bool->Hp->Prop),Inv X pins σ H s->t σ H Q->wpAny (model X.prog X.w) X.A (isTrue e X.env (eval e X.env)) (TP X pins σ Q) X.xe s
def PW (X:Cx) (e:Expr) (t:TT):Prop :=
 ∀ (whole:Sem Value) (pins:List (Addr×Obj)) (s:Shared) (σ:St) (H:Hp) (Q:Bool->Hp->Prop),Inv X pins σ H s->t σ H Q->wpAny (model X.prog X.w) X.A (isTrue e X.env whole) (TP X pins σ Q) X.xe s
def PA (X:Cx) (es:List Expr) (t:TA):Prop :=
 ∀ (pos:Pos) (pins:List (Addr×Obj)) (s:Shared) (σ:St) (H:Hp) (Q:List V->Hp->Prop),Inv X pins σ H s->t σ H Q->wpAny (model X.prog X.w) X.A (spliced (backTo pos (starEach es X.env))) (AP X pins σ Q) X.xe s
def PS (X:Cx) (st:Stmt) (t:TS):Prop :=
 ∀ (pins:List (Addr×Obj)) (s:Shared) (σ:St) (H:Hp) (D:Ends),Inv X pins σ H s->t D σ H->wpAny (model X.prog X.w) X.A (exec st X.env) (SP X pins D) X.xe s
def PSs (X:Cx) (st:List Stmt) (t:TS):Prop :=
 ∀ (pins:List (Addr×Obj)) (s:Shared) (σ:St) (H:Hp) (D:Ends),Inv X pins σ H s->t D σ H->wpAny (model X.prog X.w) X.A (execs st X.env) (SP X pins D) X.xe s
def thn {α:Type} {t:Sem α} {Q Q':α->Shared->Prop} {M:Model} {A:Around} {E:Value->Shared->Prop} {s:Shared} (h:wpAny M A t Q E s) (hQ:∀ a s,Q a s->Q' a s):wpAny M A t Q' E s:=wpAny_mono h hQ fun _ _ x=>x
section
variable {X:Cx}
def cR1 (i:Nat):TE:=fun σ H Q=>∃ v,σ[i]?=some (some v)/\Q v H
def tC (v:V):TE:=fun _ H Q=>Q v H
def nD {i:Nat} {x:Str} {pos:Pos} (hN:X.N[i]?=some x) (hv:Vis X.env.scope x) (hd:autoParam ((x==("__debug__":Str))=false) ZD) (hcd:autoParam ((x==("__classdict__":Str))=false) ZD):PE X (.Name x pos) (cR1 i):=by
 intro pins s σ H Q I h;obtain ⟨v,e,h⟩:=h;obtain ⟨m,hn,hl⟩:=I.loc;obtain ⟨u,r,l⟩:=hl i x v hN e hv;have fin:EP X pins σ Q u s:=⟨v,H,I,r,h⟩;rcases l with ⟨hk,hm⟩ | ⟨hk,c,hc,hcell⟩
 ·exact wpAny_Name (wpAny_loadName_local I.ok.kind hk hn hm fin) hd
 ·rcases hk with hk | hk
  ·exact wpAny_Name (wpAny_loadName_cell I.ok.kind hk hc hcell fin) hd
  ·exact wpAny_Name (wpAny_loadName_free I.ok.kind hk hc hcell fin hcd) hd
def wT {i j pos}:PE X (.Constant (.int i) j pos) (tC (.int i)):=fun _ _ _ H _ I h=>wpAny_Constant_int ⟨.int i,H,I.tok _,⟨_,rfl⟩,h⟩
def bP7 {b j pos}:PE X (.Constant (.bool b) j pos) (tC (.bl b)):=fun _ _ _ H _ I h=>Constant_bool ⟨.bl b,H,I,rfl,h⟩
def bW9 {j pos}:PE X (.Constant .none j pos) (tC .non):=fun _ _ _ H _ I h=>Constant_none ⟨.non,H,I,rfl,h⟩
def bX0 {x j pos}:PE X (.Constant (.str x) j pos) (tC (.str x)):=fun _ _ _ H _ I h=>Calls.Constant_str ⟨.str x,H,I.tok _,⟨_,rfl⟩,h⟩
def Gl (X:Cx) (x:Str):Prop:=X.env.kindOf x=some .globalImplicit
def iP {E:Value->Shared->Prop} {pins:List (Addr×Obj)} {s:Shared} {σ:St} {H:Hp} {x:Str} {u:Value} {pos:Pos} {Q:Value->Shared->Prop} (I:Inv X pins σ H s) (hg:Gl X x) (hm:X.mg x=some u) (h:Q u s)
  (hd:autoParam ((x==("__debug__":Str))=false) ZD):wpAny (model X.prog X.w) X.A (eval (.Name x pos) X.env) Q E s :=
 Calls.Name_function_global I.ok.kind hg (Calls.loadGlobal_global (by rw [I.ok.glob];exact I.mod.glob.keeps I.bk) hm h) hd
def fU {E:Value->Shared->Prop} {pins:List (Addr×Obj)} {s:Shared} {σ:St} {H:Hp} {x:Str} {u:Value} {pos:Pos} {Q:Value->Shared->Prop} (I:Inv X pins σ H s) (hg:Gl X x) (hm:X.mg x=none) (hv:bootBuiltins x=some u) (h:Q u s)
  (hn:autoParam (x≠"__name__") ZD) (hd:autoParam ((x==("__debug__":Str))=false) ZD):wpAny (model X.prog X.w) X.A (eval (.Name x pos) X.env) Q E s:=by
 obtain ⟨mb,h1,h2⟩:=I.mod.blt;exact Calls.Name_function_global I.ok.kind hg (Calls.loadGlobal_builtin (by rw [I.ok.glob];exact I.mod.glob.keeps I.bk) hm (by rw [I.ok.blt];exact h1.keeps I.bk) ((h2 x hn).trans hv) h) hd
def dP {x:Str} {v:V} {u:Value} {pos:Pos} (hg:Gl X x) (hm:X.mg x=some u) (r:RelV v u) (hd:autoParam ((x==("__debug__":Str))=false) ZD):PE X (.Name x pos) (tC v) :=
 fun _ _ _ H _ I h=>iP I hg hm ⟨v,H,I,r,h⟩ hd
def yZ {x:Str} {v:V} {u:Value} {pos:Pos} (hg:Gl X x) (hm:X.mg x=none) (hv:bootBuiltins x=some u) (r:RelV v u) (hn:autoParam (x≠"__name__") ZD) (hd:autoParam ((x==("__debug__":Str))=false) ZD):PE X (.Name x pos) (tC v) :=
 fun _ _ _ H _ I h=>fU I hg hm hv ⟨v,H,I,r,h⟩ hn hd
variable {a b:Expr} {ta tb:TE} {pos:Pos}
def tB (t:TE):TT:=fun σ H Q=>t σ H fun x H1=>∃ c,x=.bl c/\Q c H1
def bX1 {e:Expr} {t:TE} (h:PE X e t) (he:autoParam (∀ whole,isTrue e X.env whole=(do let v <- whole;standAt e.pos;holding [v] (truthy v))) ZI):PT X e (tB t):=by
 intro pins s σ H Q I hw;refine isTrue_plain (thn (h pins s σ H _ I hw) fun v s1 ⟨x,H1,I1,r1,q1⟩=>?_) (he _);obtain ⟨d,rfl,q⟩:=q1;cases r1;exact wpAny_truthy_bool ⟨H1,I1,q⟩
variable {tA tB':TT} {rest:List Expr}
def dL4 (t u:TT):TT:=fun σ H Q=>t σ H fun c H1=>if c=true then u σ H1 Q else Q false H1
def tOr (t u:TT):TT:=fun σ H Q=>t σ H fun c H1=>if c=true then Q true H1 else u σ H1 Q
def dL5 (t:TT):TT:=fun σ H Q=>t σ H fun c H1=>Q (!c) H1
def bB0 (ha:PT X a tA):PW X (.BoolOp .And [a] pos) tA:=by
 intro wh pins s σ H Q I h;refine isTrue_and (thn (ha pins s σ H Q I h) fun c s1 e=>?_);cases c with
 | true=>exact isTrue_and_nil e
 | false=>exact e
def bX2 (ha:PT X a tA):PW X (.BoolOp .Or [a] pos) tA:=by
 intro wh pins s σ H Q I h;refine isTrue_or (thn (ha pins s σ H Q I h) fun c s1 e=>?_);cases c with
 | false=>exact isTrue_or_nil e
 | true=>exact e
def bX3 (ha:PT X a tA) (hb:PW X (.BoolOp .And (b::rest) pos) tB'):PW X (.BoolOp .And (a::b::rest) pos) (dL4 tA tB'):=by
 intro wh pins s σ H Q I h;refine isTrue_and (thn (ha pins s σ H _ I h) fun c s1 ⟨H1,I1,q1⟩=>?_);cases c with
 | true=>exact hb wh pins s1 σ H1 Q I1 q1
 | false=>exact ⟨H1,I1,q1⟩
def cR2 (ha:PT X a tA) (hb:PW X (.BoolOp .Or (b::rest) pos) tB'):PW X (.BoolOp .Or (a::b::rest) pos) (tOr tA tB'):=by
 intro wh pins s σ H Q I h;refine isTrue_or (thn (ha pins s σ H _ I h) fun c s1 ⟨H1,I1,q1⟩=>?_);cases c with
 | true=>exact ⟨H1,I1,q1⟩
 | false=>exact hb wh pins s1 σ H1 Q I1 q1
def bX4 (ha:PT X a tA):PT X (.UnaryOp .Not a pos) (dL5 tA):=by
 intro pins s σ H Q I h;exact isTrue_not (ha pins s σ H (fun c H1=>Q (!c) H1) I h)
def cR3 (ta tb:TE):TE:=fun σ H Q=>ta σ H fun x H1=>∃ c,x=.bl c/\if c=true then tb σ H1 Q else Q (.bl false) H1
def dL6 (ta tb:TE):TE:=fun σ H Q=>ta σ H fun x H1=>∃ c,x=.bl c/\if c=true then Q (.bl true) H1 else tb σ H1 Q
def cR4 (ta:TE):TE:=fun σ H Q=>ta σ H fun x H1=>∃ c,x=.bl c/\Q (.bl (!c)) H1
def bX5 {op} {t:TE} (h:PE X a t):PE X (.BoolOp op [a] pos) t:=fun pins s σ H Q I hw=>BoolOp_one (h pins s σ H Q I hw)
def bX6 (ha:PE X a ta) (hb:PE X (.BoolOp .And (b::rest) pos) tb):PE X (.BoolOp .And (a::b::rest) pos) (cR3 ta tb):=by
 intro pins s σ H Q I h;refine BoolOp_and (thn (ha pins s σ H _ I h) fun v s1 ⟨x,H1,I1,r1,q1⟩=>?_);obtain ⟨c,rfl,q1⟩:=q1;cases r1;refine wpAny_truthy_bool ?_;cases c with
 | true=>exact hb pins s1 σ H1 Q I1 q1
 | false=>exact ⟨.bl false,H1,I1,rfl,q1⟩
def cR5 (ha:PE X a ta) (hb:PE X (.BoolOp .Or (b::rest) pos) tb):PE X (.BoolOp .Or (a::b::rest) pos) (dL6 ta tb):=by
 intro pins s σ H Q I h;refine BoolOp_or (thn (ha pins s σ H _ I h) fun v s1 ⟨x,H1,I1,r1,q1⟩=>?_);obtain ⟨c,rfl,q1⟩:=q1;cases r1;refine wpAny_truthy_bool ?_;cases c with
 | false=>exact hb pins s1 σ H1 Q I1 q1
 | true=>exact ⟨.bl true,H1,I1,rfl,q1⟩
def bX7 (ha:PE X a ta):PE X (.UnaryOp .Not a pos) (cR4 ta):=by
 intro pins s σ H Q I h;refine UnaryOp_ (thn (ha pins s σ H _ I h) fun v s1 ⟨x,H1,I1,r1,q1⟩=>?_);obtain ⟨c,rfl,q1⟩:=q1;cases r1;exact not_of (wpAny_truthy_bool ⟨.bl (!c),H1,I1,rfl,q1⟩)
def tIf (t:TT) (ta tb:TE):TE:=fun σ H Q=>t σ H fun c H1=>if c=true then ta σ H1 Q else tb σ H1 Q
def aL2 {c:Expr} (hc:PT X c tA) (ha:PE X a ta) (hb:PE X b tb):PE X (.IfExp c a b pos) (tIf tA ta tb):=by
 intro pins s σ H Q I h;refine wpAny_IfExp (thn (hc pins s σ H _ I h) fun d s1 ⟨H1,I1,q1⟩=>?_);cases d with
 | true=>exact ha pins s1 σ H1 Q I1 q1
 | false=>exact hb pins s1 σ H1 Q I1 q1
end
def SqL (K:Frag) (H:Hp) (a:Addr) (xs:List V):Prop :=
 Rd H a (.lst xs) \/
  ∃ (o:Obj) (its:Array Value) (n:Nat),K.lookup a=some o/\o.cls=.type "list"/\o.dict=none/\o.data=.seq its n/\its.size<=sizeLine/\Vals xs its.toList
def SqT (K:Frag) (H:Hp) (a:Addr) (xs:List V):Prop :=
 Rd H a (.tup xs) \/
  ∃ (o:Obj) (its:Array Value) (n:Nat),K.lookup a=some o/\o.cls=.type "tuple"/\o.data=.seq its n/\its.size<=sizeLine/\Vals xs its.toList
noncomputable def dL7:Value->Option V
 | .none=>some .non
 | .bool b=>some (.bl b)
 | .int i _=>some (.int i)
 | .str x _=>some (.str x)
 | .bytes b _=>some (.byt b)
 | .float b _=>some (.flt b)
 | .ref a=>some (.ref a)
 | .type n=>some (.ty n)
 | _=>none
def RelV.abs {x:V} {u:Value} (r:RelV x u):dL7 u=some x:=by
 cases x with
 | non=>cases r;rfl
 | bl _=>cases r;rfl
 | int _=>obtain ⟨t,rfl⟩:=r;rfl
 | str _=>obtain ⟨t,rfl⟩:=r;rfl
 | byt _=>obtain ⟨t,rfl⟩:=r;rfl
 | flt _=>obtain ⟨t,rfl⟩:=r;rfl
 | ref _=>cases r;rfl
 | ty _=>cases r;rfl
def RelV.inj {x y:V} {u:Value} (r:RelV x u) (q:RelV y u):x=y:=Option.some.inj (r.abs.symm.trans q.abs)
theorem Vals.inj:∀ {xs ys:List V} {us:List Value},Vals xs us->Vals ys us->xs=ys
 | _,_,_,.nil,.nil=>rfl
 | _,_,_,.cons r t,.cons r' t'=>by rw [r.inj r',Vals.inj t t']
section
variable {X:Cx} {pins:List (Addr×Obj)} {σ:St} {H:Hp} {s:Shared} {a:Addr} {xs ys:List V}
def SqL.of {K:Frag} (h:H a=some (.lst xs)):SqL K H a xs:=.inl (.inl h)
def Inv.list (I:Inv X pins σ H s) (h:SqL X.K H a xs):∃ its:List Value,Vals xs its/\PlainL s.heap a its.toArray/\xs.length<=sizeLine:=by
 rcases h with h | ⟨o,its,n,hk,hc,hd,hs,hz,r⟩
 ·obtain ⟨z,its,n,r,e⟩:=h.ok I.hok;exact ⟨its,r,⟨_,n,e,rfl,rfl,rfl⟩,z⟩
 ·refine ⟨its.toList,r,⟨o,n,I.kIn a o hk,hc,hd,by simpa using hs⟩,?_⟩;have e:=r.length;simp only [Array.length_toList] at e;omega
def Inv.tuple (I:Inv X pins σ H s) (h:SqT X.K H a xs):∃ its:List Value,Vals xs its/\IsTup s.heap a its.toArray/\xs.length<=sizeLine:=by
 rcases h with h | ⟨o,its,n,hk,hc,hs,hz,r⟩
 ·obtain ⟨z,its,r,p⟩:=h.ok I.hok;exact ⟨its,r,p.tup,z⟩
 ·refine ⟨its.toList,r,⟨o,I.kIn a o hk,hc,n,by simpa using hs⟩,?_⟩;have e:=r.length;simp only [Array.length_toList] at e;omega
def Inv.list_inj (I:Inv X pins σ H s) (h:SqL X.K H a xs) (h':SqL X.K H a ys):xs=ys:=by
 obtain ⟨its,r,⟨o,n,e,_,_,d⟩,_⟩:=I.list h;obtain ⟨its',r',⟨o',n',e',_,_,d'⟩,_⟩:=I.list h';rw [e] at e';cases e';rw [d] at d';injection d' with d1 _
 have:its=its':=by simpa using congrArg Array.toList d1
 subst this;exact r.inj r'
def Inv.tuple_inj (I:Inv X pins σ H s) (h:SqT X.K H a xs) (h':SqT X.K H a ys):xs=ys:=by
 obtain ⟨its,r,⟨o,e,_,n,d⟩,_⟩:=I.tuple h;obtain ⟨its',r',⟨o',e',_,n',d'⟩,_⟩:=I.tuple h';rw [e] at e';cases e';rw [d] at d';injection d' with d1 _
 have:its=its':=by simpa using congrArg Array.toList d1
 subst this;exact r.inj r'
end
abbrev Cx.wish (X:Cx) (E:Value->Shared->Prop):Cx:={ X with xe:=E }
abbrev Cx.nox (X:Cx):Cx:=X.wish fun _ _=>False
def Cx.Ok.wish {X:Cx} (ok:X.Ok) (E:Value->Shared->Prop):(X.wish E).Ok :=
 ⟨ok.mod,ok.kind,ok.glob,ok.blt,ok.above,ok.inj,ok.has,ok.cab,ok.hd,ok.frames,ok.stk,ok.exf,ok.bs,ok.bsz,ok.noex,ok.exfs,ok.funs,ok.frf⟩
def Cx.Ok.unwish {X:Cx} {E:Value->Shared->Prop} (ok:(X.wish E).Ok):X.Ok :=
 ⟨ok.mod,ok.kind,ok.glob,ok.blt,ok.above,ok.inj,ok.has,ok.cab,ok.hd,ok.frames,ok.stk,ok.exf,ok.bs,ok.bsz,ok.noex,ok.exfs,ok.funs,ok.frf⟩
section
variable {X:Cx} {pins:List (Addr×Obj)} {σ:St} {H:Hp} {s:Shared} {E:Value->Shared->Prop}
def Inv.wish (I:Inv X pins σ H s) (E:Value->Shared->Prop):Inv (X.wish E) pins σ H s:=⟨I.ok.wish E,I.os,I.bare,I.base,I.loc,I.cell,I.free,I.freeC,I.pin,I.hok,I.len⟩
def Inv.unwish (I:Inv (X.wish E) pins σ H s):Inv X pins σ H s:=⟨I.ok.unwish,I.os,I.bare,I.base,I.loc,I.cell,I.free,I.freeC,I.pin,I.hok,I.len⟩
def SP.unwish {D:Ends} {f:Flow} {s':Shared} (h:SP (X.wish E) pins D f s'):SP X pins D f s':=by
 cases f with
 | next=>obtain ⟨σ',H',I,q⟩:=h;exact ⟨σ',H',I.unwish,q⟩
 | brk=>obtain ⟨σ',H',I,q⟩:=h;exact ⟨σ',H',I.unwish,q⟩
 | cont=>obtain ⟨σ',H',I,q⟩:=h;exact ⟨σ',H',I.unwish,q⟩
 | ret u=>obtain ⟨v,σ',H',I,r,q⟩:=h;exact ⟨v,σ',H',I.unwish,r,q⟩
def PSs.nox {st:List Stmt} {t:TS} (h:PSs X.nox st t):PSs X st t:=fun pins s σ H D I hw =>
 wpAny_mono (h pins s σ H D (I.wish _) hw) (fun _ _ q=>q.unwish) fun _ _ z=>False.elim z
end
section
variable {X:Cx} {st:Stmt} {rest:List Stmt} {t u:TS} {e:Expr} {te:TE} {pos:Pos}
def bP8:TS:=fun D σ H=>D.nx σ H
def dL8 (t u:TS):TS:=fun D σ H=>t { D with nx:=u D } σ H
def bB1:PSs X [] bP8:=fun _ _ σ H _ I h=>wpAny_execs_nil ⟨σ,H,I,h⟩
def jL (h1:PS X st t) (h2:PSs X rest u):PSs X (st::rest) (dL8 t u):=by
 intro pins s σ H D I h;refine wpAny_execs_cons (thn (h1 pins s σ H { D with nx:=u D } I h) fun f s1 q=>?_);cases f with
 | next =>
  obtain ⟨σ',H',I',q⟩:=q;exact h2 pins s1 σ' H' D I' q
 | ret v=>exact q
 | brk=>exact q
 | cont=>exact q
def mK (h1:PS X st t):PSs X [st] t:=by
 intro pins s σ H D I h;refine wpAny_execs_cons (thn (h1 pins s σ H D I h) fun f s1 q=>?_);cases f with
 | next=>exact wpAny_execs_nil q
 | ret v=>exact q
 | brk=>exact q
 | cont=>exact q
def bX8:TS:=fun D σ H=>D.bk σ H
def cR6:TS:=fun D σ H=>D.ct σ H
def bB2:PS X (.Pass pos) bP8:=fun _ _ σ H _ I h=>wpAny_Pass ⟨σ,H,I,h⟩
def aL3:PS X (.Break pos) bX8:=fun _ _ σ H _ I h=>wpAny_Break ⟨σ,H,I,h⟩
def uD:PS X (.Continue pos) cR6:=fun _ _ σ H _ I h=>wpAny_Continue ⟨σ,H,I,h⟩
def Inv.quiet {pins:List (Addr×Obj)} {σ:St} {H:Hp} {s:Shared} (I:Inv X pins σ H s):interactive X.env=false:=by simp [interactive,I.ok.kind]
def cR7 (te:TE):TS:=fun D σ H=>te σ H fun _ H1=>D.nx σ H1
def bB3 (he:PE X e te) (hs:autoParam (swapsWith e none pos.line X.env=pure false) ZR):PS X (.Expr e pos) (cR7 te):=by
 intro pins s σ H D I h;exact wpAny_Expr_any (thn (he pins s σ H _ I h) fun v s1 ⟨x,H1,I1,r1,q1⟩=>⟨σ,H1,I1,q1⟩) I.quiet hs
def dL9 (te:TE):TS:=fun D σ H=>te σ H D.rt
def aL4 (he:PE X e te):PS X (.Return (some e) pos) (dL9 te):=by
 intro pins s σ H D I h;exact wpAny_Return_some (thn (he pins s σ H _ I h) fun v s1 ⟨x,H1,I1,r1,q1⟩=>⟨x,σ,H1,I1,r1,q1⟩)
def dM0 (c:TT) (t u:TS):TS:=fun D σ H=>c σ H fun b H1=>if b=true then t D σ H1 else u D σ H1
def bP9 {c:Expr} {a b:List Stmt} {tc:TT} (hc:PT X c tc) (ha:PSs X a t) (hb:PSs X b u):PS X (.If c a b pos) (dM0 tc t u):=by
 intro pins s σ H D I h;refine wpAny_If (thn (hc pins s σ H _ I h) fun d s1 ⟨H1,I1,q1⟩=>?_);cases d with
 | true=>exact ha pins s1 σ H1 D I1 q1
 | false=>exact hb pins s1 σ H1 D I1 q1
end
abbrev TG:=V->St->Hp->(St->Hp->Prop)->Prop
abbrev TGs:=List V->St->Hp->(St->Hp->Prop)->Prop
def PG (X:Cx) (target:Expr) (t:TG):Prop :=
 ∀ (pins:List (Addr×Obj)) (s:Shared) (σ:St) (H:Hp) (v:V) (u:Value) (Q:St->Hp->Prop),Inv X pins σ H s->RelV v u->t v σ H Q ->
  wpAny (model X.prog X.w) X.A (assign target X.env u) (fun _ s'=>∃ σ' H',Inv X pins σ' H' s'/\Q σ' H') X.xe s
def PGs (X:Cx) (ts:List Expr) (t:TGs):Prop :=
 ∀ (pins:List (Addr×Obj)) (s:Shared) (σ:St) (H:Hp) (vs:List V) (us:List Value) (Q:St->Hp->Prop),Inv X pins σ H s->Vals vs us->t vs σ H Q ->
  wpAny (model X.prog X.w) X.A (assignInOrder ((assignEach ts X.env).map (·.2)) us) (fun _ s'=>∃ σ' H',Inv X pins σ' H' s'/\Q σ' H') X.xe s
abbrev bX9:=V->V->V->Hp->(Hp->Prop)->Prop
def bY0 (X:Cx) (t:bX9):Prop :=
 ∀ (pins:List (Addr×Obj)) (s:Shared) (σ:St) (H:Hp) (o i v:V) (ov iv u:Value) (Q:Hp->Prop),Inv X pins σ H s->RelV o ov->RelV i iv->RelV v u->t o i v H Q ->
  wpAny (model X.prog X.w) X.A (setItem ov iv u) (fun _ s'=>∃ H',Inv X pins σ H' s'/\Q H') X.xe s
section
variable {X:Cx} {pos:Pos}
def zA (i:Nat):TG:=fun v σ H Q=>Q (σ.set i (some v)) H
def bB4 {i:Nat} {x:Str} (hN:X.N.Nodup) (hi:X.N[i]?=some x) (hx:Loc X.env.scope x) (hf:X.fn x=true\/X.env.scope.names.lookup x=some .local:=by first | exact .inl rfl | exact .inr rfl | assumption):PG X (.Name x pos) (zA i):=by
 intro pins s σ H v u Q I r h;exact wpAny_assign_Name (gC I hN hi hx r (fun s' I'=>⟨_,H,I',h⟩) hf)
noncomputable def dM1:TGs:=fun vs σ H Q=>vs=[]/\Q σ H
noncomputable def cR8 (t:TG) (u:TGs):TGs:=fun vs σ H Q=>∃ v r,vs=v::r/\t v σ H fun σ' H'=>u r σ' H' Q
def bB5:PGs X [] dM1:=by
 intro pins s σ H vs us Q I r h;obtain ⟨e,h⟩:=h;subst e;cases r;exact assignInOrder_nil ⟨σ,H,I,h⟩
def aL5 {e:Expr} {es:List Expr} {t:TG} {u:TGs} (h1:PG X e t) (h2:PGs X es u)
  (hs:autoParam ((assignEach (e::es) X.env).map (·.2)=assign e X.env::(assignEach es X.env).map (·.2)) ZR):PGs X (e::es) (cR8 t u):=by
 intro pins s σ H vs us Q I r h;obtain ⟨v,vr,e1,h⟩:=h;subst e1;cases r with
 | cons r rr =>
  rw [hs];refine assignInOrder_cons (thn (h1 pins s σ H _ _ _ I r h) fun _ s1 ⟨σ1,H1,I1,q1⟩=>?_);exact h2 pins s1 σ1 H1 _ _ Q I1 rr q1
def dM2 (K:Frag) (n:Nat) (t:TGs):TG:=fun v σ H Q=>∃ a xs,v=.ref a/\SqT K H a xs/\xs.length=n/\t xs σ H Q
def bY1 {es:List Expr} {k:Nat} {t:TGs} {n:Nat} (hc:X.calm=true) (h:PGs X es t)
  (hn:autoParam ((assignEach es X.env).length=n) ZR) (hst:autoParam ((assignEach es X.env).findIdx? (·.1)=none) ZR):PG X (.Tuple es k pos) (dM2 X.K n t):=by
 intro pins s σ H v u Q I r hw;obtain ⟨a,xs,e1,hq,hl,hw⟩:=hw;subst e1;cases r;obtain ⟨its,rv,ht,hz⟩:=I.tuple hq;refine assign_Tuple_tuple (I.ok.hd hc) ht (by simp [hn,<- hl,rv.length]) hst fun h' hx=>?_;have I1:Inv X pins σ H { s with heap:=h' }:=I.kept (t':=s.toks) fun b o e=>hx b o (Nat.ne_of_lt (Heap.lt_size e)) e;exact h pins _ σ H xs _ Q I1 (by simpa using rv) hw
def dM3 (to ti:TE) (t:bX9):TG:=fun v σ H Q=>to σ H fun o H1=>ti σ H1 fun i H2=>t o i v H2 fun H3=>Q σ H3
def bY2 {o i:Expr} {to ti:TE} {t:bX9} (ho:PE X o to) (hi:PE X i ti) (hs:bY0 X t)
  (ha:∀ v,assign (.Subscript o i pos) X.env v=(do
   let ov <- holding [v] (eval o X.env)
   let iv <- holding [v,ov] (eval i X.env)
   standAt pos
   holding [v,ov,iv] (setItem ov iv v)
   release [v,ov,iv] []):=by intro _;rfl):PG X (.Subscript o i pos) (dM3 to ti t):=by
 intro pins s σ H v u Q I r h;rw [ha];refine wpAny_bind (wpAny_holding (thn (ho pins s σ H _ I h) fun ov s1 ⟨x,H1,I1,r1,q1⟩=>?_));refine wpAny_bind (wpAny_holding (thn (hi pins s1 σ H1 _ I1 q1) fun iv s2 ⟨y,H2,I2,r2,q2⟩=>?_));refine wpAny_bind (wpAny_standAt (wpAny_bind (wpAny_holding (thn (hs pins s2 σ H2 x y v ov iv u _ I2 r1 r2 r q2) fun _ s3 ⟨H3,I3,q3⟩=>?_))));exact wpAny_release ⟨σ,H3,I3,q3⟩
def bB6 (te:TE) (g:TG):TS:=fun D σ H=>te σ H fun x H1=>g x σ H1 D.nx
def bY3 {tg e:Expr} {te:TE} {g:TG} (he:PE X e te) (hg:PG X tg g) (hs:autoParam (swapsWithSole [tg] e pos.line X.env=pure false) ZR) (hw:autoParam (swappedStores [tg] e X.env=pure none) ZR)
  (h1:autoParam ((assignEach [tg] X.env).map (·.2)=[assign tg X.env]) ZR):PS X (.Assign [tg] e pos) (bB6 te g):=by
 intro pins s σ H D I h;refine wpAny_Assign_stores (thn (he pins s σ H _ I h) fun v s1 ⟨x,H1,I1,r1,q1⟩=>?_) hs hw;rw [h1];exact thn (hg pins s1 σ H1 x v _ I1 r1 q1) fun _ s2 q=>q
def rX {i:Nat} {x:Str} {e:Expr} {te:TE} {pos':Pos} (hN:X.N.Nodup) (hi:X.N[i]?=some x) (hx:Loc X.env.scope x) (he:PE X e te) (hs:autoParam (swapsWith e (some (.Name x pos')) pos.line X.env=pure false) ZR) (hf:X.fn x=true\/X.env.scope.names.lookup x=some .local:=by first | exact .inl rfl | exact .inr rfl | assumption) :
  PS X (.Assign [.Name x pos'] e pos) (bB6 te (zA i)):=by
 intro pins s σ H D I h;refine wpAny_Assign_Name (thn (he pins s σ H _ I h) fun v s1 ⟨y,H1,I1,r1,q1⟩=>?_) hs;exact gC I1 hN hi hx r1 (fun s2 I2=>⟨_,H1,I2,q1⟩) hf
end
section
variable {X:Cx} {pos:Pos}
end
structure It where
 go:Nat->Hp->Prop
 yld:Nat->Hp->V->Hp->Prop
 stop:Nat->Hp->Prop
def jM (X:Cx) (pins:List (Addr×Obj)) (H:Hp) (b:Addr):Prop :=
 H b=none/\b≠X.env.locals/\b∉X.fs/\(b∈X.ex\/X.s₀.heap.objs.size<=b)/\(∀ x c,X.env.cells.lookup x=some c->c≠b)/\∀ p∈X.pn++pins,p.1≠b
def Inv.fpOk {X:Cx} {pins:List (Addr×Obj)} {σ:St} {H H':Hp} {s:Shared} {b:Addr} (I:Inv X pins σ H s) (hb:s.heap.objs.size<=b) (hn:H' b=none):jM X pins H' b:=by
 refine ⟨hn,Nat.ne_of_gt (Nat.lt_of_lt_of_le I.lt hb),I.nofs hb,.inr (Nat.le_trans I.sz hb),fun x c e z=>?_,fun p hp z=>?_⟩
 ·obtain ⟨v,q⟩:=I.cell x c e;exact absurd (Nat.lt_of_lt_of_le q.lt (by rw [z];exact hb)) (Nat.lt_irrefl _)
 ·exact absurd (Nat.lt_of_lt_of_le (Heap.lt_size (I.pin p hp).1) (by rw [z];exact hb)) (Nat.lt_irrefl _)
structure Turn (P:Program) (w:World) (K:Frag) (tg:Expr) (J:It) (fp:List Addr) (it:Addr) (tn:Nat->Heap->Prop):Prop where
 mem:it∈fp
 obj:∀ i h,tn i h->∀ b∈fp,∃ o,h.get? b=some o/\∀ v,o.data≠.cell v
 keep:∀ i h h',tn i h->(∀ b∈fp,∀ o,h.get? b=some o->h'.get? b=some o)->tn i h'
 item:∀ (X:Cx),X.prog=P->X.w=w->X.K=K->X.calm=true->∀ (i:Nat) (pins:List (Addr×Obj)) (s:Shared) (σ:St) (H:Hp) (E:Value->Shared->Prop),Inv X pins σ H s->(∀ b∈fp,jM X pins H b)->tn i s.heap->J.go i H ->
  wpAny (model P w) X.A (pyNext (.ref it)) (fun r s1=>∃ u,r=some u /\
   wpAny (model P w) X.A (letOwnedTupleGo tg (.ref it) u) (fun _ s2=>∃ x H',Inv X pins σ H' s2/\RelV x u/\J.yld i H x H'/\tn (i+1) s2.heap/\∀ b∈fp,H' b=none) E s1) E s
 done:∀ (X:Cx),X.prog=P->X.w=w->X.K=K->X.calm=true->∀ (i:Nat) (pins:List (Addr×Obj)) (s:Shared) (σ:St) (H:Hp) (E:Value->Shared->Prop),Inv X pins σ H s->(∀ b∈fp,jM X pins H b)->tn i s.heap->J.stop i H ->
  wpAny (model P w) X.A (pyNext (.ref it)) (fun r s1=>r=none/\Inv X pins σ H s1) E s
 self:∀ (A:Around) (i:Nat) (s:Shared) (Q:Value->Shared->Prop) (E:Value->Shared->Prop),tn i s.heap->Q (.ref it) s->wpAny (model P w) A (pyIter (.ref it)) Q E s
abbrev TI:=St->Hp->(It->Hp->Prop)->Prop
def PIE (X:Cx) (pins:List (Addr×Obj)) (σ:St) (tg:Expr) (R:It->Hp->Prop) (itv:Value) (s2:Shared):Prop :=
 ∃ (it:Addr) (fp:List Addr) (tn:Nat->Heap->Prop) (J:It) (H':Hp),itv=.ref it/\Inv X pins σ H' s2/\Turn X.prog X.w X.K tg J fp it tn/\tn 0 s2.heap/\(∀ b∈fp,jM X pins H' b)/\R J H'
def PI (X:Cx) (tg iter:Expr) (wi:TI):Prop :=
 ∀ (pins:List (Addr×Obj)) (s:Shared) (σ:St) (H:Hp) (R:It->Hp->Prop),Inv X pins σ H s->wi σ H R ->
  wpAny (model X.prog X.w) X.A (eval iter X.env) (fun v s1=>wpAny (model X.prog X.w) X.A (pyIter v) (PIE X pins σ tg R) X.xe s1) X.xe s
def aL6 {M:Model} {A:Around} {E:Value->Shared->Prop} {s:Shared} {tg:Expr} {it:Addr} {u:Value} {o:Obj} {n:String} {vs:Array Value} {Q:Unit->Shared->Prop} (ho:s.heap.get? it=some o) (hc:o.cls=.type n) (hd:o.data=.fields vs)
  (hn:["enumerate","zip","dict_itemiterator","dict_reverseitemiterator","odict_iterator","itertools.zip_longest","itertools.pairwise"].contains n=false) (hQ:Q () s):wpAny M A (letOwnedTupleGo tg (.ref it) u) Q E s:=by
 unfold letOwnedTupleGo;cases tg<;>first
  | exact wpAny_pure hQ
  | (cases u<;>first
    | exact wpAny_pure hQ
    | (refine wpAny_bind (wpAny_load ho ?_)
       rw [hc,hd];show wpAny M A (if (["enumerate","zip","dict_itemiterator","dict_reverseitemiterator","odict_iterator","itertools.zip_longest","itertools.pairwise"].contains n&&vs[0]?==some (rawInt _))=true then _ else _) Q E s;rw [if_neg (by intro h;rw [hn,Bool.false_and] at h;cases h)];exact wpAny_pure hQ))
def Itl (K:Frag) (a:Addr):It :=
 ⟨fun i H=>∃ xs x,SqL K H a xs/\xs[i]?=some x,fun i H x H'=>H'=H/\∀ xs,SqL K H a xs->xs[i]?=some x,fun i H=>∃ xs,SqL K H a xs/\xs.length<=i⟩
def Itt (K:Frag) (a:Addr):It :=
 ⟨fun i H=>∃ xs x,SqT K H a xs/\xs[i]?=some x,fun i H x H'=>H'=H/\∀ xs,SqT K H a xs->xs[i]?=some x,fun i H=>∃ xs,SqT K H a xs/\xs.length<=i⟩
def Itr (lo:Int) (n:Nat):It:=⟨fun i _=>i < n,fun i H x H'=>H'=H/\x=.int (lo+i),fun i _=>n<=i⟩
def aC9 {P:Program} {w:World} {K:Frag} {tg:Expr} (a it:Addr):Turn P w K tg (Itl K a) [it] it (fun i h=>h.IsListIter it a i) where
 mem:=by simp
 obj:=fun i h st b hb=>by
  have e:b=it:=by simpa using hb
  subst e;obtain ⟨o,e,c,d⟩:=st;exact ⟨o,e,fun v z=>by rw [d] at z;cases z⟩
 keep:=fun i h h' st k=>st.at fun o e=>k it (by simp) o e
 item:=by
  intro X hP hw hK hc i pins s σ H E I hf st hg;subst hP hw hK;obtain ⟨xs,x,hq,hx⟩:=hg;obtain ⟨its,rv,p,hz⟩:=I.list hq;obtain ⟨u,hu,ru⟩:=rv.get hx;obtain ⟨f0,f1,f2,f3,f4,f5⟩:=hf it (by simp);refine wpAny_pyNext_list_item st p.isList (x:=u) (by simpa using hu) fun h' st' sb=>?_;have I1:Inv X pins σ H { s with heap:=h' }:=I.turned (t':=s.toks) (fun b o hb e=>(sb.2 b hb).trans e) f0 f1 f3 f4 f5;obtain ⟨o,e,c,d⟩:=id st';exact ⟨u,rfl,aL6 (s:={ s with heap:=h' }) e c d (by decide) ⟨x,H,I1,ru,⟨rfl,fun ys hy=>by rw [I.list_inj hy hq];exact hx⟩,st',fun b hb=>(hf b hb).1⟩⟩
 done:=by
  intro X hP hw hK hc i pins s σ H E I hf st hg;subst hP hw hK;obtain ⟨xs,hq,hx⟩:=hg;obtain ⟨its,rv,p,hz⟩:=I.list hq;obtain ⟨f0,f1,f2,f3,f4,f5⟩:=hf it (by simp);have hl:=rv.length;exact wpAny_pyNext_list_end (I.ok.hd hc) st p.isList (by simp;omega) fun h' eb=>⟨rfl,I.turned (t':=s.toks) (fun b o hb e=>eb b o hb e) f0 f1 f3 f4 f5⟩
 self:=fun _ _ _ _ _ st h=>wpAny_pyIter_listiter st h
def wU {P:Program} {w:World} {K:Frag} {tg:Expr} (a it:Addr):Turn P w K tg (Itt K a) [it] it (fun i h=>h.IsTupleIter it a i) where
 mem:=by simp
 obj:=fun i h st b hb=>by
  have e:b=it:=by simpa using hb
  subst e;obtain ⟨o,e,c,d⟩:=st;exact ⟨o,e,fun v z=>by rw [d] at z;cases z⟩
 keep:=fun i h h' st k=>st.at fun o e=>k it (by simp) o e
 item:=by
  intro X hP hw hK hc i pins s σ H E I hf st hg;subst hP hw hK;obtain ⟨xs,x,hq,hx⟩:=hg;obtain ⟨its,rv,p,hz⟩:=I.tuple hq;obtain ⟨u,hu,ru⟩:=rv.get hx;obtain ⟨f0,f1,f2,f3,f4,f5⟩:=hf it (by simp);refine wpAny_pyNext_tuple_item st (show s.heap.IsTuple a its.toArray from p) (x:=u) (by simpa using hu) fun h' st' sb=>?_;have I1:Inv X pins σ H { s with heap:=h' }:=I.turned (t':=s.toks) (fun b o hb e=>(sb.2 b hb).trans e) f0 f1 f3 f4 f5;obtain ⟨o,e,c,d⟩:=id st';exact ⟨u,rfl,aL6 (s:={ s with heap:=h' }) e c d (by decide) ⟨x,H,I1,ru,⟨rfl,fun ys hy=>by rw [I.tuple_inj hy hq];exact hx⟩,st',fun b hb=>(hf b hb).1⟩⟩
 done:=by
  intro X hP hw hK hc i pins s σ H E I hf st hg;subst hP hw hK;obtain ⟨xs,hq,hx⟩:=hg;obtain ⟨its,rv,p,hz⟩:=I.tuple hq;obtain ⟨f0,f1,f2,f3,f4,f5⟩:=hf it (by simp);have hl:=rv.length;exact wpAny_pyNext_tuple_end (I.ok.hd hc) st (show s.heap.IsTuple a its.toArray from p) (by simp;omega) fun h' eb=>⟨rfl,I.turned (t':=s.toks) (fun b o hb e=>eb b o hb e) f0 f1 f3 f4 f5⟩
 self:=fun _ _ _ _ _ st h=>wpAny_pyIter_tupleiter st h
def wV {P:Program} {w:World} {K:Frag} {tg:Expr} (it:Addr) (lo:Int) (n:Nat):Turn P w K tg (Itr lo n) [it] it (fun i h=>IsRangeIter h it (lo+(i:Nat)*1) ((n:Int) - (i:Nat)) 1) where
 mem:=by simp
 obj:=fun i h st b hb=>by
  have e:b=it:=by simpa using hb
  subst e;exact ⟨_,st,fun v z=>by
   have z':Data.fields _=Data.cell v:=z;cases z'⟩
 keep:=fun i h h' st k=>k it (by simp) _ st
 item:=by
  intro X hP hw hK hc i pins s σ H E I hf st hg;subst hP hw hK;obtain ⟨f0,f1,f2,f3,f4,f5⟩:=hf it (by simp);have W:=Walks.range (prog:=X.prog) (w:=X.w) (I.ok.hd hc) it lo 1 n;refine W.item i s _ _ hg st fun v h' tk hv st' kk=>?_;obtain ⟨t,rfl⟩:=hv;have I1:Inv X pins σ H { s with heap:=h',toks:=tk }:=I.turned (fun b o hb e=>kk b o (by simpa using hb) e) f0 f1 f3 f4 f5;refine ⟨_,rfl,aL6 (s:={ s with heap:=h',toks:=tk }) (n:="range_iterator") st' rfl rfl (by decide) ⟨.int (lo+i),H,I1,⟨t,?_⟩,⟨rfl,rfl⟩,st',fun b hb=>(hf b hb).1⟩⟩;rw [Int.mul_one]
 done:=by
  intro X hP hw hK hc i pins s σ H E I hf st hg;subst hP hw hK;obtain ⟨f0,f1,f2,f3,f4,f5⟩:=hf it (by simp);exact wpAny_pyNext_range_end (I.ok.hd hc) st (by have:n<=i:=hg;omega) fun h' eb=>⟨rfl,I.turned (t':=s.toks) (fun b o hb e=>eb b o hb e) f0 f1 f3 f4 f5⟩
 self:=fun _ _ _ _ _ st h=>wpAny_pyIter_rangeiter st h
section
variable {X:Cx} {tg:Expr}
def uE {pins:List (Addr×Obj)} {σ:St} {H:Hp} {s:Shared} {R:It->Hp->Prop} {E:Value->Shared->Prop} {lo hi:Int} {t u v:Tok} {tk:Nat} (I:Inv X pins σ H s) (h1:-(2^62)<=lo) (h2:lo < 2^62) (h3:-(2^62)<=hi) (h4:hi < 2^62)
  (q:R (Itr lo (hi - lo).toNat) H):wpAny (model X.prog X.w) X.A (pyIter (.ref s.heap.objs.size)) (PIE X pins σ tg R) E { s with heap:=s.heap.push { cls:=.type "range",data:=.fields #[.int lo t,.int hi u,.int 1 v] },toks:=tk }:=by
 refine wpAny_pyIter_range (IsRange.new ..) (small_one h1 h2 h3 h4) ?_;have I1:Inv X pins σ H { s with heap:=s.heap.push { cls:=.type "range",data:=.fields #[.int lo t,.int hi u,.int 1 v] },toks:=tk }:=I.kept fun b o e=>Heap.get?_push_of_some _ e;refine ⟨(s.heap.push { cls:=.type "range",data:=.fields #[.int lo t,.int hi u,.int 1 v] }).objs.size,[(s.heap.push { cls:=.type "range",data:=.fields #[.int lo t,.int hi u,.int 1 v] }).objs.size],_,_,H,rfl,
  I1.kept (t':=tk) fun b o e=>Heap.get?_push_of_some _ e,wV _ lo (hi - lo).toNat,?_,fun b hb=>?_,q⟩
 ·have e1:lo+((0:Nat):Int)*1=lo:=by simp
  have e2:(((hi - lo).toNat:Nat):Int) - ((0:Nat):Int)=Builtin.Range.rangeSize lo hi 1:=by rw [rangeSize_one];split<;>omega
  show IsRangeIter _ _ (lo+((0:Nat):Int)*1) ((((hi - lo).toNat:Nat):Int) - ((0:Nat):Int)) 1;rw [e1,e2];exact Heap.get?_push_size _ rfl
 ·have e:b=(s.heap.push { cls:=.type "range",data:=.fields #[.int lo t,.int hi u,.int 1 v] }).objs.size:=by simpa using hb
  subst e;exact I1.fpOk (Nat.le_refl _) (I1.hok.fresh (Nat.le_refl _))
def cR9 (ta:TA):TI:=fun σ H R=>ta σ H fun vs H1=>∃ j:Int,vs=[.int j]/\-(2^62)<=j/\j < 2^62/\R (Itr 0 j.toNat) H1
def cS0 (ta:TA):TI:=fun σ H R=>ta σ H fun vs H1=>∃ i j:Int,vs=[.int i,.int j]/\(-(2^62)<=i/\i < 2^62/\-(2^62)<=j/\j < 2^62)/\R (Itr i (j - i).toNat) H1
def aD0 {a:Expr} {ta:TA} {p pos:Pos} (hg:Gl X "range") (hm:X.mg "range"=none) (ha:PA X [a] ta) (hs:autoParam (starEach [a] X.env=[(false,eval a X.env)]) ZR):PI X tg (.Call (.Name "range" p) [a] [] pos) (cR9 ta):=by
 intro pins s σ H R I h;refine Call_ (fU I hg hm boot_range (PyProof.Rows.callWith_type1 (thn (ha pos pins s σ H _ I h) fun us s1 ⟨vs,H1,I1,r1,q1⟩=>?_) hs rfl));obtain ⟨j,e,q1,q2,q⟩:=q1;subst e;cases r1 with
 | cons r rr =>
  cases rr;obtain ⟨t,rfl⟩:=r;exact call_range_1 (uE I1 (by omega) (by omega) q1 q2 (by simpa using q))
def aD1 {a b:Expr} {ta:TA} {p pos:Pos} (hg:Gl X "range") (hm:X.mg "range"=none) (ha:PA X [a,b] ta) (hs:autoParam (starEach [a,b] X.env=[(false,eval a X.env),(false,eval b X.env)]) ZR) (hs2:autoParam (starEach [b] X.env=[(false,eval b X.env)]) ZR) :
  PI X tg (.Call (.Name "range" p) [a,b] [] pos) (cS0 ta):=by
 intro pins s σ H R I h;refine Call_ (fU I hg hm boot_range (PyProof.Rows.callWith_type1 (thn (ha pos pins s σ H _ I h) fun us s1 ⟨vs,H1,I1,r1,q1⟩=>?_) (by rw [hs,hs2]) (by rw [hs2];rfl)));obtain ⟨i,j,e,⟨q1,q2,q3,q4⟩,q⟩:=q1;subst e;cases r1 with
 | cons r rr =>
  cases rr with
  | cons r' rr =>
   cases rr;obtain ⟨t,rfl⟩:=r;obtain ⟨t',rfl⟩:=r';exact call_range_2 (uE I1 q1 q2 q3 q4 q)
def dM4 (wi:TI) (g:TG) (tb:TS):TS:=fun D σ H=>wi σ H fun J H1=>∃ W:Nat->Nat->St->Hp->Prop,(∃ m,W 0 m σ H1)/\∀ i m σ H,W i m σ H ->
 (J.stop i H/\D.nx σ H)\/(J.go i H/\∃ N:St->Hp->Prop,(∀ σ' H',N σ' H'->∃ m',m' < m/\W (i+1) m' σ' H')/\∀ x H',J.yld i H x H'->g x σ H' fun σ2 H2=>tb { D with nx:=N,ct:=N,bk:=D.nx } σ2 H2)
noncomputable def nE (fp:List Addr) (h:Heap):List (Addr×Obj):=fp.filterMap fun b=>(h.get? b).map fun o=>(b,o)
def gJ {fp:List Addr} {h:Heap} {b:Addr} {o:Obj} (hb:b∈fp) (e:h.get? b=some o):(b,o)∈nE fp h:=List.mem_filterMap.mpr ⟨b,hb,by rw [e];rfl⟩
def aD2 {fp:List Addr} {h:Heap} {p:Addr×Obj} (hp:p∈nE fp h):p.1∈fp/\h.get? p.1=some p.2:=by
 obtain ⟨b,hb,e⟩:=List.mem_filterMap.mp hp;cases q:h.get? b with
 | none=>rw [q] at e;cases e
 | some o =>
  rw [q] at e;have e':(b,o)=p:=Option.some.inj e;subst e';exact ⟨hb,q⟩
def Inv.pinned {pins:List (Addr×Obj)} {σ:St} {H:Hp} {s:Shared} {fp:List Addr} (I:Inv X pins σ H s) (hf:∀ b∈fp,jM X pins H b) (ho:∀ b∈fp,∃ o,s.heap.get? b=some o/\∀ v,o.data≠.cell v):Inv X (pins++nE fp s.heap) σ H s :=
 I.pins_of fun p hp=>(List.mem_append.mp hp).elim (fun z=>I.pin p (List.mem_append_right _ z)) fun z=>by
  obtain ⟨hb,e⟩:=aD2 z;obtain ⟨f0,f1,f2,_⟩:=hf p.1 hb;obtain ⟨o,e',d⟩:=ho p.1 hb;rw [e] at e';cases e';exact ⟨e,f0,f1,f2,d⟩
def Inv.unpinned {pins pl:List (Addr×Obj)} {σ:St} {H:Hp} {s:Shared} (I:Inv X (pins++pl) σ H s):Inv X pins σ H s:=I.pins_of fun p hp=>I.pin p (List.mem_append_right _ (List.mem_append_left _ hp))
def bY4 {iter:Expr} {body:List Stmt} {wi:TI} {g:TG} {tb:TS} {pos:Pos} (hp:PassesOwn (model X.prog X.w) X.A X.env X.xe) (hc:X.calm=true) (hi:PI X tg iter wi) (hg:PG X tg g) (hb:PSs X body tb)
  (hs:autoParam (∀ x,foldedSetIterable iter X.env x=pure x) ZI):PS X (.For tg iter body [] pos) (dM4 wi g tb):=by
 intro pins s σ H D I h;refine wpAny_For (thn (hi pins s σ H _ I h) fun v s1 h1=>thn h1 fun itv s2 h2=>?_) hs;obtain ⟨it,fp,tn,J,H2,e,I2,T,st2,f2,W,⟨m0,w0⟩,turn⟩:=h2;subst e;have stat:∀ {H':Hp},(∀ b∈fp,H' b=none)->∀ b∈fp,jM X pins H' b:=fun hn b hb=>⟨hn b hb,(f2 b hb).2⟩;refine codeAny_forLoop_any (fun n s'=>∃ i σ' H',Inv X pins σ' H' s'/\tn i s'.heap/\(∀ b∈fp,H' b=none)/\W i n σ' H') ?_ m0 ⟨0,σ,H2,I2,st2,fun b hb=>(f2 b hb).1,w0⟩;rintro n s3 ⟨i,σ3,H3,I3,st3,fr3,w3⟩;rcases turn i n σ3 H3 w3 with ⟨stop,qn⟩ | ⟨go,N,hN,step⟩
 ·refine wpAny_passesOwn hp (thn (T.done X rfl rfl rfl hc i pins s3 σ3 H3 X.xe I3 (stat fr3) st3 stop) fun r s4 ⟨hr,I4⟩=>?_);subst hr;exact wpAny_execs_nil ⟨σ3,H3,I4,qn⟩
 ·refine wpAny_passesOwn hp (thn (T.item X rfl rfl rfl hc i pins s3 σ3 H3 X.xe I3 (stat fr3) st3 go) fun r s4 ⟨u,hr,h4⟩=>?_);subst hr;refine wpAny_passesOwn hp (thn h4 fun _ s5 ⟨x,H5,I5,r5,y5,st5,fr5⟩=>?_);have I5':=I5.pinned (stat fr5) (T.obj _ _ st5);refine wpAny_passesOwn hp (thn (hg _ s5 σ3 H5 x u _ I5' r5 (step x H5 y5)) fun _ s6 ⟨σ6,H6,I6,q6⟩=>?_);refine wpAny_passesOwn hp (thn (hb _ s6 σ6 H6 _ I6 q6) fun f s7 q7=>?_);have again:∀ {σ7:St} {H7:Hp},Inv X (pins++nE fp s5.heap) σ7 H7 s7->N σ7 H7->∃ m,m < n/\∃ i σ' H',Inv X pins σ' H' s7/\tn i s7.heap/\(∀ b∈fp,H' b=none)/\W i m σ' H':=fun {σ7 H7} I7 n7=>by
   obtain ⟨m',hm,w7⟩:=hN σ7 H7 n7;refine ⟨m',hm,i+1,σ7,H7,I7.unpinned,T.keep _ _ _ st5 fun b hb o e=>(I7.pin (b,o) (List.mem_append_right _ (List.mem_append_right _ (gJ hb e)))).1,fun b hb=>?_,w7⟩;obtain ⟨o,e,d⟩:=T.obj _ _ st5 b hb;exact (I7.pin (b,o) (List.mem_append_right _ (List.mem_append_right _ (gJ hb e)))).2.1
  cases f with
  | next=>obtain ⟨σ7,H7,I7,n7⟩:=q7;exact again I7 n7
  | cont=>obtain ⟨σ7,H7,I7,n7⟩:=q7;exact again I7 n7
  | brk=>obtain ⟨σ7,H7,I7,q7⟩:=q7;exact ⟨σ7,H7,I7.unpinned,q7⟩
  | ret v=>obtain ⟨x7,σ7,H7,I7,r7,q7⟩:=q7;exact ⟨x7,σ7,H7,I7.unpinned,r7,q7⟩
end
abbrev R2:=V->V->Hp->VK->Prop
def OpR (X:Cx) (f:Value->Value->Sem Value) (r:R2):Prop :=
 ∀ (pins:List (Addr×Obj)) (s:Shared) (σ:St) (H:Hp) (x y:V) (v u:Value) (Q:VK),Inv X pins σ H s->RelV x v->RelV y u->r x y H Q ->
  wpAny (model X.prog X.w) X.A (f v u) (EP X pins σ Q) X.xe s
def UnR (X:Cx) (f:Value->Sem Value) (r:V->Hp->VK->Prop):Prop :=
 ∀ (pins:List (Addr×Obj)) (s:Shared) (σ:St) (H:Hp) (x:V) (v:Value) (Q:VK),Inv X pins σ H s->RelV x v->r x H Q ->
  wpAny (model X.prog X.w) X.A (f v) (EP X pins σ Q) X.xe s
def cU (X:Cx) (f:Value) (r:List V->Hp->VK->Prop):Prop :=
 ∀ (pins:List (Addr×Obj)) (s:Shared) (σ:St) (H:Hp) (xs:List V) (us:List Value) (Q:VK),Inv X pins σ H s->Vals xs us->r xs H Q ->
  wpAny (model X.prog X.w) X.A (call f us) (EP X pins σ Q) X.xe s
def tOp (r:R2) (ta tb:TE):TE:=fun σ H Q=>ta σ H fun x H1=>tb σ H1 fun y H2=>r x y H2 Q
def tUn (r:V->Hp->VK->Prop) (ta:TE):TE:=fun σ H Q=>ta σ H fun x H1=>r x H1 Q
noncomputable def rI (C:Int->Int->Prop) (g:Int->Int->V):R2:=fun x y H Q=>∃ i j,x=.int i/\y=.int j/\C i j/\Q (g i j) H
noncomputable def rI0 (g:Int->Int->V):R2:=fun x y H Q=>∃ i j,x=.int i/\y=.int j/\Q (g i j) H
noncomputable def rU (g:Int->V):V->Hp->VK->Prop:=fun x H Q=>∃ i,x=.int i/\Q (g i) H
section
variable {X:Cx} {a b c:Expr} {ta tb tc:TE} {pos:Pos}
def bY5 (ha:PE X a ta) (hb:PE X b tb) {pins:List (Addr×Obj)} {s:Shared} {σ:St} {H:Hp} {R:V->V->Hp->Prop} (I:Inv X pins σ H s)
  (h:ta σ H fun x H1=>tb σ H1 fun y H2=>R x y H2) {Q:Value->Shared->Prop} {f:Value->Value->Sem Value}
  (hf:∀ v u s2 x y H2,Inv X pins σ H2 s2->RelV x v->RelV y u->R x y H2->wpAny (model X.prog X.w) X.A (f v u) Q X.xe s2) :
  wpAny (model X.prog X.w) X.A (eval a X.env) (fun v s₁=>wpAny (model X.prog X.w) X.A (eval b X.env) (fun u s₂=>wpAny (model X.prog X.w) X.A (f v u) Q X.xe s₂) X.xe s₁) X.xe s:=by
 refine thn (ha pins s σ H _ I h) fun v s1 ⟨x,H1,I1,r1,q1⟩=>?_;refine thn (hb pins s1 σ H1 _ I1 q1) fun u s2 ⟨y,H2,I2,r2,q2⟩=>?_;exact hf v u s2 x y H2 I2 r1 r2 q2
def aL7 {op:Operator} {r:R2} (ho:OpR X (binaryOp op) r) (ha:PE X a ta) (hb:PE X b tb):PE X (.BinOp a op b pos) (tOp r ta tb):=by
 intro pins s σ H Q I h;exact wpAny_BinOp (bY5 ha hb I h fun v u s2 x y H2 I2 rx ry q=>ho pins s2 σ H2 x y v u Q I2 rx ry q)
def cS1 {op:UnaryOp} {r:V->Hp->VK->Prop} (ho:UnR X (unaryOp op) r) (ha:PE X a ta):PE X (.UnaryOp op a pos) (tUn r ta):=by
 intro pins s σ H Q I h;exact UnaryOp_ (thn (ha pins s σ H _ I h) fun v s1 ⟨x,H1,I1,r1,q1⟩=>ho pins s1 σ H1 x v Q I1 r1 q1)
def opI {f:Value->Value->Sem Value} {C:Int->Int->Prop} {g:Int->Int->Int}
  (rule:∀ (i j:Int) (t u:Tok) (s:Shared) (Q:Value->Shared->Prop) (E:Value->Shared->Prop),C i j->Q (.int (g i j) s.toks) { s with toks:=s.toks+1 }->wpAny (model X.prog X.w) X.A (f (.int i t) (.int j u)) Q E s) :
  OpR X f (rI C fun i j=>.int (g i j)):=by
 intro pins s σ H x y v u Q I rx ry h;obtain ⟨i,j,rfl,rfl,hc,q⟩:=h;obtain ⟨t,rfl⟩:=rx;obtain ⟨t',rfl⟩:=ry;exact rule i j t t' s _ _ hc ⟨.int (g i j),H,I.tok _,⟨_,rfl⟩,q⟩
def bY6 {f:Value->Value->Sem Value} {g:Int->Int->Int}
  (rule:∀ (i j:Int) (t u:Tok) (s:Shared) (Q:Value->Shared->Prop) (E:Value->Shared->Prop),Q (.int (g i j) s.toks) { s with toks:=s.toks+1 }->wpAny (model X.prog X.w) X.A (f (.int i t) (.int j u)) Q E s) :
  OpR X f (rI0 fun i j=>.int (g i j)):=by
 intro pins s σ H x y v u Q I rx ry h;obtain ⟨i,j,rfl,rfl,q⟩:=h;obtain ⟨t,rfl⟩:=rx;obtain ⟨t',rfl⟩:=ry;exact rule i j t t' s _ _ ⟨.int (g i j),H,I.tok _,⟨_,rfl⟩,q⟩
def bB7 {f:Value->Value->Sem Value} {g:Int->Int->Bool}
  (rule:∀ (i j:Int) (t u:Tok) (s:Shared) (Q:Value->Shared->Prop) (E:Value->Shared->Prop),Q (.bool (g i j)) s->wpAny (model X.prog X.w) X.A (f (.int i t) (.int j u)) Q E s) :
  OpR X f (rI0 fun i j=>.bl (g i j)):=by
 intro pins s σ H x y v u Q I rx ry h;obtain ⟨i,j,rfl,rfl,q⟩:=h;obtain ⟨t,rfl⟩:=rx;obtain ⟨t',rfl⟩:=ry;exact rule i j t t' s _ _ ⟨.bl (g i j),H,I,rfl,q⟩
def bB8 (i j:Int):Prop:=0<=j/\j<=1000000/\i.natAbs < 2^64
def CMul (i j:Int):Prop:=(-(2^64) < i/\i < 2^64)\/(-(2^64) < j/\j < 2^64)
def CMul.ok {i j:Int} (h:CMul i j):IntMulOk i j:=by
 rcases h with ⟨h1,h2⟩ | ⟨h1,h2⟩
 ·exact .of_left (intBits_le_64 h1 h2)
 ·exact .of_right (intBits_le_64 h1 h2)
def wW (k:Nat):(0:Int)<=2^k:=by
 rw [two_pow_cast];exact Int.natCast_nonneg _
def bY7:OpR X (binaryOp .Add) (rI0 fun i j=>.int (i+j)):=bY6 fun _ _ _ _ _ _ _ q=>add_int q
def bY8:OpR X (binaryOp .Sub) (rI0 fun i j=>.int (i - j)):=bY6 fun _ _ _ _ _ _ _ q=>sub_int q
def bY9:OpR X (binaryOp .Mult) (rI CMul fun i j=>.int (i*j)):=opI fun _ _ _ _ _ _ _ hc q=>mul_int q hc.ok
def bZ0:OpR X (binaryOp .Mod) (rI (fun _ j=>0 < j) fun i j=>.int (i%j)):=opI fun i j _ _ _ _ _ hc q=>by
 have h1:(0:Int) < j:=hc;exact mod_int' (by omega) (by rw [Int.fmod_eq_emod_of_nonneg i (by omega)];exact q)
def bZ1:OpR X (binaryOp .Pow) (rI bB8 fun i j=>.int (i^j.toNat)):=opI fun _ _ _ _ _ _ _ hc q=>pow_int_small hc.1 hc.2.1 hc.2.2 q
def bZ2:OpR X (binaryOp .RShift) (rI (fun _ j=>0<=j) fun i j=>.int (i / 2^j.toNat)):=opI fun i j _ _ _ _ _ hc q =>
 rshift_int hc (by rw [Int.fdiv_eq_ediv_of_nonneg i (wW _)];exact q)
def bZ3:OpR X (binaryOp .BitAnd) (rI0 fun i j=>.int (Builtin.bitAnd i j)):=bY6 fun _ _ _ _ _ _ _ q=>and_int q
def unI {f:Value->Sem Value} {g:Int->Int}
  (rule:∀ (i:Int) (t:Tok) (s:Shared) (Q:Value->Shared->Prop) (E:Value->Shared->Prop),Q (.int (g i) s.toks) { s with toks:=s.toks+1 }->wpAny (model X.prog X.w) X.A (f (.int i t)) Q E s) :
  UnR X f (rU fun i=>.int (g i)):=by
 intro pins s σ H x v Q I rx h;obtain ⟨i,rfl,q⟩:=h;obtain ⟨t,rfl⟩:=rx;exact rule i t s _ _ ⟨.int (g i),H,I.tok _,⟨_,rfl⟩,q⟩
def bZ4:UnR X (unaryOp .USub) (rU fun i=>.int (-i)):=unI fun _ _ _ _ _ q=>neg_int q
end
noncomputable def dM5:V->V->Bool
 | .non,.non=>true | .non,.int _=>true | .int _,.non=>true | .non,.bl _=>true | .bl _,.non=>true | .non,.str _=>true | .str _,.non=>true
 | .int _,.int _=>true | .bl _,.bl _=>true | .str _,.str _=>true | .byt _,.byt _=>true
 | .int _,.str _=>true | .str _,.int _=>true | .bl _,.str _=>true | .str _,.bl _=>true
 | _,_=>false
noncomputable def rEq:R2:=fun x y H Q=>dM5 x y=true/\Q (.bl (decide (x=y))) H
def bB9 {i j:Int}:decide (V.int i=V.int j)=(i==j):=by
 rw [Bool.eq_iff_iff];simp
def bZ5 {i j:Bool}:decide (V.bl i=V.bl j)=(i==j):=by
 rw [Bool.eq_iff_iff];simp
def bC0 {i j:Str}:decide (V.str i=V.str j)=(i==j):=by
 rw [Bool.eq_iff_iff];simp
def bC1 {i j:Array UInt8}:decide (V.byt i=V.byt j)=(i.toList==j.toList):=by
 rw [Bool.eq_iff_iff];cases i;cases j;simp
section
variable {X:Cx} {a b c:Expr} {ta tb tc:TE} {pos:Pos}
def dE {pins:List (Addr×Obj)} {σ:St} {H:Hp} {s:Shared} {Q:VK} {k k':Bool} (I:Inv X pins σ H s) (q:Q (.bl k) H) (e:k=k'):EP X pins σ Q (.bool k') s:=by
 subst e;exact ⟨.bl k,H,I,rfl,q⟩
def bQ0:OpR X (compareOp .Eq) rEq:=by
 intro pins s σ H x y v u Q I rx ry h;obtain ⟨hs,q⟩:=h;cases x with
 | non =>
  cases rx;cases y with
  | non=>cases ry;exact PySem.EqNone.eq_none_none (dE I q (by simp))
  | bl j=>cases ry;exact PySem.EqNone.eq_none_bool (dE I q (by simp))
  | int j=>obtain ⟨t',rfl⟩:=ry;exact PySem.EqNone.eq_none_int (dE I q (by simp))
  | str j=>obtain ⟨t',rfl⟩:=ry;exact PySem.EqNone.eq_none_str (dE I q (by simp))
  | _=>exact absurd (show false=true from hs) Bool.false_ne_true
 | bl i =>
  cases rx;cases y with
  | non=>cases ry;exact PySem.EqNone.eq_bool_none (dE I q (by simp))
  | bl j=>cases ry;exact eq_bool (dE I q bZ5)
  | str j=>obtain ⟨t',rfl⟩:=ry;exact PySem.EqMixed.eq_bool_str (dE I q (by simp))
  | _=>exact absurd (show false=true from hs) Bool.false_ne_true
 | int i =>
  obtain ⟨t,rfl⟩:=rx;cases y with
  | non=>cases ry;exact PySem.EqNone.eq_int_none (dE I q (by simp))
  | int j=>obtain ⟨t',rfl⟩:=ry;exact eq_int (dE I q bB9)
  | str j=>obtain ⟨t',rfl⟩:=ry;exact PySem.EqMixed.eq_int_str (dE I q (by simp))
  | _=>exact absurd (show false=true from hs) Bool.false_ne_true
 | str i =>
  obtain ⟨t,rfl⟩:=rx;cases y with
  | non=>cases ry;exact PySem.EqNone.eq_str_none (dE I q (by simp))
  | bl j=>cases ry;exact PySem.EqMixed.eq_str_bool (dE I q (by simp))
  | int j=>obtain ⟨t',rfl⟩:=ry;exact PySem.EqMixed.eq_str_int (dE I q (by simp))
  | str j=>obtain ⟨t',rfl⟩:=ry;exact eq_str (dE I q bC0)
  | _=>exact absurd (show false=true from hs) Bool.false_ne_true
 | byt i =>
  obtain ⟨t,rfl⟩:=rx;cases y with
  | byt j=>obtain ⟨t',rfl⟩:=ry;exact PySem.W.eq_bytes (dE I q bC1)
  | _=>exact absurd (show false=true from hs) Bool.false_ne_true
 | _=>cases y<;>exact absurd (show false=true from hs) Bool.false_ne_true
def cS2:OpR X (compareOp .Lt) (rI0 fun i j=>.bl (decide (i < j))):=bB7 fun _ _ _ _ _ _ _ q=>lt_int q
def cS3:OpR X (compareOp .LtE) (rI0 fun i j=>.bl (decide (i<=j))):=bB7 fun _ _ _ _ _ _ _ q=>le_int q
def cS4:OpR X (compareOp .Gt) (rI0 fun i j=>.bl (decide (j < i))):=bB7 fun _ _ _ _ _ _ _ q=>gt_int q
def cS5:OpR X (compareOp .GtE) (rI0 fun i j=>.bl (decide (j<=i))):=bB7 fun _ _ _ _ _ _ _ q=>ge_int q
def zB {op:CmpOp} {r:R2} (ho:OpR X (compareOp op) r) (ha:PE X a ta) (hb:PE X b tb) (hm:behindInMarks op b=false):PE X (.Compare a [op] [b] pos) (tOp r ta tb):=by
 intro pins s σ H Q I h;exact wpAny_Compare1 (bY5 ha hb I h fun v u s2 x y H2 I2 rx ry q=>ho pins s2 σ H2 x y v u Q I2 rx ry q) hm
def bQ1 (t:TE):TT:=fun σ H Q=>t σ H fun x H'=>∃ k,x=.bl k/\Q k H'
def mM {op:CmpOp} {r:R2} (ho:OpR X (compareOp op) r) (ha:PE X a ta) (hb:PE X b tb) (hm:behindInMarks op b=false):PT X (.Compare a [op] [b] pos) (bQ1 (tOp r ta tb)):=by
 intro pins s σ H Q I h;refine wpAny_isTrue_Compare1 (thn (ha pins s σ H _ I h) fun v s1 ⟨x,H1,I1,r1,q1⟩=>thn (hb pins s1 σ H1 _ I1 q1) fun u s2 ⟨y,H2,I2,r2,q2⟩ =>
  thn (ho pins s2 σ H2 x y v u _ I2 r1 r2 q2) fun c s3 ⟨z,H3,I3,r3,k,e,q3⟩=>?_) hm
 subst e;cases r3;exact wpAny_truthy_bool ⟨H3,I3,q3⟩
def wX (r r':R2) (ta tb tc:TE):TE:=fun σ H Q=>ta σ H fun x H1=>tb σ H1 fun y H2=>r x y H2 fun z H3=>∃ k,z=.bl k /\
 (if k=true then tc σ H3 fun w' H4=>r' y w' H4 Q else Q (.bl false) H3)
def aL8 {op op':CmpOp} {r r':R2} (ho:OpR X (compareOp op) r) (ho':OpR X (compareOp op') r') (ha:PE X a ta) (hb:PE X b tb) (hc:PE X c tc)
  (hm:autoParam (lastMarks [op,op'] [b,c]=false) ZW):PE X (.Compare a [op,op'] [b,c] pos) (wX r r' ta tb tc):=by
 intro pins s σ H Q I h;refine Compare_chain (thn (ha pins s σ H _ I h) fun v s1 ⟨x,H1,I1,r1,q1⟩=>chain_link (thn (hb pins s1 σ H1 _ I1 q1) fun u s2 ⟨y,H2,I2,r2,q2⟩ =>
  thn (ho pins s2 σ H2 x y v u _ I2 r1 r2 q2) fun d s3 ⟨z,H3,I3,r3,k,e,q3⟩=>?_)) hm
 subst e;cases r3;refine wpAny_truthy_bool ?_;cases k with
 | false=>exact ite_ff ⟨.bl false,H3,I3,rfl,q3⟩
 | true=>exact ite_tt (chain_last (thn (hc pins s3 σ H3 _ I3 q3) fun w' s4 ⟨z',H4,I4,r4,q4⟩=>ho' pins s4 σ H4 y z' u w' Q I4 r2 r4 q4))
def aL9 {op op':CmpOp} {r r':R2} (ho:OpR X (compareOp op) r) (ho':OpR X (compareOp op') r') (ha:PE X a ta) (hb:PE X b tb) (hc:PE X c tc)
  (hm:autoParam (lastMarks [op,op'] [b,c]=false) ZW):PT X (.Compare a [op,op'] [b,c] pos) (bQ1 (wX r r' ta tb tc)):=by
 intro pins s σ H Q I h;refine isTrue_chain (thn (ha pins s σ H _ I h) fun v s1 ⟨x,H1,I1,r1,q1⟩=>test_link (thn (hb pins s1 σ H1 _ I1 q1) fun u s2 ⟨y,H2,I2,r2,q2⟩ =>
  thn (ho pins s2 σ H2 x y v u _ I2 r1 r2 q2) fun d s3 ⟨z,H3,I3,r3,k,e,q3⟩=>?_)) hm
 subst e;cases r3;refine wpAny_truthy_bool ?_;cases k with
 | false =>
  obtain ⟨k',e',q'⟩:=q3;cases e';exact ite_ff ⟨H3,I3,q'⟩
 | true =>
  refine ite_tt (test_last (thn (hc pins s3 σ H3 _ I3 q3) fun w' s4 ⟨z',H4,I4,r4,q4⟩=>thn (ho' pins s4 σ H4 y z' u w' _ I4 r2 r4 q4) fun d' s5 ⟨z2,H5,I5,r5,k2,e2,q5⟩=>?_));subst e2;cases r5;exact wpAny_truthy_bool ⟨H5,I5,q5⟩
def rY:(sizeLine:Nat) < 2^63:=by rw [sizeLine_eq];decide
def lK {x:V} {us:List Value} (r:Vals [x] us):∃ u,us=[u]/\RelV x u:=by
 cases r with
 | cons r1 r2=>cases r2;exact ⟨_,rfl,r1⟩
end
structure ObjM (h:Heap) (x dx C:Addr) (mA:Str->Option Value):Prop where
 obj:h.get? x=some (PySem.W.instObj C dx)
 ns:h.Ns1 dx mA
 ne:dx≠x
section
variable {prog:Program} {w:World} {A:Around} {E:Value->Shared->Prop} {s:Shared} {K:Frag} {x dx C f:Addr} {mA:Str->Option Value} {name:Str} {v:Value}
end
def RelO.some_of {v:V} {o:Option Value} (r:RelO (some v) o):∃ u,o=some u/\RelV v u:=by
 cases o with
 | none=>exact (show False from r).elim
 | some u=>exact ⟨u,rfl,r⟩
section
variable {P:Program} {w:World} {H H':Hp} {h h':Heap} {a C dx:Addr} {fs fs':List (Str×V)}
end
structure Cls (K:Frag) (C:Addr):Prop where
 pg:PySem.W.plainGet K C Str.empty=true
 hd:PySem.W.hasDictIn K C=true
 po:PySem.W.plainOver K C=true
 sa:PySem.W.findIn K (.ref C) "__setattr__"=some (some (.builtin "object.__setattr__"))
def wY (K:Frag) (C:Addr) (f:Str):Prop:=PySem.W.findIn K (.ref C) f=some none
structure Meth (K:Frag) (C:Addr) (m:Str) (f:Addr):Prop where
 at_:PySem.W.findIn K (.ref C) m=some (some (.ref f))
 fn:PySem.W.isFn K (.ref f)=true
 kp:PySem.W.keepIn K (.ref f)=true
section
variable {X:Cx} {pins:List (Addr×Obj)} {σ:St} {H:Hp} {s:Shared} {a C dx:Addr} {fs:List (Str×V)} {f:Str} {v:V} {A:Around} {E:Value->Shared->Prop}
end
section
variable {X:Cx} {o e value:Expr} {f:Str} {pos pos' tpos:Pos} {ta tv:TE}
end
section
variable {X:Cx} {pins:List (Addr×Obj)} {σ:St} {H:Hp} {s:Shared} {A:Around} {E:Value->Shared->Prop} {Q:Value->Shared->Prop} {c:Value} {b:Bool}
end
structure Room (k:Nat) (A:Around):Prop where
 hd:A.handled=none
 dp:A.depth+3*k+5 < recursionLimit
 un:A.units+16*k+200 < cLine
def Room.deeper {k:Nat} {A:Around} (r:Room (k+1) A) (env:Env):Room k (A.deeper env) :=
 ⟨r.hd,by have:=r.dp;show A.depth+1+3*k+5 < _;omega,by have:=r.un;show A.units+3+16*k+200 < _;omega⟩
def Room.depth {k:Nat} {A:Around} (r:Room k A):A.depth < recursionLimit:=by have:=r.dp;omega
def Room.units {k:Nat} {A:Around} (r:Room k A):A.units+64 < cLine:=by have:=r.un;omega
def bC2:TA:=fun _ H Q=>Q [] H
def uF (ta:TE) (tr:TA):TA:=fun σ H Q=>ta σ H fun x H1=>tr σ H1 fun xs H2=>Q (x::xs) H2
section
variable {X:Cx} {e:Expr} {es:List Expr} {te:TE} {t:TA} {pos:Pos}
def nG:PA X [] bC2:=fun _ _ _ _ H Q I h=>Calls.spliced_nil ⟨[],H,I,.nil,h⟩
def iQ (ha:PE X e te) (hr:PA X es t) (hs:autoParam (starEach (e::es) X.env=(false,eval e X.env)::starEach es X.env) ZR):PA X (e::es) (uF te t):=by
 intro pos pins s σ H Q I h;rw [hs];show wpAny _ _ (spliced ((false,eval e X.env)::backTo pos (starEach es X.env))) _ _ s;refine Calls.spliced_cons (thn (ha pins s σ H _ I h) fun u s1 ⟨x,H1,I1,r1,q1⟩=>?_);exact thn (hr pos pins s1 σ H1 _ I1 q1) fun us s2 ⟨xs,H2,I2,r2,q2⟩=>⟨x::xs,H2,I2,.cons r1 r2,q2⟩
def dM6 (t:TA):TE:=fun σ H Q=>t σ H fun xs H1=>xs.length<=sizeLine/\∀ p,H1 p=none->Q (.ref p) (upd H1 p (.tup xs))
def dM7 (t:TA):TE:=fun σ H Q=>t σ H fun xs H1=>xs.length<=sizeLine/\∀ p,H1 p=none->Q (.ref p) (upd H1 p (.lst xs))
def aM0 {x1} (h:PA X es t):PE X (.Tuple es x1 pos) (dM6 t):=by
 intro pins s σ H Q I hq;refine wpAny_Tuple_spliced (thn (h pos pins s σ H _ I hq) fun us s1 ⟨xs,H1,I1,r,z,q⟩=>⟨by rw [<- r.length];exact z,?_⟩);have hf:H1 s1.heap.objs.size=none:=I1.hok.fresh (Nat.le_refl _);refine ⟨.ref s1.heap.objs.size,upd H1 s1.heap.objs.size (.tup xs),I1.laid (t':=s1.toks) (fun b u e=>Heap.get?_push_of_some _ e) (Nat.le_refl _) ?_,rfl,q _ hf⟩;exact ⟨z,us,r,⟨_,Heap.get?_push_size _ rfl,rfl,⟨_,rfl⟩,rfl⟩⟩
def bZ6 (h:PA X es t):PE X (.List es pos) (dM7 t):=by
 intro pins s σ H Q I hq;refine wpAny_List_spliced (thn (h pos pins s σ H _ I hq) fun us s1 ⟨xs,H1,I1,r,z,q⟩=>⟨by rw [<- r.length];exact z,?_⟩);have hf:H1 s1.heap.objs.size=none:=I1.hok.fresh (Nat.le_refl _);refine ⟨.ref s1.heap.objs.size,upd H1 s1.heap.objs.size (.lst xs),I1.laid (t':=s1.toks) (fun b u e=>Heap.get?_push_of_some _ e) (Nat.le_refl _) ?_,rfl,q _ hf⟩;exact ⟨z,us,0,r,Heap.get?_push_size _ rfl⟩
end
abbrev Sp:=List V->Hp->VK->XK->Prop
abbrev CXT:=List Env->Hp->Shared->XK->Value->Shared->Prop
structure Env0 (P:Program) (w:World) (K:Frag) (mg:Str->Option Value) (base:Heap) (A:Around) (outer:List Env) (s:Shared) (H:Hp):Prop where
 frames:A.frames=some outer
 mod:Mod K mg base
 bs:∀ b o,base.get? b=some o->s.heap.get? b=some o/\H b=none
 bsz:base.objs.size<=s.heap.objs.size
 funs:s.heap.FunFrames base outer
 frf:∀ b∈frs outer,H b=none
 hok:HOk P w H s.heap
 bare:AllBare s.gens
def CE (outer:List Env) (P:Program) (w:World) (H:Hp) (s:Shared) (Q:VK) (u:Value) (s':Shared):Prop :=
 ∃ v H',s'.os=s.os/\AllBare s'.gens/\Un (frs outer) [] H H' s.heap s'.heap/\HOk P w H' s'.heap/\RelV v u/\Q v H'
def CR (CX:CXT) (outer:List Env) (P:Program) (w:World) (H:Hp) (s:Shared) (Q:VK) (E:XK) (r:Result) (s':Shared):Prop :=
 match r with
 | .ok (.ret u)=>CE outer P w H s Q u s'
 | .ok _=>False
 | .error e=>CX outer H s E e s'
structure FnOk (P:Program) (w:World) (K:Frag) (mg:Str->Option Value) (base:Heap) (CX:CXT) (k:Nat) (f:Addr) (fd:FuncData) (ps:List Str) (sp:Sp):Prop where
 len:∀ vs H Q E,sp vs H Q E->vs.length=ps.length
 run:∀ (A:Around) (outer:List Env) (s:Shared) (H:Hp) (args:Args) (us:List Value) (vs:List V) (Q:VK) (E:XK),Room k A->Env0 P w K mg base A outer s H->BindsTo s fd args (ps.zip us)->Vals vs us->sp vs H Q E ->
  codeAny (model P w) A (.call (.ref f) args) (CR CX outer P w H s Q E) s
section
variable {X:Cx} {pins:List (Addr×Obj)} {σ:St} {H:Hp} {s s':Shared}
def Inv.env0 (I:Inv X pins σ H s):Env0 X.prog X.w X.K X.mg X.base X.A X.stack s H :=
 ⟨I.ok.frames,I.ok.mod,I.bs,Nat.le_trans I.ok.bsz I.sz,I.stack,I.stkFree,I.hok,I.bare⟩
def Inv.after {Q:VK} {u:Value} (I:Inv X pins σ H s) (h:CE X.stack X.prog X.w H s Q u s'):EP X pins σ Q u s':=by
 obtain ⟨v,H',os,bare,un,hok,r,q⟩:=h;obtain ⟨hh,g,d,t,os'⟩:=s';obtain rfl:os'=s.os:=os;exact ⟨v,H',I.call (h':=hh) (g':=g) (d':=d) (t':=t) (ch:=[]) un hok bare (fun b z=>absurd z (by simp)),r,q⟩
end
def zC (sp:Sp) (dvs:List V) (E:XK) (t:TA):TE:=fun σ H Q=>t σ H fun vs H1=>sp (vs++dvs) H1 Q E
def Binds (K:Frag) (fd:FuncData) (ps:List Str) (ds:List Value):Prop :=
 ∀ (s:Shared) (us:List Value),K.In s.heap->(us++ds).length=ps.length->BindsTo s fd ⟨us,[]⟩ (ps.zip (us++ds))
def Binds.all {K:Frag} {fd:FuncData} {ps:List Str} (h:∀ us:List Value,us.length=ps.length->bindArgs fd ⟨us,[]⟩=pure (ps.zip us)):Binds K fd ps []:=fun s us _ hl=>by
 rw [List.append_nil] at hl ⊢;exact .of_eq (h us hl)
def rZ (CX:CXT) (X:Cx) (E:XK):Prop:=∀ (pins:List (Addr×Obj)) (σ:St) (H:Hp) (s:Shared) (e:Value) (s':Shared),Inv X pins σ H s->CX X.stack H s E e s'->X.xe e s'
section
variable {X:Cx} {CX:CXT} {k:Nat} {f C:Addr} {fd:FuncData} {ps:List Str} {sp:Sp} {dvs:List V} {ds:List Value} {E:XK} {x m:Str} {p pos apos:Pos} {e o:Expr} {es:List Expr} {ta:TE} {t:TA}
def aM1 {pins:List (Addr×Obj)} {σ:St} {H:Hp} {s:Shared} {Q:VK} {us:List Value} {vs:List V} (F:FnOk X.prog X.w X.K X.mg X.base CX k f fd ps sp) (hr:Room k X.A) (hb:Binds X.K fd ps ds) (hd:Vals dvs ds) (hx:rZ CX X E)
  (I:Inv X pins σ H s) (r:Vals vs us) (h:sp (vs++dvs) H Q E):wpAny (model X.prog X.w) X.A (call (.ref f) us) (EP X pins σ Q) X.xe s:=by
 have r2:Vals (vs++dvs) (us++ds):=r.append hd;have hl:(us++ds).length=ps.length:=by rw [<- r2.length];exact F.len _ _ _ _ h
 refine wpAny_call (codeAny_mono (F.run X.A X.stack s H ⟨us,[]⟩ (us++ds) (vs++dvs) Q E hr I.env0 (hb s us I.kIn hl) r2 h) fun r s' hq=>?_);cases r with
 | error e=>exact hx pins σ H s e s' I hq
 | ok fl =>
  cases fl with
  | ret u=>exact I.after hq
  | next=>exact False.elim hq
  | brk=>exact False.elim hq
  | cont=>exact False.elim hq
def zD (F:FnOk X.prog X.w X.K X.mg X.base CX k f fd ps sp) (hr:Room k X.A) (hg:Gl X x) (hm:X.mg x=some (.ref f)) (hk:PySem.W.keepIn X.K (.ref f)=true) (hb:Binds X.K fd ps ds) (hd:Vals dvs ds) (hx:rZ CX X E)
  (ha:PA X (e::es) t) (hdb:autoParam ((x==("__debug__":Str))=false) ZD) (he:autoParam (starEach (e::es) X.env=(false,eval e X.env)::starEach es X.env) ZR) (hpl:autoParam ((backTo pos (starEach es X.env)).any (·.1)=false) ZR) :
  PE X (.Call (.Name x p) (e::es) [] pos) (zC sp dvs E t):=by
 intro pins s σ H Q I h;refine wpAny_Call_Name_kw (iP I hg hm ?_ hdb);refine PySem.W.callWith_K (h₀:=X.base) I.ok.mod.kin hk (thn (ha pos pins s σ H _ I h) fun us s1 ⟨vs,H1,I1,r,q⟩=>⟨I1.kIn,?_⟩) he hpl;exact aM1 F hr hb hd hx I1 r q
def aM2 (F:FnOk X.prog X.w X.K X.mg X.base CX k f fd ps sp) (hr:Room k X.A) (hg:Gl X x) (hm:X.mg x=some (.ref f)) (hk:PySem.W.keepIn X.K (.ref f)=true) (hb:Binds X.K fd ps ds) (hd:Vals dvs ds) (hx:rZ CX X E)
  (hdb:autoParam ((x==("__debug__":Str))=false) ZD):PE X (.Call (.Name x p) [] [] pos) (zC sp dvs E bC2):=by
 intro pins s σ H Q I h;refine wpAny_Call_Name_kw (iP I hg hm ?_ hdb);exact PySem.W.callWith_K0 I.kIn hk (aM1 (us:=[]) F hr hb hd hx I .nil h)
structure Mk (K:Frag) (C f:Addr):Prop where
 makes:PySem.W.makesIn K C=true
 init:PySem.W.findIn K (.ref C) "__init__"=some (some (.ref f))
 fn:PySem.W.isFn K (.ref f)=true
 kp:PySem.W.keepIn K (.ref C)=true
end
section
variable {X:Cx} {CX:CXT} {k:Nat} {f C:Addr} {fd:FuncData} {ps ks:List Str} {sp:Sp} {E:XK} {x m:Str} {p pos apos kpos:Pos} {e o:Expr} {es:List Expr} {kws:List Keyword} {te ta:TE} {t tk:TA} {nm:Option Str}
variable {g:List Value->List Value->List Value} {gV:List V->List V->List V}
end
structure FnScope (N P:List Str) (sc:Scope):Prop where
 kind:sc.kind=.function
 co:sc.isCoroutine=false
 gen:sc.isGenerator=false
 nd:N.Nodup
 pre:N.take P.length=P
 par:∀ x∈P,sc.names.lookup x=some .local\/sc.names.lookup x=some .cell
 nofree:∀ y∈sc.names,y.2≠.free
theorem qC {kindOf:Str->Option NameKind} {x:Str}:∀ {binds:List (Str×Value)} {m:Str->Option Value},(∀ v,(x,v)∉binds)->bindL kindOf binds m x=m x
 | [],_,_=>rfl
 | (n,v)::r,m,h=>by
  unfold bindL;rw [qC fun w hw=>h w (List.mem_cons_of_mem _ hw)];split
  ·have:x≠n:=by rintro rfl;exact h v List.mem_cons_self
   simp [this]
  ·rfl
theorem qD {kindOf:Str->Option NameKind} {x:Str}:∀ {binds:List (Str×Value)} {m:Str->Option Value},(∀ v,(x,v)∉binds)->bindC kindOf binds m x=m x
 | [],_,_=>rfl
 | (n,v)::r,m,h=>by
  unfold bindC;rw [qD fun w hw=>h w (List.mem_cons_of_mem _ hw)];split
  ·rfl
  ·have:x≠n:=by rintro rfl;exact h v List.mem_cons_self
   simp [this]
theorem qE {kindOf:Str->Option NameKind} {x:Str} {v:Value}:∀ {P:List Str} {vs:List Value} {i:Nat} {m:Str->Option Value},P.Nodup->P[i]?=some x->vs[i]?=some v->kindOf x=some .local ->
  bindL kindOf (P.zip vs) m x=some v
 | [],_,_,_,_,h,_,_=>by simp at h
 | _::_,[],_,_,_,_,h,_=>by simp at h
 | p::P,w::vs,0,m,nd,h1,h2,hk=>by
  simp at h1 h2;subst h1;subst h2;show bindL kindOf ((p,w)::P.zip vs) m p=_;unfold bindL;rw [qC fun v hv=>(List.nodup_cons.mp nd).1 (List.of_mem_zip hv).1,if_pos hk];simp
 | p::P,w::vs,i+1,m,nd,h1,h2,hk=>by
  show bindL kindOf ((p,w)::P.zip vs) m x=_;unfold bindL;exact qE (i:=i) (List.nodup_cons.mp nd).2 (by simpa using h1) (by simpa using h2) hk
theorem qF {kindOf:Str->Option NameKind} {x:Str} {v:Value}:∀ {P:List Str} {vs:List Value} {i:Nat} {m:Str->Option Value},P.Nodup->P[i]?=some x->vs[i]?=some v->kindOf x≠some .local ->
  bindC kindOf (P.zip vs) m x=some v
 | [],_,_,_,_,h,_,_=>by simp at h
 | _::_,[],_,_,_,_,h,_=>by simp at h
 | p::P,w::vs,0,m,nd,h1,h2,hk=>by
  simp at h1 h2;subst h1;subst h2;show bindC kindOf ((p,w)::P.zip vs) m p=_;unfold bindC;rw [qD fun v hv=>(List.nodup_cons.mp nd).1 (List.of_mem_zip hv).1,if_neg hk];simp
 | p::P,w::vs,i+1,m,nd,h1,h2,hk=>by
  show bindC kindOf ((p,w)::P.zip vs) m x=_;unfold bindC;exact qF (i:=i) (List.nodup_cons.mp nd).2 (by simpa using h1) (by simpa using h2) hk
noncomputable def start (N:List Str) (vs:List V):St:=vs.map some++List.replicate (N.length - vs.length) none
noncomputable def lY (CX:CXT) (P:Program) (w:World) (K:Frag) (mg:Str->Option Value) (base:Heap) (N:List Str) (qual:Str) (scope:Scope) (f:Addr) (cd:Value) (A:Around) (outer:List Env) (s:Shared) (H:Hp) (E:XK):Cx where
 prog:=P
 w:=w
 K:=K
 mg:=mg
 base:=base
 A:=A.deeper (envOfC qual scope s.heap.objs.size f cd)
 N:=N
 s₀:=s
 H₀:=H
 env:=envOfC qual scope s.heap.objs.size f cd
 outer:=outer
 stack:=envOfC qual scope s.heap.objs.size f cd::outer
 ex:=[]
 calm:=true
 fn:=fun _=>true
 pn:=[]
 xe:=fun e s'=>wpAny (model P w) (A.deeper (envOfC qual scope s.heap.objs.size f cd)) (leaving (envOfC qual scope s.heap.objs.size f cd) e) (fun _ s''=>CX outer H s E e s'') (fun e' s''=>CX outer H s E e' s'') s'
def uG {sc:Scope} {n:Nat} {x:Str} (h:sc.names.lookup x=some .cell):∃ c,(cellsFrom n sc.names []).lookup x=some c:=by
 have q:=PySem.W.cellsFrom_some sc.names n [] (.inl h);exact Option.isSome_iff_exists.mp q
def aD3 {CX:CXT} {P:Program} {w:World} {K:Frag} {mg:Str->Option Value} {base:Heap} {N ps:List Str} {qual:Str} {scope:Scope} {f:Addr} {cd:Value} {A:Around} {outer:List Env} {s s1:Shared} {H:Hp} {E:XK} {us:List Value} {vs:List V}
  (S:FnScope N ps scope) (hd:A.handled=none) (e0:Env0 P w K mg base A outer s H) (hl:vs.length=ps.length) (r:Vals vs us)
  (x:InCallC s s.heap.objs.size (bindL (envOfC qual scope s.heap.objs.size f cd).kindOf (ps.zip us) fun _=>none) (cellsFrom (s.heap.objs.size+1) scope.names []) (bindC (envOfC qual scope s.heap.objs.size f cd).kindOf (ps.zip us) fun _=>none) s1) :
  Inv (lY CX P w K mg base N qual scope f cd A outer s H E) [] (start N vs) H s1:=by
 have hpl:ps.length<=N.length:=by have:=congrArg List.length S.pre;rw [List.length_take] at this;omega
 obtain ⟨h1,tk,rfl,hk⟩:=x.done;have noA:∀ b:Addr,b∉(lY CX P w K mg base N qual scope f cd A outer s H E).ex:=fun b z=>absurd (show b∈([]:List Addr) from z) (by simp);refine ⟨⟨e0.mod,S.kind,rfl,rfl,Nat.le_refl _,fun y z c h1 h2=>?_,fun y hy=>?_,fun y c _ h=>?_,fun _=>hd,Around.frames_deeper e0.frames,.inr ⟨rfl,rfl⟩,fun b z=>absurd z (noA b),e0.bs,e0.bsz,fun b _ _=>noA b,fun b z=>absurd z (noA b),e0.funs,e0.frf⟩,
  rfl,e0.bare,Un.kept hk,⟨_,x.toInCall.ns,fun i y v h1 h2 h3=>?_⟩,fun y c h=>⟨_,x.cell y c h⟩,e0.hok.fresh (Nat.le_refl _),fun y c h=>?_,fun p hp=>absurd (show p∈([]:List (Addr×Obj)) from hp) (by simp),e0.hok.kept hk,?_⟩
 ·exact name_of_addr x.apart (PySem.mem_of_lookup h1) (PySem.mem_of_lookup h2)
 ·have hy:scope.names.lookup y=some .cell\/scope.names.lookup y=some .free:=hy;rcases hy with hy | hy
  ·exact uG hy
  ·exact absurd rfl (S.nofree _ (PySem.mem_of_lookup hy))
 ·exact Nat.le_of_lt (x.above y c (PySem.mem_of_lookup h))
 ·have hi:i < vs.length:=by
   unfold start at h2
   by_cases hi:i < vs.length
   ·exact hi
   ·rw [List.getElem?_append_right (by simpa using hi)] at h2;rw [List.getElem?_replicate] at h2;split at h2<;>cases h2
  have ha:vs[i]?=some v:=by
   unfold start at h2;rw [List.getElem?_append_left (by simpa using hi),List.getElem?_map] at h2;cases e:vs[i]? with
   | none=>rw [e] at h2;cases h2
   | some a=>rw [e] at h2;cases h2;rfl
  obtain ⟨u,hu,rv⟩:=r.get ha;have hp:ps[i]?=some y:=by
   rw [<- S.pre,List.getElem?_take_of_lt (by omega)];exact h1
  have ndP:ps.Nodup:=by rw [<- S.pre];exact S.nd.sublist (List.take_sublist _ _)
  refine ⟨u,rv,?_⟩;rcases S.par y (List.mem_of_getElem? hp) with k | k
  ·exact .inl ⟨k,qE ndP hp hu k⟩
  ·obtain ⟨c,e⟩:=uG (n:=s.heap.objs.size+1) k;refine .inr ⟨.inl k,c,e,?_⟩;have q:=x.cell y c e;rw [qF ndP hp hu (by show scope.names.lookup y≠_;rw [k];decide)] at q;exact q
 ·exact e0.hok.fresh (Nat.le_of_lt (x.above y c (PySem.mem_of_lookup h)))
 ·unfold start;show _=N.length;rw [List.length_append,List.length_map,List.length_replicate];omega
def aM3 {CX:CXT} {P:Program} {w:World} {K:Frag} {mg:Str->Option Value} {base:Heap} {k:Nat} {f:Addr} {name qual:Str} {params:Arguments} {body:List Stmt} {scope:Scope} {dV kV doc pm cdv ct oc:Value} {an od:Option Addr}
  {osl:Array (Option Value)} {N ps:List Str} {sp:Sp} (lk:K.lookup f=some ⟨oc,od,.func (PySem.W.fnOf name qual params body scope dV kV doc pm an cdv ct),osl⟩) (hcd:PySem.W.codeIn K cdv qual=true) (S:FnScope N ps scope)
  (len:∀ vs H Q E,sp vs H Q E->vs.length=ps.length)
  (hbody:∀ (A:Around) (outer:List Env) (s:Shared) (H:Hp) (vs:List V) (Q:VK) (E:XK),Room k (A.deeper (envOfC qual scope s.heap.objs.size f cdv))->sp vs H Q E ->
   ∃ t,PSs (lY CX P w K mg base N qual scope f cdv A outer s H E) body t/\t { nx:=fun _ H'=>Q .non H',rt:=Q } (start N vs) H) :
  FnOk P w K mg base CX (k+1) f (PySem.W.fnOf name qual params body scope dV kV doc pm an cdv ct) ps sp:=by
 refine ⟨len,fun A outer s H args us vs Q E hr e0 hb r hsp=>?_⟩;have hl:=len _ _ _ _ hsp;have KX:K.In s.heap:=e0.mod.kin.keeps fun b o e=>(e0.bs b o e).1;have lim:s.heap.NoLimit:=e0.mod.nolimit.keeps fun b o e=>(e0.bs b o e).1;have hkind:∀ y∈ps.zip us,scope.names.lookup y.1=some .local\/(scope.names.lookup y.1=some .cell/\((cellsFrom (s.heap.objs.size+1) scope.names []).lookup y.1).isSome=true):=fun ⟨n,v⟩ hy=>by
  rcases S.par n (List.of_mem_zip hy).1 with q | q
  ·exact .inl q
  ·exact .inr ⟨q,PySem.W.cellsFrom_some _ _ _ (.inl q)⟩
 refine codeAny_call_function hr.depth (KX _ _ lk) rfl S.co S.gen rfl (PySem.W.codeRec_of KX hcd) (hb _ _ _ _ ?_);refine wpAny_newFunctionEnv_cells S.kind hkind fun env he s1 x=>?_;subst he;refine ⟨lim.keeps x.toInCall.keep,codeAny_func ?_⟩;obtain ⟨t,ht,hq⟩:=hbody A outer s H vs Q E (hr.deeper _) hsp;have I:Inv (lY CX P w K mg base N qual scope f cdv A outer s H E) [] (start N vs) H s1:=aD3 S hr.hd e0 hl r x;refine wpAny_mono (ht [] s1 (start N vs) H _ I hq) (fun fl s' hs=>?_) fun e s' hs=>hs;have fin:∀ {σ':St} {H':Hp} {v:V} {u:Value},Inv (lY CX P w K mg base N qual scope f cdv A outer s H E) [] σ' H' s'->RelV v u->Q v H'->CE outer P w H s Q u s' :=
  fun {σ' H' v u} J rv q=>⟨v,H',J.os,J.bare,J.base,J.hok,rv,q⟩
 cases fl with
 | ret u =>
  obtain ⟨v,σ',H',J,rv,q⟩:=hs;exact fin J rv q
 | next =>
  obtain ⟨σ',H',J,q⟩:=hs;exact fin (v:=V.non) (u:=Value.none) J rfl q
 | brk =>
  obtain ⟨_,_,_,q⟩:=hs;exact False.elim q
 | cont =>
  obtain ⟨_,_,_,q⟩:=hs;exact False.elim q
section
variable {X:Cx} {x:Str} {p pos:Pos} {e:Expr} {es:List Expr} {t:TA} {id T:String} {r:List V->Hp->VK->Prop}
def tCB (r:List V->Hp->VK->Prop) (t:TA):TE:=fun σ H Q=>t σ H fun vs H1=>r vs H1 Q
def nJ (hc:cU X (.builtin id) r) (hg:Gl X x) (hm:X.mg x=none) (hv:bootBuiltins x=some (.builtin id)) (ha:PA X (e::es) t) (hn:autoParam (x≠"__name__") ZD) (hdb:autoParam ((x==("__debug__":Str))=false) ZD)
  (he:autoParam (starEach (e::es) X.env=(false,eval e X.env)::starEach es X.env) ZR) (hpl:autoParam ((backTo pos (starEach es X.env)).any (·.1)=false) ZR):PE X (.Call (.Name x p) (e::es) [] pos) (tCB r t):=by
 intro pins s σ H Q I h;refine wpAny_Call_Name_kw (fU I hg hm hv ?_ hn hdb);exact PyProof.Rows.callWith_builtin1 (thn (ha pos pins s σ H _ I h) fun us s1 ⟨vs,H1,I1,r1,q1⟩=>hc pins s1 σ H1 vs us Q I1 r1 q1) he hpl
def qG (hc:cU X (.type T) r) (hg:Gl X x) (hm:X.mg x=none) (hv:bootBuiltins x=some (.type T)) (ha:PA X (e::es) t) (hn:autoParam (x≠"__name__") ZD) (hdb:autoParam ((x==("__debug__":Str))=false) ZD)
  (he:autoParam (starEach (e::es) X.env=(false,eval e X.env)::starEach es X.env) ZR) (hpl:autoParam ((backTo pos (starEach es X.env)).any (·.1)=false) ZR):PE X (.Call (.Name x p) (e::es) [] pos) (tCB r t):=by
 intro pins s σ H Q I h;refine wpAny_Call_Name_kw (fU I hg hm hv ?_ hn hdb);exact PyProof.Rows.callWith_type1 (thn (ha pos pins s σ H _ I h) fun us s1 ⟨vs,H1,I1,r1,q1⟩=>hc pins s1 σ H1 vs us Q I1 r1 q1) he hpl
end
end L2
namespace HT
open PySem PyProof.Rows
section
open PySem.SeqAt
open PySem.AutoSeq1 (wpAny_loadPart')
open PySem.MeetsSeq PySem.MeetsSeq2 PySem.MeetsSeq3
end
section
variable {prog:Program} {w:World} {A:Around} {E:Value->Shared->Prop} {s:Shared}
def cat_tup {t b:Addr} {vs ws:List Value} {Q:Value->Shared->Prop} (ht:IsTup s.heap t vs.toArray) (hb:IsTup s.heap b ws.toArray) (hv:vs≠[])
  (h1:ws=[]->Q (.ref t) s) (h2:ws≠[]->Q (.ref s.heap.objs.size) { s with heap:=s.heap.push { cls:=.type "tuple",data:=.seq (vs++ws).toArray } })
  (hsz:vs.length+ws.length<=sizeLine):wpAny (model prog w) A (binaryOp .Add (.ref t) (.ref b)) Q E s:=by
 obtain ⟨⟨cls,dd,data,sl⟩,ho,hc,n,hd⟩:=id ht;obtain ⟨⟨cls2,dd2,data2,sl2⟩,ho2,hc2,n2,hd2⟩:=id hb;simp only at hc hd hc2 hd2;subst hc hd hc2 hd2;have e:vs.toArray++ws.toArray=(vs++ws).toArray:=by simp
 by_cases hw:ws=[]
 ·exact concat_meets ⟨_,ho,rfl⟩ ⟨_,ho2,rfl⟩ noFill_tuple_add seq_tuple_add PySem.F.slot_tuple_add PySem.F.entry_tuple_add (PySem.F.args_tuple_add_2 _ _)
   (tuple_addW1 t b vs.toArray ws.toArray n n2 dd dd2 sl sl2 (by simpa using hv) (by simp [hw])) ⟨ho,ho2,h1 hw⟩
 ·refine concat_meets ⟨_,ho,rfl⟩ ⟨_,ho2,rfl⟩ noFill_tuple_add seq_tuple_add PySem.F.slot_tuple_add PySem.F.entry_tuple_add (PySem.F.args_tuple_add_2 _ _)
   (tuple_addW2 t b vs.toArray ws.toArray n n2 dd dd2 sl sl2 (by simpa using hv) (by simpa using hw) (by rw [List.size_toArray,List.size_toArray];exact hsz)) ⟨ho,ho2,?_⟩
  rw [e];exact h2 hw
noncomputable def sIx (n d:Nat):Option Int->Nat
 | none=>d
 | some v=>if v < 0 then (v+(n:Int)).toNat else min v.toNat n
def bZ7 (n d:Nat) (hd:d<=n) (o:Option Int):sIx n d o<=n:=by
 cases o with
 | none=>exact hd
 | some v =>
  show (if v < 0 then (v+(n:Int)).toNat else min v.toNat n)<=n
  by_cases hv:v < 0
  ·rw [if_pos hv];omega
  ·rw [if_neg hv];exact Nat.min_le_right _ _
def zE (v:Int) (n d:Nat):(if v < 0 then max (v+(n:Int)) 0 else min v (n:Int))=((sIx n d (some v):Nat):Int):=by
 show (if v < 0 then max (v+(n:Int)) 0 else min v (n:Int))=(((if v < 0 then (v+(n:Int)).toNat else min v.toNat n):Nat):Int)
 by_cases hv:v < 0
 ·simp only [if_pos hv];omega
 ·simp only [if_neg hv];omega
def wZ (lo hi:Option Int) (n:Nat):Builtin.Slice.sliceAdjust lo hi 1 (n:Int)=(((sIx n 0 lo:Nat):Int),((sIx n n hi:Nat):Int)):=by
 have h1:¬ ((1:Int) < 0):=by omega
 unfold Builtin.Slice.sliceAdjust;simp only [h1,if_false];refine Prod.ext ?_ ?_
 ·cases lo with
  | none=>rfl
  | some v=>exact zE v n 0
 ·cases hi with
  | none=>rfl
  | some v=>exact zE v n n
def xA (i j:Nat):Builtin.Slice.slicePlaces (i:Int) (j:Int) 1=j - i:=by
 unfold Builtin.Slice.slicePlaces;have h1:(1:Int) > 0:=by omega
 simp only [h1,if_true,Int.ediv_one];split<;>omega
def nK {v:Value} {o:Option Int} {Q:Option Int->Shared->Prop} (p:IsPart v o) (h:Q o s):wpAny (model prog w) A (Builtin.Slice.slicePartIndex v) Q E s:=by
 cases p with
 | none=>exact slicePart_none h
 | int i t=>exact slicePart_int h
def sliceApplied_gen {sl:Addr} {vl vu:Value} {lo hi:Option Int} {n:Nat} {Q:Int×Int×Nat->Shared->Prop} (hs:s.heap.IsSliceOf sl vl vu .none) (pl:IsPart vl lo) (pu:IsPart vu hi)
  (h:Q (((sIx n 0 lo:Nat):Int),1,sIx n n hi - sIx n 0 lo) s):wpAny (model prog w) A (Builtin.Slice.sliceApplied (.ref sl) (pure (n:Int))) Q E s:=by
 obtain ⟨os,hos,hcs,hds⟩:=id hs;unfold Builtin.Slice.sliceApplied Builtin.Slice.sliceFields;refine wpAny_bind (wpAny_bind (wpAny_field hos hds (x:=vl) rfl (wpAny_bind (wpAny_field hos hds (x:=vu) rfl (wpAny_bind (wpAny_field hos hds (x:=.none) rfl (wpAny_pure ?_)))))));refine wpAny_bind (slicePart_none ?_);show wpAny _ _ (if ((1:Int)==0)=true then _ else _) _ _ s;rw [if_neg (by decide)];refine wpAny_bind (nK pl (wpAny_bind (nK pu (wpAny_bind (wpAny_pure ?_)))));show wpAny _ _ (match Builtin.Slice.sliceAdjust lo hi 1 (n:Int) with | (lo,hi)=>pure (lo,(1:Int),Builtin.Slice.slicePlaces lo hi 1)) _ _ s;rw [wZ lo hi n];show wpAny _ _ (pure (((sIx n 0 lo:Nat):Int),(1:Int),Builtin.Slice.slicePlaces ((sIx n 0 lo:Nat):Int) ((sIx n n hi:Nat):Int) 1)) _ _ s;rw [xA];exact wpAny_pure h
def aM4 (xs:Array Value) (i k:Nat):((List.range k).filterMap fun (m:Nat)=>xs[((i:Int)+(m:Int)*1).toNat]?).toArray=((xs.toList.drop i).take k).toArray:=by
 have e:(fun (m:Nat)=>xs[((i:Int)+(m:Int)*1).toNat]?)=fun m=>xs[i+m]?:=by
  funext m
  have:((i:Int)+(m:Int)*1).toNat=i+m:=by omega
  rw [this]
 rw [e];have:=pick_run xs i k;rw [List.filterMap_map] at this;have e2:((fun x=>xs[x]?) ∘ fun x=>i+x)=fun m=>xs[i+m]?:=rfl;rw [e2] at this;rw [this]
def getItem_tuple_cut {t sl:Addr} {items:Array Value} {vl vu:Value} {lo hi:Option Int} {Q:Value->Shared->Prop} (ht:IsTup s.heap t items) (hs:s.heap.IsSliceOf sl vl vu .none) (pl:IsPart vl lo) (pu:IsPart vu hi)
  (hw:¬ (sIx items.size 0 lo=0/\sIx items.size items.size hi=items.size))
  (h:Q (.ref s.heap.objs.size) { s with heap:=s.heap.push { cls:=.type "tuple",data:=.seq ((items.toList.drop (sIx items.size 0 lo)).take (sIx items.size items.size hi - sIx items.size 0 lo)).toArray } })
  (hsz:items.size<=sizeLine):wpAny (model prog w) A (getItem (.ref t) (.ref sl)) Q E s:=by
 have htake:sizeOk (.seq ((items.toList.drop (sIx items.size 0 lo)).take (sIx items.size items.size hi - sIx items.size 0 lo)).toArray):=by
  show ((items.toList.drop (sIx items.size 0 lo)).take (sIx items.size items.size hi - sIx items.size 0 lo)).toArray.size<=sizeLine;rw [List.size_toArray,List.length_take,List.length_drop,Array.length_toList];omega
 have hj:sIx items.size items.size hi<=items.size:=bZ7 _ _ (Nat.le_refl _) hi;obtain ⟨os,hos,hcs,hds⟩:=id hs;have hTs:s.TypeIs (.ref sl) "slice":=⟨os,hos,hcs⟩;unfold getItem;try with_reducible refine wpAny_holding ?_
 first | refine wpAny_bind (wpAny_pure ?_) | skip
 refine wpAny_bind (wpAny_sequenceKey ht.typeIs (by decide) ?_);refine wpAny_bind (wpAny_callSpecial?_slot (name:=Str.ofString "__getitem__") ht.typeIs PyProof.Rows.slot_tuple_getitem
  (wpAny_call_entry PyProof.Rows.slot_tuple_getitem ht.typeIs entry_tuple_getitem ?_ (args_tuple_getitem _ _)))
 show wpAny _ _ (Builtin.Tuple.tupleItemsOf (.ref t) >>= _) _ _ s;refine wpAny_bind (tupleItemsOf_ ht ?_);refine wpAny_bind (wpAny_typeOf hTs ?_);rw [if_pos (by decide)];refine wpAny_bind (sliceApplied_gen hs pl pu ?_);have hno:¬ ((((sIx items.size 0 lo:Nat):Int)==0&&(1:Int)==1&&(sIx items.size items.size hi - sIx items.size 0 lo)==items.size)=true):=by
  intro q;rw [Bool.and_eq_true,Bool.and_eq_true] at q;have q1:((sIx items.size 0 lo:Nat):Int)=0:=eq_of_beq q.1.1;have q2:sIx items.size items.size hi - sIx items.size 0 lo=items.size:=eq_of_beq q.2;exact hw ⟨by omega,by omega⟩
 show wpAny _ _ (if (((sIx items.size 0 lo:Nat):Int)==0&&(1:Int)==1&&(sIx items.size items.size hi - sIx items.size 0 lo)==items.size)=true then _ else _) _ _ s;rw [if_neg hno,aM4]
 first
  | exact wpAny_bind (m:=Builtin.Tuple.tupleExact _) (wpAny_newObj_type (wpAny_pure ⟨_,rfl,wpAny_pure h⟩) htake)
  | exact wpAny_bind (m:=Builtin.Tuple.tupleExact _) (wpAny_newObj_type (wpAny_bind (wpAny_pure (wpAny_pure ⟨_,rfl,wpAny_pure h⟩))) htake)
  | exact wpAny_bind (wpAny_bind (m:=Builtin.Tuple.tupleExact _) (wpAny_newObj_type (wpAny_pure (wpAny_pure ⟨_,rfl,wpAny_pure h⟩)) htake))
  | exact wpAny_bind (wpAny_bind (m:=Builtin.Tuple.tupleExact _) (wpAny_newObj_type (wpAny_pure ⟨_,rfl,wpAny_pure h⟩) htake))
end
end HT
namespace L2
open PySem PySem.Spec PyProof.Rows
abbrev TO:=St->Hp->(Option Int->Hp->Prop)->Prop
def PO (X:Cx) (e:Option Expr) (t:TO):Prop :=
 ∀ (pins:List (Addr×Obj)) (s:Shared) (σ:St) (H:Hp) (Q:Option Int->Hp->Prop),Inv X pins σ H s->t σ H Q ->
  wpAny (model X.prog X.w) X.A (evalPart e X.env) (fun u s'=>∃ o H',Inv X pins σ H' s'/\IsPart u o/\Q o H') X.xe s
noncomputable def bC3:TO:=fun _ H Q=>Q none H
noncomputable def cS6 (t:TE):TO:=fun σ H Q=>t σ H fun x H1=>∃ i,x=.int i/\Q (some i) H1
section
variable {X:Cx} {e:Expr} {te:TE} {lo hi:Option Expr} {tl th:TO} {pos p2:Pos}
def bC4:PO X none bC3:=by
 intro pins s σ H Q I h;rw [evalPart_none];exact wpAny_pure ⟨none,H,I,.none,h⟩
def bC5 (h:PE X e te):PO X (some e) (cS6 te):=by
 intro pins s σ H Q I hw;rw [evalPart_some];refine thn (h pins s σ H _ I hw) fun u s1 ⟨x,H1,I1,r1,q1⟩=>?_;obtain ⟨i,rfl,q⟩:=q1;obtain ⟨t,rfl⟩:=r1;exact ⟨some i,H1,I1,.int i t,q⟩
def SlR (X:Cx) (r:V->Option Int->Option Int->Hp->VK->Prop):Prop :=
 ∀ (pins:List (Addr×Obj)) (s:Shared) (σ:St) (H:Hp) (x:V) (v vl vu:Value) (lo hi:Option Int) (sl:Addr) (Q:VK),Inv X pins σ H s->RelV x v->s.heap.IsSliceOf sl vl vu .none->IsPart vl lo->IsPart vu hi->r x lo hi H Q ->
  ∃ T id,typeLookup (.type T) "__getitem__"=pure (some (.builtin id))/\s.TypeIs v T/\wpAny (model X.prog X.w) X.A (getItem v (.ref sl)) (EP X pins σ Q) X.xe s
def SlR.or {r r':V->Option Int->Option Int->Hp->VK->Prop} (h:SlR X r) (h':SlR X r'):SlR X (fun x lo hi H Q=>r x lo hi H Q\/r' x lo hi H Q):=by
 intro pins s σ H x v vl vu lo hi sl Q I rx hs pl pu q;rcases q with q | q
 ·exact h pins s σ H x v vl vu lo hi sl Q I rx hs pl pu q
 ·exact h' pins s σ H x v vl vu lo hi sl Q I rx hs pl pu q
def tSl (r:V->Option Int->Option Int->Hp->VK->Prop) (te:TE) (tl th:TO):TE:=fun σ H Q=>te σ H fun x H1=>tl σ H1 fun l H2=>th σ H2 fun u H3=>r x l u H3 Q
def uH {r:V->Option Int->Option Int->Hp->VK->Prop} (hr:SlR X r) (he:PE X e te) (hl:PO X lo tl) (hu:PO X hi th):PE X (.Subscript e (.Slice lo hi none p2) pos) (tSl r te tl th):=by
 intro pins s σ H Q I h;refine Subscript_ (thn (he pins s σ H _ I h) fun v s1 ⟨x,H1,I1,r1,q1⟩=>?_);refine wpAny_Slice (thn (hl pins s1 σ H1 _ I1 q1) fun vl s2 ⟨l,H2,I2,pl,q2⟩=>thn (hu pins s2 σ H2 _ I2 q2) fun vu s3 ⟨u,H3,I3,pu,q3⟩=>?_);rw [evalPart_none];refine wpAny_pure ?_;have I4:Inv X pins σ H3 { s3 with heap:=s3.heap.push { cls:=.type "slice",data:=.fields #[vl,vu,.none] } }:=I3.kept (t':=s3.toks) fun b ob q=>Heap.get?_push_of_some _ q;obtain ⟨T,id,hT,ht,hg⟩:=hr pins { s3 with heap:=s3.heap.push { cls:=.type "slice",data:=.fields #[vl,vu,.none] } } σ H3 x v vl vu l u s3.heap.objs.size Q I4 r1 (Heap.IsSliceOf.new ..) pl pu q3;show wpAny (model X.prog X.w) X.A (subscriptTail e (.Slice lo hi none p2) v (.ref s3.heap.objs.size)) (EP X pins σ Q) X.xe { s3 with heap:=s3.heap.push { cls:=.type "slice",data:=.fields #[vl,vu,.none] } };exact tail_any (ops:=[.ref s3.heap.objs.size,v]) ht hT hg (by with_unfolding_all rfl)
noncomputable def uI (xs:List V) (lo hi:Option Int):List V:=(xs.drop (HT.sIx xs.length 0 lo)).take (HT.sIx xs.length xs.length hi - HT.sIx xs.length 0 lo)
def lL (xs:List V) (lo hi:Option Int):(uI xs lo hi).length<=xs.length:=by
 unfold uI;rw [List.length_take,List.length_drop];omega
noncomputable def dM8 (K:Frag):V->Option Int->Option Int->Hp->VK->Prop:=fun x lo hi H Q=>∃ a xs,x=.ref a/\SqT K H a xs /\
 ¬ (HT.sIx xs.length 0 lo=0/\HT.sIx xs.length xs.length hi=xs.length)/\∀ p,H p=none->Q (.ref p) (upd H p (.tup (uI xs lo hi)))
def sl_tup:SlR X (dM8 X.K):=by
 intro pins s σ H x v vl vu lo hi sl Q I rx hs pl pu h;obtain ⟨a,xs,rfl,hx,hw,q⟩:=h;cases rx;obtain ⟨its,r,ht,hz⟩:=I.tuple hx;have hlen:its.toArray.size=xs.length:=by rw [List.size_toArray];exact r.length.symm
 refine ⟨"tuple",_,PyProof.Rows.slot_tuple_getitem.lookup,ht.typeIs,?_⟩;refine HT.getItem_tuple_cut ht hs pl pu (by rw [hlen];exact hw) ?_ (by rw [hlen];exact hz);rw [hlen];refine ⟨.ref s.heap.objs.size,_,I.laid (t':=s.toks) (o:=.tup (uI xs lo hi)) (fun b ob q=>Heap.get?_push_of_some _ q) (Nat.le_refl _) ?_,rfl,q _ (I.hok.fresh (Nat.le_refl _))⟩;exact ⟨Nat.le_trans (lL xs lo hi) hz,_,(r.drop (HT.sIx xs.length 0 lo)).take (HT.sIx xs.length xs.length hi - HT.sIx xs.length 0 lo),IsTupD.new _ _⟩
noncomputable def cS7 (K:Frag):R2:=fun x y H Q=>∃ a b xs ys,x=.ref a/\y=.ref b/\SqT K H a xs/\SqT K H b ys/\xs≠[]/\xs.length+ys.length<=sizeLine /\
 (ys=[]->Q (.ref a) H)/\(ys≠[]->∀ p,H p=none->Q (.ref p) (upd H p (.tup (xs++ys))))
def Vals.nil_iff {xs:List V} {us:List Value} (r:Vals xs us):us=[] ↔ xs=[]:=by
 cases r with
 | nil=>simp
 | cons _ _=>simp
def bC6:OpR X (binaryOp .Add) (cS7 X.K):=by
 intro pins s σ H x y v u Q I rx ry h;obtain ⟨a,b,xs,ys,rfl,rfl,ha,hb,hx,hz,q1,q2⟩:=h;cases rx;cases ry;obtain ⟨its,r1,p1,_⟩:=I.tuple ha;obtain ⟨its2,r2,p2,_⟩:=I.tuple hb;refine HT.cat_tup p1 p2 (fun z=>hx (r1.nil_iff.mp z)) (fun z=>⟨.ref a,H,I,rfl,q1 (r2.nil_iff.mp z)⟩) (fun z=>?_) (by rw [<- r1.length,<- r2.length];exact hz);refine ⟨.ref s.heap.objs.size,_,I.laid (t':=s.toks) (o:=.tup (xs++ys)) (fun b ob q=>Heap.get?_push_of_some _ q) (Nat.le_refl _) ?_,rfl,q2 (fun w=>z (r2.nil_iff.mpr w)) _ (I.hok.fresh (Nat.le_refl _))⟩;exact ⟨by rw [List.length_append];exact hz,_,r1.append r2,IsTupD.new _ _⟩
end
noncomputable def ixN (n:Nat) (i:Int):Option Nat:=if 0<=i then (if i < n then some i.toNat else none) else if -(n:Int)<=i then some (i+n).toNat else none
noncomputable def atI {α:Type} (xs:List α) (i:Int):Option α:=(ixN xs.length i).bind fun j=>xs[j]?
def sA {n:Nat} {i:Int} {j:Nat} (h:ixN n i=some j):seqIndex? i n=some j/\j < n/\-(n:Int)<=i/\i < n:=by
 unfold ixN at h
 by_cases h0:0<=i
 ·rw [if_pos h0] at h
  by_cases h1:i < n
  ·rw [if_pos h1] at h;have e:i.toNat=j:=Option.some.inj h;exact ⟨by rw [seqIndex_of h0 h1,e],by omega,by omega,h1⟩
  ·rw [if_neg h1] at h;cases h
 ·rw [if_neg h0] at h
  by_cases h1:-(n:Int)<=i
  ·rw [if_pos h1] at h;have e:(i+n).toNat=j:=Option.some.inj h;exact ⟨by rw [seqIndex_neg (by omega) h1,e],by omega,h1,by omega⟩
  ·rw [if_neg h1] at h;cases h
def zF {α:Type} {xs:List α} {i:Int} {v:α} (h:atI xs i=some v):∃ j,seqIndex? i xs.length=some j/\xs[j]?=some v/\j < xs.length/\-(xs.length:Int)<=i/\i < xs.length:=by
 unfold atI at h;cases e:ixN xs.length i with
 | none=>rw [e] at h;cases h
 | some j =>
  rw [e] at h;obtain ⟨h1,h2,h3,h4⟩:=sA e;exact ⟨j,h1,h,h2,h3,h4⟩
def fQ {α:Type} {xs:List α} {j:Nat} {v:α} (h:xs[j]?=some v):atI xs (j:Int)=some v:=by
 have hj:j < xs.length:=(List.getElem?_eq_some_iff.mp h).1;have e:ixN xs.length (j:Int)=some j:=by
  unfold ixN;rw [if_pos (by omega),if_pos (by omega)];simp
 unfold atI;rw [e];exact h
def jN (b:Expr):Prop:=∀ o i,subscripted b false o i=operate [o,i] (getItem o i)
def IxR (X:Cx) (r:R2):Prop :=
 ∀ (value slice:Expr) (pins:List (Addr×Obj)) (s:Shared) (σ:St) (H:Hp) (x y:V) (v u:Value) (Q:VK),Inv X pins σ H s->RelV x v->RelV y u->r x y H Q ->
  subscripted slice false v u=operate [v,u] (getItem v u)->wpAny (model X.prog X.w) X.A (subscriptTail value slice v u) (EP X pins σ Q) X.xe s
def MtR (X:Cx) (id:String) (r:V->List V->Hp->VK->Prop):Prop :=
 ∀ (pins:List (Addr×Obj)) (s:Shared) (σ:St) (H:Hp) (x:V) (xs:List V) (v:Value) (us:List Value) (Q:VK),Inv X pins σ H s->RelV x v->Vals xs us->r x xs H Q ->
  wpAny (model X.prog X.w) X.A (call (.builtin id) (v::us)) (EP X pins σ Q) X.xe s
section
variable {X:Cx} {a b:Expr} {ta tb:TE} {pos:Pos}
def aM5 {r:R2} (hr:IxR X r) (ha:PE X a ta) (hb:PE X b tb) (hs:jN b):PE X (.Subscript a b pos) (tOp r ta tb):=by
 intro pins s σ H Q I h;exact Subscript_ (bY5 ha hb I h fun v u s2 x y H2 I2 rx ry q=>hr a b pins s2 σ H2 x y v u Q I2 rx ry q (hs _ _))
noncomputable def dM9 (K:Frag):R2:=fun x y H Q=>∃ p xs i v,x=.ref p/\y=.int i/\SqL K H p xs/\atI xs i=some v/\Q v H
noncomputable def dN0 (K:Frag):R2:=fun x y H Q=>∃ p xs i v,x=.ref p/\y=.int i/\SqT K H p xs/\atI xs i=some v/\Q v H
def zG:IxR X (dM9 X.K):=by
 intro value slice pins s σ H x y v u Q I rx ry h hs;obtain ⟨p,xs,i,z,rfl,rfl,hq,he,q⟩:=h;cases rx;obtain ⟨t,rfl⟩:=ry;obtain ⟨its,r,pl,hz⟩:=I.list hq;obtain ⟨j,h1,h2,h3,h4,h5⟩:=zF he;obtain ⟨w,ew,rw'⟩:=r.get h2;have hl:=r.length;have hn:=rY;have fin:EP X pins σ Q w s:=⟨z,H,I,rw',q⟩
 by_cases h0:0<=i
 ·have hj:i.toNat=j:=by
   rw [seqIndex_of h0 h5] at h1;exact Option.some.inj h1
  exact item_listR pl.isList h0 (by omega) (by rw [hj];simpa using ew) fin hs
 ·have hj:(i+(its.toArray.size:Int)).toNat=j:=by
   rw [seqIndex_neg (by omega) h4] at h1;rw [List.size_toArray,<- hl];exact Option.some.inj h1
  exact subscriptTail_builtinR (x:=w) pl.isList.typeIs slot_list_getitem.lookup
   (wpAny_getItem_list_neg (Q:=fun r s'=>r=w/\EP X pins σ Q r s') pl.isList (by omega) (by rw [List.size_toArray]<;>omega) (by omega) (by rw [hj];simpa using ew) ⟨rfl,fin⟩) hs
def bZ8:IxR X (dN0 X.K):=by
 intro value slice pins s σ H x y v u Q I rx ry h hs;obtain ⟨p,xs,i,z,rfl,rfl,hq,he,q⟩:=h;cases rx;obtain ⟨t,rfl⟩:=ry;obtain ⟨its,r,pl,hz⟩:=I.tuple hq;obtain ⟨j,h1,h2,h3,h4,h5⟩:=zF he;obtain ⟨w,ew,rw'⟩:=r.get h2;have hl:=r.length;have hn:=rY;have fin:EP X pins σ Q w s:=⟨z,H,I,rw',q⟩;exact subscriptTail_builtinR (x:=w) pl.typeIs slot_tuple_getitem.lookup
  (getItem_tuple (j:=j) (Q:=fun r s'=>r=w/\EP X pins σ Q r s') pl (by omega) (by omega) (by rw [List.size_toArray,<- hl];exact h1) (by simpa using ew) ⟨rfl,fin⟩) hs
def xB (its:List Value) (n j:Nat) (u:Value):Obj.mapSeq (·.setIfInBounds j u) { cls:=.type "list",data:=.seq its.toArray n }={ cls:=.type "list",data:=.seq (its.set j u).toArray n }:=by
 simp [Obj.mapSeq]
def Inv.lst {pins:List (Addr×Obj)} {σ:St} {H:Hp} {s:Shared} {p:Addr} {xs:List V} (I:Inv X pins σ H s) (h:H p=some (.lst xs)) :
  ∃ (its:List Value) (n:Nat),Vals xs its/\s.heap.get? p=some { cls:=.type "list",data:=.seq its.toArray n }/\xs.length<=sizeLine:=by
 obtain ⟨z,its,n,r,e⟩:=I.hok p _ h;exact ⟨its,n,r,e,z⟩
def Inv.lstUpd {pins:List (Addr×Obj)} {σ:St} {H:Hp} {s:Shared} {p:Addr} {xs ys:List V} {its its':List Value} {n n':Nat} {f:Obj->Obj} (I:Inv X pins σ H s) (h:H p=some (.lst xs))
  (ho:s.heap.get? p=some { cls:=.type "list",data:=.seq its.toArray n }) (hf:f { cls:=.type "list",data:=.seq its.toArray n }={ cls:=.type "list",data:=.seq its'.toArray n' }) (r:Vals ys its') (hz:ys.length<=sizeLine) (t:Nat) :
  Inv X pins σ (upd H p (.lst ys)) { s with heap:=s.heap.update p f,toks:=t }:=by
 have e:(s.heap.update p f).get? p=some { cls:=.type "list",data:=.seq its'.toArray n' }:=by
  rw [Heap.get?_update_self f ho (by rw [hf]<;>rfl),hf]
 refine I.write (x:=p) (e:=p) (by rw [h];trivial) (.inl rfl) (fun b u hb q=>(Heap.get?_update_other _ _ (Ne.symm hb)).trans q) ⟨_,e⟩ ?_;exact ⟨hz,its',n',r,e⟩
noncomputable def bQ2:V->V->V->Hp->(Hp->Prop)->Prop:=fun o i v H Q=>∃ p xs k j,o=.ref p/\i=.int k/\H p=some (.lst xs)/\ixN xs.length k=some j/\Q (upd H p (.lst (xs.set j v)))
def aM6:bY0 X bQ2:=by
 intro pins s σ H o i v ov iv u Q I ro ri rv h;obtain ⟨p,xs,k,j,rfl,rfl,hp,hj,q⟩:=h;cases ro;obtain ⟨t,rfl⟩:=ri;obtain ⟨its,n,r,ho,hz⟩:=I.lst hp;obtain ⟨h1,h2,h3,h4⟩:=sA hj;have hl:=r.length;have hn:=rY;have I':Inv X pins σ (upd H p (.lst (xs.set j v))) { s with heap:=s.heap.update p (Obj.mapSeq (·.setIfInBounds j u)) } :=
  I.lstUpd hp ho (xB its n j u) (r.set rv j) (by rw [List.length_set];exact hz) s.toks
 by_cases h0:0<=k
 ·have hk:k.toNat=j:=by
   rw [seqIndex_of h0 h4] at h1;exact Option.some.inj h1
  exact PySem.W.ki_setAt ho h0 (by omega) (by rw [List.size_toArray,<- hl];exact h4) (by rw [hk];exact ⟨_,I',q⟩)
 ·have hk:(k+(its.toArray.size:Int)).toNat=j:=by
   rw [seqIndex_neg (by omega) h3] at h1;rw [List.size_toArray,<- hl];exact Option.some.inj h1
  exact PySem.W.ki_setBack ho (by omega) (by rw [List.size_toArray,<- hl];exact h3) (by omega) (by rw [hk];exact ⟨_,I',q⟩)
def sE (lo hi:Option Int) (n:Nat):(sliceBounds lo hi none n).1=((HT.sIx n 0 lo:Nat):Int)/\(sliceBounds lo hi none n).2.1=((HT.sIx n n hi:Nat):Int)/\(sliceBounds lo hi none n).2.2=1:=by
 refine ⟨?_,?_,rfl⟩
 ·cases lo with
  | none=>simp [sliceBounds,HT.sIx]
  | some i =>
   simp only [sliceBounds,HT.sIx,Option.getD_none,show (1:Int) > 0 by decide,if_true]
   by_cases h:i < 0
   ·simp only [h,if_true]<;>omega
   ·simp only [h,if_false]<;>omega
 ·cases hi with
  | none=>simp [sliceBounds,HT.sIx]
  | some i =>
   simp only [sliceBounds,HT.sIx,Option.getD_none,show (1:Int) > 0 by decide,if_true]
   by_cases h:i < 0
   ·simp only [h,if_true]<;>omega
   ·simp only [h,if_false]<;>omega
def pJ (its:List Value) (lo hi:Option Int):slicePick its.toArray lo hi none=((its.drop (HT.sIx its.length 0 lo)).take (HT.sIx its.length its.length hi - HT.sIx its.length 0 lo)).toArray:=by
 obtain ⟨h1,h2,h3⟩:=sE lo hi its.toArray.size;unfold slicePick;rw [h1,h2,h3];simp only [sliceRange_one,pick_run,List.size_toArray]<;>rfl
noncomputable def dN1 (K:Frag):V->Option Int->Option Int->Hp->VK->Prop:=fun x lo hi H Q=>∃ a xs,x=.ref a/\SqL K H a xs/\∀ p,H p=none->Q (.ref p) (upd H p (.lst (uI xs lo hi)))
def bC7:SlR X (dN1 X.K):=by
 intro pins s σ H x v vl vu lo hi sl Q I rx hs pl pu h;obtain ⟨a,xs,rfl,hx,q⟩:=h;cases rx;obtain ⟨its,r,ht,hz⟩:=I.list hx;have hlen:=r.length;refine ⟨"list",_,slot_list_getitem.lookup,ht.isList.typeIs,?_⟩;refine wpAny_getItem_list_slice ht.isList hs pl pu .none (by simp) ?_ (by rw [List.size_toArray]<;>omega);rw [pJ,<- hlen];refine ⟨.ref s.heap.objs.size,_,I.laid (t':=s.toks) (o:=.lst (uI xs lo hi)) (fun b ob q=>Heap.get?_push_of_some _ q) (Nat.le_refl _) ?_,rfl,q _ (I.hok.fresh (Nat.le_refl _))⟩;exact ⟨Nat.le_trans (lL xs lo hi) hz,_,0,(r.drop (HT.sIx xs.length 0 lo)).take (HT.sIx xs.length xs.length hi - HT.sIx xs.length 0 lo),Heap.get?_push_size _ rfl⟩
def jO:cU X (.builtin "len") (fun xs H Q=>∃ p ys,xs=[.ref p]/\(SqL X.K H p ys\/SqT X.K H p ys)/\Q (.int ys.length) H):=by
 intro pins s σ H xs us Q I r h;obtain ⟨p,ys,rfl,hq,q⟩:=h;obtain ⟨u,rfl,rx⟩:=lK r;cases rx;have hn:=rY;rcases hq with hq | hq
 ·obtain ⟨its,r',pl,hz⟩:=I.list hq;have hlen:=r'.length;exact Calls.call_len_list pl.isList (by simp only [List.size_toArray]<;>omega) ⟨.int ys.length,H,I.tok _,⟨s.toks+1,by rw [List.size_toArray,hlen]⟩,q⟩
 ·obtain ⟨its,r',pl,hz⟩:=I.tuple hq;have hlen:=r'.length;exact len_tuple pl (by simp only [List.size_toArray]<;>omega) ⟨.int ys.length,H,I.tok _,⟨s.toks+1,by rw [List.size_toArray,hlen]⟩,q⟩
def sG:cU X (.type "list") (fun xs H Q=>∃ p ys,xs=[.ref p]/\(SqL X.K H p ys\/SqT X.K H p ys)/\∀ l,H l=none->Q (.ref l) (upd H l (.lst ys))):=by
 intro pins s σ H xs us Q I r h;obtain ⟨p,ys,rfl,hq,q⟩:=h;obtain ⟨u,rfl,rx⟩:=lK r;cases rx;have fin:∀ (its:List Value),Vals ys its->ys.length<=sizeLine->∀ (h':Heap) (c':Nat),(∀ b o',s.heap.get? b=some o'->h'.get? b=some o') ->
   h'.get? s.heap.objs.size=some { cls:=.type "list",dict:=none,data:=.seq its.toArray c',slots:=#[] }->EP X pins σ Q (.ref s.heap.objs.size) { s with heap:=h' }:=fun its r' hz h' c' kp e =>
  ⟨.ref s.heap.objs.size,_,I.laid (t':=s.toks) kp (Nat.le_refl _) (show ObjOk X.prog X.w _ h' _ (.lst ys) from ⟨hz,its,c',r',e⟩),rfl,q _ (I.hok.fresh (Nat.le_refl _))⟩
 rcases hq with hq | hq
 ·obtain ⟨its,r',pl,hz⟩:=I.list hq;have hlen:=r'.length;obtain ⟨o,ho,hc,n,hd⟩:=pl.isList;exact call_list_seq p (.inl rfl) ho hc hd (fun h' c' kp e=>fin its r' hz h' c' kp e) (by simp only [List.size_toArray]<;>omega)
 ·obtain ⟨its,r',pl,hz⟩:=I.tuple hq;have hlen:=r'.length;obtain ⟨o,ho,hc,n,hd⟩:=pl;exact call_list_seq p (.inr rfl) ho hc hd (fun h' c' kp e=>fin its r' hz h' c' kp e) (by simp only [List.size_toArray]<;>omega)
def iY:cU X (.type "tuple") (fun xs H Q=>∃ p ys,xs=[.ref p]/\((SqL X.K H p ys/\∀ l,H l=none->Q (.ref l) (upd H l (.tup ys)))\/(SqT X.K H p ys/\Q (.ref p) H))):=by
 intro pins s σ H xs us Q I r h;obtain ⟨p,ys,rfl,h⟩:=h;obtain ⟨u,rfl,rx⟩:=lK r;cases rx;rcases h with ⟨hq,q⟩ | ⟨hq,q⟩
 ·obtain ⟨its,r',pl,hz⟩:=I.list hq;have hlen:=r'.length;refine call_tuple_list pl.isList (fun h' kp=>?_) (by simp only [List.size_toArray]<;>omega);have I1:Inv X pins σ H { s with heap:=h' }:=I.kept (t':=s.toks) kp;have I2:Inv X pins σ (upd H h'.objs.size (.tup ys)) { s with heap:=h'.push { cls:=.type "tuple",data:=.seq its.toArray } } :=
   I1.laid (t':=s.toks) (fun b o e=>Heap.get?_push_of_some _ e) (Nat.le_refl _) (show ObjOk X.prog X.w _ _ _ (.tup ys) from ⟨hz,its,r',IsTupD.new _ _⟩)
  exact ⟨.ref h'.objs.size,_,I2,rfl,q _ (I1.hok.fresh (Nat.le_refl _))⟩
 ·obtain ⟨its,r',pl,hz⟩:=I.tuple hq;exact call_tuple_same pl ⟨.ref p,H,I,rfl,q⟩
def tyV (K:Frag) (T:String) (x:V) (H:Hp):Prop:=match x with
 | .str _=>T="str"
 | .int _=>T="int"
 | .ref p=>(T="list"/\∃ xs,SqL K H p xs)\/(T="tuple"/\∃ o,K.lookup p=some o/\o.cls=.type "tuple"/\o.dict=none) \/
   (T="dict"/\((∃ kvs,H p=some (.dK kvs))\/∃ kvs,H p=some (.dT kvs)))\/(T="set"/\∃ S n,H p=some (.set S n))
 | _=>False
def bZ9 {pins:List (Addr×Obj)} {σ:St} {H:Hp} {s:Shared} {T:String} {x:V} {v:Value} (I:Inv X pins σ H s) (r:RelV x v) (ty:tyV X.K T x H) :
  s.TypeIs v T/\∀ a,v=.ref a->∃ ob,s.heap.get? a=some ob/\ob.dict=none:=by
 cases x with
 | str z =>
  obtain ⟨t,rfl⟩:=r;cases (show T="str" from ty);exact ⟨typeIs_str s z t,fun _ e=>nomatch e⟩
 | int i =>
  obtain ⟨t,rfl⟩:=r;cases (show T="int" from ty);exact ⟨typeIs_int s i t,fun _ e=>nomatch e⟩
 | ref p =>
  cases r;rcases ty with ⟨rfl,xs,hq⟩ | ⟨rfl,o,hk,hc,hd⟩ | ⟨rfl,hk⟩ | ⟨rfl,S,n,hk⟩
  ·obtain ⟨its,_,pl,_⟩:=I.list hq;refine ⟨pl.isList.typeIs,fun a e=>?_⟩;cases e;obtain ⟨o,n,e,c,hd,_⟩:=pl;exact ⟨o,e,hd⟩
  ·refine ⟨⟨o,I.kIn p o hk,hc⟩,fun a e=>?_⟩;cases e;exact ⟨o,I.kIn _ o hk,hd⟩
  ·have z:∃ o,s.heap.get? p=some o/\o.ExactDict:=by
    rcases hk with ⟨kvs,hk⟩ | ⟨kvs,hk⟩
    ·obtain ⟨_,_,_,_,o,_,_,e,ex,_⟩:=I.hok p _ hk;exact ⟨o,e,ex⟩
    ·obtain ⟨_,_,_,_,o,_,_,e,ex,_⟩:=I.hok p _ hk;exact ⟨o,e,ex⟩
   obtain ⟨o,e,ex⟩:=z;refine ⟨⟨o,e,ex.1⟩,fun a e2=>?_⟩;cases e2;exact ⟨o,e,ex.2.1⟩
  ·obtain ⟨o,_,_,_,e,ex,_⟩:=I.hok p _ hk;refine ⟨⟨o,e,ex.1⟩,fun a e2=>?_⟩;cases e2;exact ⟨o,e,ex.2.1⟩
 | _=>exact False.elim ty
def tBM (K:Frag) (T:String) (r:V->List V->Hp->VK->Prop) (to:TE) (t:TA):TE:=fun σ H Q=>to σ H fun x H1=>tyV K T x H1/\t σ H1 fun xs H2=>r x xs H2 Q
variable {o e:Expr} {es:List Expr} {to:TE} {t:TA} {name:Str} {apos cpos:Pos} {T id:String} {r:V->List V->Hp->VK->Prop}
def aM7 (pa:PlainAttrs T) (slot:Slot T name id) (hty:typeOf (.builtin id)=pure (.type "method_descriptor")) (hm:MtR X id r) (ho:PE X o to) (ha:PA X (e::es) t)
  (hbase:autoParam (attributeBase o name X.env (eval o X.env)=eval o X.env) ZR)
  (hfew:((backTo cpos (starEach (e::es) X.env)).all (fun x=>!x.1)&&(backToKw cpos (keywordEach [] X.env)).all (fun x=>x.1.isSome)
   && decide ((e::es).length+([]:List Keyword).length+(if ([]:List Keyword).isEmpty then 0 else 1) < 30))=true:=by rfl)
  (hline:autoParam ((apos.endLine==cpos.line)=true) ZR) (hs:autoParam (starEach (e::es) X.env=(false,eval e X.env)::starEach es X.env) ZR) (hplain:autoParam ((backTo cpos (starEach es X.env)).any (·.1)=false) ZR) :
  PE X (.Call (.Attribute o name apos) (e::es) [] cpos) (tBM X.K T r to t):=by
 intro pins s σ H Q I h;refine wpAny_Call_method_late hbase hfew hline rfl (thn (ho pins s σ H _ I h) fun v s1 ⟨x,H1,I1,r1,ty,q1⟩=>?_);obtain ⟨h1,h2⟩:=bZ9 I1 r1 ty;refine ⟨T,id,pa,slot,hty,h1,h2,?_⟩;have hA:=ha cpos pins s1 σ H1 _ I1 q1;rw [hs] at hA ⊢;refine Calls.callWith_builtin (by show (false||(backTo cpos (starEach es X.env)).any (·.1))=false;rw [hplain]<;>rfl) (Calls.evalArgs_plain ?_);exact thn hA fun us s2 ⟨vs,H2,I2,r2,q2⟩=>hm pins s2 σ H2 x vs v us Q I2 r1 r2 q2
/- xs.append(e),list.index on a module's tuple .. are MtR facts of 06m -/
end
def MtM (X:Cx) (id:String) (r:V->List V->Hp->VK->Prop):Prop :=
 ∀ (pins:List (Addr×Obj)) (s:Shared) (σ:St) (H:Hp) (x:V) (xs:List V) (v:Value) (us:List Value) (Q:VK),Inv X pins σ H s->RelV x v->Vals xs us->r x xs H Q ->
  wpAny (model X.prog X.w) X.A (call (.builtin id) (v::us)) (EP X pins σ Q) X.xe s
theorem Vals.one:∀ {x:V} {us:List Value},Vals [x] us->∃ u,us=[u]/\RelV x u
 | _,_,.cons r .nil=>⟨_,rfl,r⟩
theorem Vals.eraseIdx:∀ {xs:List V} {us:List Value} (i:Nat),Vals xs us->Vals (xs.eraseIdx i) (us.eraseIdx i)
 | _,_,_,.nil=>.nil
 | _,_,0,.cons _ t=>t
 | _,_,i+1,.cons r t=>.cons r (Vals.eraseIdx i t)
theorem Vals.rep {xs:List V} {us:List Value} (h:Vals xs us):∀ k:Nat,Vals (List.replicate k xs).flatten (List.replicate k us).flatten
 | 0=>.nil
 | k+1=>by
  rw [List.replicate_succ,List.replicate_succ,List.flatten_cons,List.flatten_cons];exact Vals.append h (Vals.rep h k)
theorem qH {α:Type}:∀ (l:List α) (i:Nat),(l.eraseIdx i).length<=l.length
 | [],_=>Nat.le_refl _
 | _::_,0=>Nat.le_succ _
 | _::r,i+1=>Nat.succ_le_succ (qH r i)
theorem kR (its:List Value):∀ (k:Nat) (acc:List Value),
  List.foldl (fun x1 x2=>x1++x2) acc.toArray (List.replicate k its.toArray)=(acc++(List.replicate k its).flatten).toArray
 | 0,acc=>by simp
 | k+1,acc=>by
  have e:acc.toArray++its.toArray=(acc++its).toArray:=by simp
  have e2:(acc++its)++(List.replicate k its).flatten=acc++(List.replicate (k+1) its).flatten:=by
   rw [List.replicate_succ,List.flatten_cons,List.append_assoc]
  rw [<- e2,<- kR its k (acc++its),<- e,List.replicate_succ,List.foldl_cons]
section
variable {X:Cx} {pins:List (Addr×Obj)} {σ:St} {H:Hp} {s:Shared} {l b:Addr} {xs ys zs:List V}
def Inv.lset {its its':List Value} {n:Nat} {f:Array Value->Array Value} {t':Nat} (I:Inv X pins σ H s) (hH:H l=some (.lst xs))
  (e:s.heap.get? l=some { cls:=.type "list",data:=.seq its.toArray n }) (hf:f its.toArray=its'.toArray) (hv:Vals ys its') (hz:ys.length<=sizeLine) :
  Inv X pins σ (upd H l (.lst ys)) { s with heap:=s.heap.update l (Obj.mapSeq f),toks:=t' }:=by
 have q:=PySem.IsL.update e f;rw [hf] at q;refine I.write (x:=l) (e:=l) (by rw [hH];exact trivial) (.inl rfl) (fun b' u hb hu=>(Heap.get?_update_other s.heap (Obj.mapSeq f) (Ne.symm hb)).trans hu) ⟨_,q⟩ ?_;exact ⟨hz,its',_,hv,q⟩
def Inv.lnew {its:List Value} {t':Nat} (I:Inv X pins σ H s) (hv:Vals ys its) (hz:ys.length<=sizeLine) :
  Inv X pins σ (upd H s.heap.objs.size (.lst ys)) { s with heap:=s.heap.push { cls:=.type "list",data:=.seq its.toArray },toks:=t' } :=
 I.laid (fun _ _ q=>Heap.get?_push_of_some _ q) (Nat.le_refl _) ⟨hz,its,0,hv,Heap.get?_push_size _ rfl⟩
def Inv.fresh (I:Inv X pins σ H s):H s.heap.objs.size=none:=I.hok.fresh (Nat.le_refl _)
def Inv.lstM (I:Inv X pins σ H s) (hH:H l=some (.lst xs)):xs.length<=sizeLine/\∃ (its:List Value) (n:Nat),Vals xs its/\xs.length=its.length/\s.heap.get? l=some { cls:=.type "list",data:=.seq its.toArray n }:=by
 obtain ⟨z,its,n,r,e⟩:=I.hok l _ hH;exact ⟨z,its,n,r,r.length,e⟩
def uJ {n:Nat} (h:n<=sizeLine):Builtin.List.listTooLong n=false:=by
 unfold Builtin.List.listTooLong;exact decide_eq_false (by omega)
end
section
variable {X:Cx}
noncomputable def bC8:V->List V->Hp->VK->Prop:=fun x vs H Q=>∃ l xs y,x=.ref l/\vs=[y]/\H l=some (.lst xs)/\xs.length < sizeLine/\Q .non (upd H l (.lst (xs++[y])))
def qI:MtM X "list.append" bC8:=by
 intro pins s σ H x vs v us Q I rx rv h;obtain ⟨l,xs,y,rfl,rfl,hH,hz,q⟩:=h;cases rx;obtain ⟨u,rfl,ru⟩:=rv.one;obtain ⟨z,its,n,r,hl,e⟩:=I.lstM hH;refine call_meets F.slot_list_append ⟨_,e,rfl⟩ F.entry_list_append (F.args_list_append_2 _ _) (PySem.list_append l its.toArray n u (by rw [List.size_toArray];omega)) ⟨e,?_⟩;refine ⟨.non,_,I.lset (its':=its++[u]) hH e (by simp) (r.append (.cons ru .nil)) ?_,rfl,q⟩;rw [List.length_append,List.length_singleton];omega
noncomputable def bC9:V->List V->Hp->VK->Prop:=fun x vs H Q=>∃ l b xs zs,x=.ref l/\vs=[.ref b]/\H l=some (.lst xs)/\H b=some (.lst zs)/\xs.length+zs.length<=sizeLine/\Q .non (upd H l (.lst (xs++zs)))
def aD4:MtM X "list.extend" bC9:=by
 intro pins s σ H x vs v us Q I rx rv h;obtain ⟨l,b,xs,zs,rfl,rfl,hH,hB,hz,q⟩:=h;cases rx;obtain ⟨u,rfl,ru⟩:=rv.one;cases ru;obtain ⟨z,its,n,r,hl,e⟩:=I.lstM hH;obtain ⟨z2,its2,n2,r2,hl2,e2⟩:=I.lstM hB;have hsz:its.toArray.size+its2.toArray.size<=sizeLine:=by rw [List.size_toArray,List.size_toArray];omega
 have hlong:¬ (!its.toArray.isEmpty&&Builtin.List.listTooLong (its.toArray.size+its2.toArray.size))=true:=by
  rw [uJ hsz,Bool.and_false];exact Bool.false_ne_true
 refine call_meets F.slot_list_extend ⟨_,e,rfl⟩ F.entry_list_extend (F.args_list_extend_2 _ _)
  (AutoSeq1.list_extend_list_list_0 l its.toArray n b its2.toArray n2 hlong (by rw [List.size_toArray];omega) (by omega)) ⟨e,e2,?_⟩
 refine ⟨.non,_,I.lset (its':=its++its2) hH e (by simp) (r.append r2) ?_,rfl,q⟩;rw [List.length_append];omega
noncomputable def cA0:V->List V->Hp->VK->Prop:=fun x vs H Q=>∃ l xs i k y,x=.ref l/\vs=[.int i]/\H l=some (.lst xs)/\-(2^63)<=i/\i < 2^63/\seqIndex? i xs.length=some k/\xs[k]?=some y/\Q y (upd H l (.lst (xs.eraseIdx k)))
def aM8:MtM X "list.pop" cA0:=by
 intro pins s σ H x vs v us Q I rx rv h;obtain ⟨l,xs,i,k,y,rfl,rfl,hH,h1,h2,hk,hy,q⟩:=h;cases rx;obtain ⟨u,rfl,ru⟩:=rv.one;obtain ⟨t,rfl⟩:=ru;obtain ⟨z,its,n,r,hl,e⟩:=I.lstM hH;obtain ⟨w,hw,rw'⟩:=r.get hy;refine call_meets F.slot_list_pop ⟨_,e,rfl⟩ F.entry_list_pop (F.args_list_pop_2 _ _)
  (MeetsSeq.list_pop_at l its.toArray n i t k w (fitsIndex_both h1 h2) (by rw [List.size_toArray,<- hl];exact hk) (by rw [<- Array.getElem?_toList];exact hw) (by rw [List.size_toArray];omega)) ⟨e,?_⟩
 refine ⟨y,_,I.lset (its':=its.eraseIdx k) hH e ?_ (r.eraseIdx k) ?_,rw',q⟩
 ·show its.toArray.eraseIdxIfInBounds k=(its.eraseIdx k).toArray;rw [List.eraseIdxIfInBounds_toArray]
 ·have:=qH xs k;omega
noncomputable def dN2:R2:=fun x y H Q=>∃ l k xs,x=.ref l/\y=.int k/\H l=some (.lst xs)/\-(2^63)<=k/\k < 2^63/\xs.length*k.toNat<=sizeLine /\
 ∀ p,H p=none->Q (.ref p) (upd H p (.lst (List.replicate k.toNat xs).flatten))
def sH {α:Type} (xs:List α) (k:Nat):(List.replicate k xs).flatten.length=k*xs.length:=by
 induction k with
 | zero=>simp
 | succ k ih=>rw [List.replicate_succ,List.flatten_cons,List.length_append,ih,Nat.succ_mul,Nat.add_comm]
def cA1:OpR X (binaryOp .Mult) dN2:=by
 intro pins s σ H x y v u Q I rx ry h;obtain ⟨l,k,xs,rfl,rfl,hH,h1,h2,hz,q⟩:=h;cases rx;obtain ⟨t,rfl⟩:=ry;obtain ⟨z,its,n,r,hl,e⟩:=I.lstM hH;have hlen:its.toArray.size*k.toNat<=sizeLine:=by rw [List.size_toArray,<- hl];exact hz
 have hcap:¬ its.toArray.size*k.toNat > (2^63 - 1) / 8:=by
  have:(sizeLine:Nat)<=(2^63 - 1) / 8:=by decide
  omega
 have hfit:¬ (!Builtin.List.listFitsIndex k)=true:=by
  rw [fitsIndex_both h1 h2];exact Bool.false_ne_true
 have hlong:¬ Builtin.List.listTooLong (its.toArray.size*k.toNat)=true:=by
  rw [uJ hlen];exact Bool.false_ne_true
 have hnew:List.foldl (fun x1 x2=>x1++x2) #[] (List.replicate (if its.toArray.isEmpty=true then 0 else k.toNat) its.toArray)=(List.replicate k.toNat its).flatten.toArray:=by
  have f0:∀ m:Nat,List.foldl (fun x1 x2=>x1++x2) #[] (List.replicate m its.toArray)=(List.replicate m its).flatten.toArray:=fun m=>by
   have:=kR its m [];rw [List.nil_append] at this;exact this
  rw [f0];cases its with
  | nil=>simp
  | cons a r'=>rw [if_neg (by simp)]
 refine wpAny_binaryOp_repeat_ref (T:="list") (U:="int") (by decide) ⟨_,e,rfl⟩ (fun s'=>typeIs_int s' k t) noFill_list_mul F.fills_int_mul F.slot_int_rmul repeat_list F.slot_int_index.lookup
  (call_meets F.slot_int_rmul (typeIs_int s k t) F.entry_int_rmul (F.args_int_rmul_2 _ _) (int___rmul___int_list k t l its.toArray n)
   ⟨e,rfl,⟨_,e,rfl⟩,call_meets F.slot_list_mul ⟨_,e,rfl⟩ F.entry_list_mul (F.args_list_mul_2 _ _) (AutoListH.list___mul___list_int_3 l its.toArray n k t hfit hcap hlong) ⟨e,?_⟩⟩)
 rw [hnew];exact ⟨.ref _,_,I.lnew (t':=s.toks) (r.rep k.toNat) (by rw [sH,Nat.mul_comm];exact hz),rfl,q _ I.fresh⟩
end
section
variable {prog:Program} {w:World} {A:Around} {E:Value->Shared->Prop} {s:Shared}
set_option maxRecDepth 100000 in
end
section
variable {X:Cx}
end
end L2
namespace Att
open PySem PySem.W PySem.Calls PyProof.Rows
def lZ {P:Params} {h:Heap}:∀ (ns:List Int) (vs:List Value),WellAll P h vs (ns.map WData.int)->IntsAre vs ns:=by
 intro ns;induction ns with
 | nil =>
  intro vs w;rw [List.map_nil] at w;cases w;exact .nil
 | cons n ns ih =>
  intro vs w;rw [List.map_cons] at w;cases w with
  | cons a b =>
   cases a;exact .cons _ _ (ih _ b)
def aD5 {l:OpenLaw} {n:Nat} (hn:l.most=some n) {P:Params} {h:Heap} {args:List WData} {vals:List Value}
  (hpre:l.row.toRowW.claim.pre args=true) (hwl:WellAll P h vals args) :
  ∃ a vs ns,vals=[Value.ref a]/\args=[WData.list (ns.map WData.int)]/\h.get? a=some { cls:=.type "list",data:=.seq vs.toArray }/\IntsAre vs ns/\ns.length<=n:=by
 have hsh:WShape.hasAll [] args [.list .int]=true:=(pre_splitW hpre).1;have hc:l.pre.holds [] { args:=args }=true:=(pre_splitW hpre).2;obtain ⟨d,r,rfl,h1,h2⟩:=hasAllW_cons hsh;obtain rfl:=hasAllW_nil h2;obtain ⟨xs,rfl,h3⟩:=hasW_list h1;obtain ⟨ns,rfl⟩:=items_int h3;have hlen:ns.length<=n:=by
  unfold OpenLaw.pre at hc;have h4:(WTm.not (.lt (.lit (.int (n:Int))) (.len (.arg 0)))).holds [] { args:=[.list (ns.map .int)] }=true:=by
   have h4:=(holds_andW hc).1;rw [hn] at h4;exact h4
  have h5:=condW_of h4 (w_not (w_lt w_lit (w_len_list (w_arg rfl))));rw [List.length_map] at h5;refine Nat.le_of_not_lt fun q=>?_;have q':(n:Int) < ((ns.length:Nat):Int):=by omega
  first
   | (rw [decide_eq_true q'] at h5;exact absurd h5 (by decide))
   | (simp at h5;omega)
 cases hwl with
 | cons w1 w2 =>
  cases w2;cases w1 with
  | list ho hall=>exact ⟨_,_,ns,rfl,rfl,ho,lZ ns _ hall,hlen⟩
def aD6 (l:OpenLaw) (args:List WData):l.row.toRowW.claim.post args (.bool true) args=true :=
 postW_of (r:=l.row.toRowW) (X:=(true==true))
  (show WShape.has [] (.bool true) .bool=true by first | rfl | decide | simp [WShape.has,WShape.arms,WShape.armsAll])
  (show (WTm.eq .res (.lit (.bool true))).value [] { args:=args,res:=some (.bool true),after:=args }=some (.bool (true==true)) from w_eq_bool (w_res rfl) w_lit) rfl
def attach_call {l:OpenLaw} {n:Nat} {q:Program} {loose:List Str} {XP:(Str->Option Value)->Heap->Prop} {YP:World->Heap->Prop} {d:DefRec}
  (hn:l.most=some n) (hdf:d.params.defaults=[])
  (call:∀ (w:World) (s₀ s₁:Shared) (mg mb:Str->Option Value) (fa:Addr) (o:Obj) (pm cd doc:Value) (a:Addr) (vs:List Value) (ns:List Int),
   Ground q loose [] XP w s₀ mg mb s₁.heap->YP w s₁.heap ->
   s₁.heap.get? fa=some o->o.data=.func (docDef d.name d.params d.body d.scope pm cd doc)->s₁.heap.CodeRec cd d.name->mg d.name=some (.ref fa) ->
   s₁.heap.get? a=some { cls:=.type "list",data:=.seq vs.toArray }->IntsAre vs ns->ns.length<=n->s₁.gens=#[] ->
   codeAny (model l.prog w) callerA (.call (.ref fa) ⟨[.ref a],[]⟩) (fun r s'=>r=.ok (.ret (.bool true))/\OldK s₁.heap s'.heap/\s'.os=s₁.os/\AllBare s'.gens) s₁) :
  WalkO q loose XP YP l.row.toRowW d [] (fun f vs=>PySem.call f vs):=by
 intro w s₀ s₁ mg mb G Y fa o pm cd doc dV kV ho hd hcd hD hmg hg args vals as hpre hlay hrd hwl hlo;obtain rfl:dV=.none:=Dflts.none hD hdf;obtain rfl:kV=.none:=Dflts.noKw hD;obtain ⟨a,vs,ns,rfl,rfl,hobj,hints,hlen⟩:=aD5 hn hpre hwl;refine enter_call (codeAny_mono (call w s₀ s₁ mg mb fa o pm cd doc a vs ns G Y ho (fd_plain hd) hcd hmg hobj hints hlen hg) fun r s' hq=>?_);obtain ⟨rfl,h2,h3,h4⟩:=hq;exact ⟨.inl ⟨.bool true,.bool true,[],rfl,fun _=>rfl,.bool true,aD6 l _,fun _=>⟨List.Pairwise.nil,fun _ hm=>(nomatch hm)⟩⟩,h2,h3,h4⟩
section
variable {prog:Program} {w:World} {A:Around} {E:Value->Shared->Prop} {s:Shared} {K:Frag}
end
end Att
namespace L2
open PySem PySem.Spec PyProof.Rows
theorem qJ:∀ {vs:List Value} {ns:List Int},IntsAre vs ns->Vals (ns.map V.int) vs
 | _,_,.nil=>.nil
 | _,_,.cons n t h=>.cons ⟨t,rfl⟩ (qJ h)
def cA2 (H:Hp):Prop:=∀ b,H b=none\/∃ o xs,H b=some (.frz o (.lst xs))
def aM9 {P:Program} {w:World} {K:Frag} {mg mb:Str->Option Value} {CX:CXT} {k:Nat} {fa a:Addr} {fd:FuncData} {x:Str} {sp:Sp} {s₁:Shared} {vs:List Value} {ns:List Int}
  (KX:K.In s₁.heap) (hns:s₁.heap.Ns mainGlobals mg) (hb:s₁.heap.Ns builtinsNs mb) (hbb:∀ x:Str,x≠"__name__"->mb x=bootBuiltins x) (hlim:s₁.heap.NoLimit) (hg:s₁.gens=#[])
  (ha:s₁.heap.get? a=some { cls:=.type "list",data:=.seq vs.toArray }) (hi:IntsAre vs ns) (hl:ns.length<=sizeLine) (hr:Room k callerA)
  (F:∀ base:Heap,K.In base->base.Ns mainGlobals mg->FnOk P w K mg base CX k fa fd [x] sp) (hbind:∀ (s:Shared) (u:Value),BindsTo s fd ⟨[u],[]⟩ [(x,u)])
  (hsp:∀ H:Hp,cA2 H->SqL K H a (ns.map V.int)->sp [.ref a] H (fun v _=>v=.bl true) fun _ _ _=>False)
  (hCX:∀ H e s',CX [] H s₁ (fun _ _ _=>False) e s'->False) :
  codeAny (model P w) callerA (.call (.ref fa) ⟨[.ref a],[]⟩) (fun r s'=>r=.ok (.ret (.bool true))/\OldK s₁.heap s'.heap/\s'.os=s₁.os/\AllBare s'.gens) s₁:=by
 have rv:=qJ hi;have lenV:=hi.length;have core:∀ H:Hp,cA2 H->SqL K H a (ns.map V.int)->HOk P w H s₁.heap->(∀ b,H b≠none->b=a)->(H a≠none->K.lookup a=none) ->
   codeAny (model P w) callerA (.call (.ref fa) ⟨[.ref a],[]⟩) (fun r s'=>r=.ok (.ret (.bool true))/\OldK s₁.heap s'.heap/\s'.os=s₁.os/\AllBare s'.gens) s₁:=by
  intro H hO hS hok hA hK;have base_of:∀ {b:Addr} {o:Obj},s₁.heap.get? b=some o->H b=none->(rW s₁.heap H).get? b=some o:=fun e n=>aL1 e n;have noA:∀ {b:Addr} {o:Obj} {es:Array DictEntry} {ep:Nat},s₁.heap.get? b=some o->o.data=.dict es ep->H b=none:=fun {b o es ep} e d=>by
   cases q:H b with
   | none=>rfl
   | some u =>
    have e':b=a:=hA b (by rw [q];simp);subst e';rw [ha] at e;cases e;have d':Data.seq vs.toArray _=Data.dict es ep:=d;cases d'
  have nsK:∀ {b:Addr} {m:Str->Option Value},s₁.heap.Ns b m->(rW s₁.heap H).Ns b m:=fun {b m} ⟨o,es,ep,e,d,r⟩=>⟨o,es,ep,base_of e (noA e d),d,r⟩;have hKb:K.In (rW s₁.heap H):=fun b o e=>base_of (KX b o e) (by
   cases q:H b with
   | none=>rfl
   | some u =>
    have e':b=a:=hA b (by rw [q];simp);subst e';rw [hK (by rw [q];simp)] at e;cases e)
  have hM:Mod K mg (rW s₁.heap H):=⟨hKb,nsK hns,⟨mb,nsK hb,hbb⟩,let ⟨mc,h1,h2⟩:=hlim;⟨mc,nsK h1,h2⟩⟩;have e0:Env0 P w K mg (rW s₁.heap H) callerA [] s₁ H:=⟨rfl,hM,fun b o e=>bA8 e,Nat.le_of_eq (aC8 _ _),trivial,fun b hb=>absurd (show b∈([]:List Addr) from hb) (by simp),hok,.of_eq hg⟩;refine codeAny_mono ((F _ hKb (nsK hns)).run callerA [] s₁ H ⟨[.ref a],[]⟩ [.ref a] [.ref a] _ _ hr e0 (hbind s₁ (.ref a)) (.cons rfl .nil) (hsp H hO hS)) fun r s' h=>?_;cases r with
  | error e=>exact (hCX H e s' h).elim
  | ok fl =>
   cases fl with
   | next=>exact False.elim h
   | brk=>exact False.elim h
   | cont=>exact False.elim h
   | ret u =>
    obtain ⟨v,H',os,bare,un,hok',r',q⟩:=h;have q':v=.bl true:=q;subst q';obtain rfl:u=Value.bool true:=r';refine ⟨rfl,OldK.of_keep fun b o e=>?_,os,bare⟩;cases q:H b with
    | none=>exact un.keep b o e q (by intro z;exact absurd (show b∈([]:List Addr) from z) (by simp)) (by simp)
    | some u =>
     rcases hO b with z | ⟨ob,xs,z⟩
     ·rw [q] at z;cases z
     ·have z2:=un.frzs b ob _ z;obtain ⟨e1,_⟩:=hok b _ z;obtain ⟨e2,_⟩:=hok' b _ z2;rw [e] at e1;cases e1;exact e2
 cases hk:K.lookup a with
 | some o =>
  have e:=KX a o hk;rw [ha] at e;cases e;refine core (fun _=>none) (fun _=>.inl rfl) (.inr ⟨_,vs.toArray,_,hk,rfl,rfl,rfl,by rw [List.size_toArray,lenV];exact hl,by simpa using rv⟩) (fun b u z=>by have z':(none:Option HO)=some u:=z;cases z') (fun b z=>absurd rfl z) fun z=>absurd rfl z
 | none =>
  refine core (fun b=>if b=a then some (.frz { cls:=.type "list",data:=.seq vs.toArray } (.lst (ns.map V.int))) else none) (fun b=>?_) (.inl (.inr ⟨{ cls:=.type "list",data:=.seq vs.toArray },if_pos rfl⟩)) (fun b u z=>?_) (fun b z=>?_) fun _=>hk
  ·by_cases hb:b=a
   ·exact .inr ⟨_,_,if_pos hb⟩
   ·exact .inl (if_neg hb)
  ·by_cases hb:b=a
   ·have z':=(if_pos hb).symm.trans z;cases z';subst hb;exact ⟨ha,by rw [List.length_map];exact hl,vs,_,rv,ha⟩
   ·have z':=(if_neg hb).symm.trans z;cases z'
  ·by_cases hb:b=a
   ·exact hb
   ·exact absurd (if_neg hb) z
def walk_of {l:PySem.W.OpenLaw} {n k:Nat} {q:Program} {loose:List Str} {XP:(Str->Option Value)->Heap->Prop} {YP:World->Heap->Prop} {d:DefRec} {K:Params->Frag} {CX:World->CXT} {sp:World->Sp} {x:Str}
  (hn:l.most=some n) (hn2:n<=sizeLine) (hdf:d.params.defaults=[]) (hr:Room k callerA)
  (hY:∀ (w:World) (h:Heap),YP w h->(K w.params).In h)
  (F:∀ (w:World) (mg:Str->Option Value) (fa:Addr) (h:Heap),(K w.params).In h->h.Ns mainGlobals mg->mg d.name=some (.ref fa) ->
   ∃ fd:FuncData,(∀ (s:Shared) (u:Value),BindsTo s fd ⟨[u],[]⟩ [(x,u)]) /\
    ∀ base:Heap,(K w.params).In base->base.Ns mainGlobals mg->FnOk l.prog w (K w.params) mg base (CX w) k fa fd [x] (sp w))
  (hsp:∀ (w:World) (H:Hp) (a:Addr) (ns:List Int),ns.length<=n->cA2 H->SqL (K w.params) H a (ns.map V.int)->sp w [.ref a] H (fun v _=>v=.bl true) fun _ _ _=>False)
  (hCX:∀ (w:World) (H:Hp) (s:Shared) (e:Value) (s':Shared),CX w [] H s (fun _ _ _=>False) e s'->False) :
  PySem.W.WalkO q loose XP YP l.row.toRowW d [] (fun f vs=>PySem.call f vs):=by
 refine Att.attach_call hn hdf fun w s₀ s₁ mg mb fa o pm cd doc a vs ns G Y ho hd hcd hmg hobj hints hlen hg=>?_;have KX:=hY w _ Y;obtain ⟨fd,hb,hF⟩:=F w mg fa _ KX G.T.g hmg;exact aM9 KX G.T.g G.T.b G.T.builtins G.T.nolimit hg hobj hints (Nat.le_trans hlen hn2) hr hF hb (fun H hO hS=>hsp w H a ns hlen hO hS) fun H e s'=>hCX w H s₁ e s'
end L2
/- THE LAST THEOREM (shape;LID,My.* are yours):
  My.Adr: a structure of the addresses that your layer names (classes,functions);My.Txt K t: a structure (Prop) of the equations over K;
  My.txt_mk:{K} {implicit addresses ..} (e1:nsIn K mainGlobals "law"=some (some (.ref f))) (e2:K.lookup f=some ⟨oc,od,.func (fnOf "law" "law" params body scope dV kV doc pm an cdv ct),sl⟩) (e3:codeIn K cdv "law"=true) ..:∃ t,My.Txt K t
set_option maxRecDepth 100000 in
set_option maxHeartbeats 0 in
theorem PySem.Challenge.cw_LID_holds : PySem.Challenge.rw_LID.Holds := by
 w_on;o_law;k_head;(case hw=>w_witness2)
 k_fill
 refine L2.walk_of (l:=PySem.Challenge.rw_LID) (n:=63) (k:=40) (x:="script") (CX:=fun w=>..) (sp:=fun _=>My.sp_law) rfl (by decide) rfl ⟨rfl,by decide,by decide⟩ (fun w h Y=>PySem.W.kIn_of Y) ?F ?S ?C
 case F =>
  intro w mg fa h KX G hmg;have T:∃ t,My.Txt (L2.KOf KX) t:=by
   dsimp only [L2.KOf]                          -- K must stand as «<heap const> w.params» for k_is;refine' My.txt_mk ?e1 ?e2 ?e3 ..
   (case e1=>PySem.W.k_is)                    -- in the order: a name->its address->its object->its parts
   (case e2=>PySem.W.k_is)
   ..
  obtain ⟨t,T⟩:=T;have e0:=hmg.symm.trans (PySem.W.mg_of KX G T.law);cases e0                                       -- fa is the law's own address;exact ⟨_,fun s u=>.of_eq rfl,fun base kb nb=>My.law_fn T kb nb⟩     -- if «.of_eq rfl» comes too early: refine' ⟨_,?b,fun base kb nb=>My.law_fn T kb nb⟩;exact fun s u=>.of_eq rfl
 case S=>exact fun w H a ns hl hO hS=>..
 case C=>exact ..
(the tactic k_is has no namespace: write k_is) -/
namespace L2
open PySem PySem.Spec PyProof.Rows
noncomputable def cF (s:Stmt):Arguments:=match s with
 | .FunctionDef _ a _ _ _ _ _ _ _ _=>a
 | _=>{ posonlyargs:=[],args:=[],vararg:=none,kwonlyargs:=[],kw_defaults:=[],kwarg:=none,defaults:=[] }
noncomputable def bI (s:Stmt):List Stmt:=match s with
 | .FunctionDef _ _ b _ _ _ _ _ _ _=>b
 | _=>[]
noncomputable def aF (s:Stmt):Scope:=match s with
 | .FunctionDef _ _ _ _ _ _ sc _ _ _=>sc
 | _=>{ kind:=.function,names:=[],isGenerator:=false,isCoroutine:=false }
abbrev CX0:CXT:=fun _ _ _ _ _ _=>False
abbrev E0:XK:=fun _ _ _=>False
def aN0 {X:Cx}:rZ CX0 X E0:=fun _ _ _ _ _ _ _ h=>h.elim
structure Fun (K:Frag) (x qual:Str) (st:Stmt) (f:Addr) (fd:FuncData):Prop where
 ex:∃ (oc:Value) (od:Option Addr) (kV doc pm:Value) (an:Option Addr) (cdv ct:Value) (osl:Array (Option Value)),
  fd=PySem.W.fnOf x qual (cF st) (bI st) (aF st) .none kV doc pm an cdv ct/\K.lookup f=some ⟨oc,od,.func fd,osl⟩/\PySem.W.codeIn K cdv qual=true
 kp:PySem.W.keepIn K (.ref f)=true
section
variable {P:Program} {w:World} {K:Frag} {mg:Str->Option Value} {base:Heap}
def Fun.ok {x qual:Str} {st:Stmt} {f:Addr} {fd:FuncData} {N ps:List Str} {k:Nat} {sp:Sp} (F:Fun K x qual st f fd) (S:FnScope N ps (aF st)) (len:∀ vs H Q E,sp vs H Q E->vs.length=ps.length)
  (hbody:∀ (cdv:Value) (A:Around) (outer:List Env) (s:Shared) (H:Hp) (vs:List V) (Q:VK) (E:XK),Room k (A.deeper (envOfC qual (aF st) s.heap.objs.size f cdv))->sp vs H Q E ->
   ∃ t,PSs (lY CX0 P w K mg base N qual (aF st) f cdv A outer s H E).nox (bI st) t/\t { nx:=fun _ H'=>Q .non H',rt:=Q } (start N vs) H):FnOk P w K mg base CX0 (k+1) f fd ps sp:=by
 obtain ⟨oc,od,kV,doc,pm,an,cdv,ct,osl,rfl,lk,hcd⟩:=F.ex;refine aM3 lk hcd S len fun A outer s H vs Q E hr hsp=>?_;obtain ⟨t,h,q⟩:=hbody cdv A outer s H vs Q E hr hsp;exact ⟨t,h.nox,q⟩
def Fun.binds {x qual:Str} {st:Stmt} {f:Addr} {fd:FuncData} {ps:List Str} (F:Fun K x qual st f fd)
  (h:∀ (kV doc pm:Value) (an:Option Addr) (cdv ct:Value) (us:List Value),us.length=ps.length->bindArgs (PySem.W.fnOf x qual (cF st) (bI st) (aF st) .none kV doc pm an cdv ct) ⟨us,[]⟩=pure (ps.zip us)):Binds K fd ps []:=by
 obtain ⟨oc,od,kV,doc,pm,an,cdv,ct,osl,rfl,lk,hcd⟩:=F.ex;exact .all (h kV doc pm an cdv ct)
def aN1 {x qual:Str} {st:Stmt} {f:Addr} {oc:Value} {od an:Option Addr} {osl:Array (Option Value)} {kV doc pm cdv ct:Value} (l:K.lookup f=some ⟨oc,od,.func (PySem.W.fnOf x qual (cF st) (bI st) (aF st) .none kV doc pm an cdv ct),osl⟩)
  (c:PySem.W.codeIn K cdv qual=true) (k:PySem.W.keepIn K (.ref f)=true):Fun K x qual st f (PySem.W.fnOf x qual (cF st) (bI st) (aF st) .none kV doc pm an cdv ct):=⟨⟨oc,od,kV,doc,pm,an,cdv,ct,osl,rfl,l,c⟩,k⟩
end
section
variable {X:Cx}
end
end L2
set_option maxHeartbeats 4000000
namespace L2
open PySem PySem.Spec PyProof.Rows
section
variable {κ:Type} [DecidableEq κ]
noncomputable def gK (kvs:List (κ×V)) (k:κ):Option V:=(kvs.find? fun kv=>decide (kv.1=k)).map (·.2)
noncomputable def sI (kvs:List (κ×V)) (k:κ) (v:V):List (κ×V) :=
 if (kvs.any fun kv=>decide (kv.1=k))=true then kvs.map (fun kv=>if kv.1=k then (kv.1,v) else kv) else kvs++[(k,v)]
def uK {p:κ×V} {r:List (κ×V)} {k:κ} (e:p.1=k):gK (p::r) k=some p.2:=by simp [gK,List.find?_cons,e]
def uL {p:κ×V} {r:List (κ×V)} {k:κ} (e:¬ p.1=k):gK (p::r) k=gK r k:=by simp [gK,List.find?_cons,e]
def uM (kvs:List (κ×V)) (k:κ) (v:V):(sI kvs k v).length<=kvs.length+1:=by
 unfold sI;split
 ·rw [List.length_map];omega
 ·rw [List.length_append,List.length_cons,List.length_nil];omega
def RelO.isSome_eq {o:Option V} {u:Option Value} (r:RelO o u):o.isSome=u.isSome:=by
 cases o with
 | none=>cases u with
  | none=>rfl
  | some _=>exact (show False from r).elim
 | some _=>cases u with
  | none=>exact (show False from r).elim
  | some _=>rfl
def KV.val {kvs:List (κ×V)} {vs:List (κ×Value)} (r:KV kvs vs) (k:κ):RelO (gK kvs k) (valueAt vs k):=by
 unfold KV at r;induction r with
 | nil=>exact True.intro
 | @cons p q ps qs h t ih =>
  obtain ⟨h1,h2⟩:=h
  by_cases e:p.1=k
  ·have e':q.1=k:=h1.symm.trans e;have b:valueAt (q::qs) k=some q.2:=by simp [valueAt,List.find?_cons,e']
   rw [uK e,b];exact h2
  ·have e':¬ q.1=k:=fun z=>e (h1.trans z);have b:valueAt (q::qs) k=valueAt qs k:=by simp [valueAt,List.find?_cons,e']
   rw [uL e,b];exact ih
def KV.any {kvs:List (κ×V)} {vs:List (κ×Value)} (r:KV kvs vs) (k:κ):(kvs.any fun kv=>decide (kv.1=k))=vs.any fun kv=>decide (kv.1=k):=by
 unfold KV at r;induction r with
 | nil=>rfl
 | cons h t ih=>rw [List.any_cons,List.any_cons,ih,h.1]
def KV.repl {kvs:List (κ×V)} {vs:List (κ×Value)} (r:KV kvs vs) (k:κ) {y:V} {u:Value} (ry:RelV y u) :
  KV (kvs.map fun kv=>if kv.1=k then (kv.1,y) else kv) (vs.map fun kv=>if kv.1=k then (kv.1,u) else kv):=by
 unfold KV at r ⊢;induction r with
 | nil=>exact .nil
 | @cons p q ps qs h t ih =>
  rw [List.map_cons,List.map_cons];refine .cons ?_ ih;obtain ⟨h1,h2⟩:=h
  by_cases e:p.1=k
  ·rw [if_pos e,if_pos (h1.symm.trans e)];exact ⟨h1,ry⟩
  ·rw [if_neg e,if_neg (fun z=>e (h1.trans z))];exact ⟨h1,h2⟩
def KV.put {kvs:List (κ×V)} {vs:List (κ×Value)} (r:KV kvs vs) (k:κ) {y:V} {u:Value} (ry:RelV y u):KV (sI kvs k y) (stored vs k u):=by
 unfold sI stored;rw [r.any k]
 by_cases e:(vs.any fun kv=>decide (kv.1=k))=true
 ·rw [if_pos e,if_pos e];exact r.repl k ry
 ·rw [if_neg e,if_neg e];exact Paired.snoc r ⟨rfl,ry⟩
def KV.length {kvs:List (κ×V)} {vs:List (κ×Value)} (r:KV kvs vs):kvs.length=vs.length:=Paired.length r
end
def uN {P:Program} {w:World} {k:Key} {u:Value} (r:RelV (kV k) u):(dD P w).is k u=true:=by
 cases k with
 | inl i=>obtain ⟨t,e⟩:=(show ∃ t,u=Value.int i t from r);subst e;exact uA P w i t
 | inr x=>obtain ⟨t,e⟩:=(show ∃ t,u=Value.str x t from r);subst e;exact uB P w x t
theorem qK {P:Program} {w:World}:∀ {ks:List Key} {us:List Value},Vals (ks.map kV) us->ItemsAre (dD P w) ks us
 | [],_,r=>by rw [List.map_nil] at r;cases r;exact .nil
 | k::ks,_,r=>by
  rw [List.map_cons] at r;cases r with
  | cons h t=>exact .cons (uN h) (qK t)
abbrev KT (H:Hp):List (List Key×V)->List (List Key×Addr×Value)->Prop:=Paired fun p q=>p.1=q.1/\H q.2.1=some (.tup (p.1.map kV))/\RelV p.2 q.2.2
def KT.val {H:Hp} {kvs:List (List Key×V)} {xs:List (List Key×Addr×Value)} (r:KT H kvs xs) (k:List Key):RelO (gK kvs k) ((atKey xs k).map (·.2)):=by
 induction r with
 | nil=>exact True.intro
 | @cons p q ps qs h t ih =>
  obtain ⟨h1,_,h2⟩:=h
  by_cases e:p.1=k
  ·have e':q.1=k:=h1.symm.trans e;have b:atKey (q::qs) k=some q.2:=by simp [atKey,List.find?_cons,e']
   rw [uK e,b];exact h2
  ·have e':¬ q.1=k:=fun z=>e (h1.trans z);have b:atKey (q::qs) k=atKey qs k:=by simp [atKey,List.find?_cons,e']
   rw [uL e,b];exact ih
section
variable {P:Program} {w:World} {H:Hp} {h:Heap} {a:Addr}
def bQ3 {u:HO} (ok:HOk P w H h) (e:Rd H a u):ObjOk P w H h a u:=e.ok ok
def nM {kvs:List (Key×V)} (ok:HOk P w H h) (e:Rd H a (.dK kvs)):kvs.length<=sizeLine/\(a==sysModules)=false/\∃ vs,KV kvs vs/\h.DictOf (dD P w) a vs :=
 show ObjOk P w H h a (.dK kvs) from bQ3 ok e
def cS8 {kvs:List (Key×V)} (ok:HOk P w H h) (e:H a=some (.dK kvs)):kvs.length<=sizeLine/\(a==sysModules)=false/\∃ vs,KV kvs vs/\h.DictOf (dD P w) a vs:=nM ok (.inl e)
def sJ {ks:List Key} (ok:HOk P w H h) (e:H a=some (.tup (ks.map kV))):(tupleKind (dD P w)).is h ks a:=by
 obtain ⟨_,its,r,o,h1,h2,⟨n,h3⟩,_⟩:=(show ObjOk P w H h a (.tup (ks.map kV)) from ok a _ e);exact ⟨o,its.toArray,n,h1,h2,h3,by simpa using qK r⟩
def zH {kvs:List (List Key×V)} (ok:HOk P w H h) (e:Rd H a (.dT kvs)):kvs.length<=sizeLine/\(a==sysModules)=false /\
  ∃ xs,KT H kvs xs/\h.DictOfH (tupleKind (dD P w)) a xs:=by
 obtain ⟨z,y,xs,r,o,es,ep,h1,h2,h3,h4,h5⟩:=(show ObjOk P w H h a (.dT kvs) from bQ3 ok e);refine ⟨z,y,xs,r,o,es,ep,h1,h2,h3,h4,fun x hx=>?_,h5⟩;have all:∀ {l:List (List Key×V)} {m:List (List Key×Addr×Value)},KT H l m->∀ x∈m,(tupleKind (dD P w)).is h x.1 x.2.1:=by
  intro l m q;induction q with
  | nil=>intro x hx;exact nomatch hx
  | @cons p q ps qs hq t ih =>
   intro x hx;rcases List.mem_cons.mp hx with e | hx
   ·subst e;exact sJ ok (by rw [<- hq.1];exact hq.2.1)
   ·exact ih x hx
 exact all r x hx
end
def aN2 (H:Hp) (a:Addr) (y:V) (r:Option V):Prop :=
 (∃ kvs k,Rd H a (.dK kvs)/\y=kV k/\r=gK kvs k)\/∃ kvs k b,Rd H a (.dT kvs)/\y=.ref b/\H b=some (.tup (k.map kV))/\r=gK kvs k
section
variable {X:Cx} {pins:List (Addr×Obj)} {σ:St} {H:Hp} {s:Shared} {a:Addr} {y v:V} {u r:Value} {o:Option V} {A:Around} {E:Value->Shared->Prop}
def aD7 {Q:Value->Shared->Prop} (hu:A.units+1 < cLine) (I:Inv X pins σ H s) (g:aN2 H a y (some v)) (ry:RelV y u) (h:∀ w' s',Inv X pins σ H s'->RelV v w'->Q w' s') :
  wpAny (model X.prog X.w) A (getItem (.ref a) u) Q E s:=by
 rcases g with ⟨kvs,k,e,ey,l⟩ | ⟨kvs,k,b,e,ey,eb,l⟩
 ·subst ey;obtain ⟨z,hd,vs,rel,dd⟩:=nM I.hok e;obtain ⟨w',hw,rw'⟩:=RelO.some_of (v:=v) (o:=valueAt vs k) (by rw [l];exact rel.val k);exact wpAny_getItem_of (uN ry) dd.mapOf hw (h w' _ (I.tok _) rw')
 ·subst ey;cases (show u=Value.ref b from ry);obtain ⟨z,hd,xs,rel,dd⟩:=zH I.hok e;obtain ⟨w',hw,rw'⟩:=RelO.some_of (v:=v) (o:=(atKey xs k).map (·.2)) (by rw [l];exact rel.val k);obtain ⟨p,hp,hp2⟩:=Option.map_eq_some_iff.mp hw;refine wpAny_getItem_heap (tupleKind_room_in1 hu) (sJ I.hok eb) dd hp ?_;rw [hp2];exact h w' _ (I.tok _) rw'
def dN3 {Q:Value->Shared->Prop} (hu:A.units+1 < cLine) (I:Inv X pins σ H s) (g:aN2 H a y o) (ry:RelV y u) (h:∀ s',Inv X pins σ H s'->Q (.bool o.isSome) s') :
  wpAny (model X.prog X.w) A (compareOp .In u (.ref a)) Q E s:=by
 rcases g with ⟨kvs,k,e,ey,l⟩ | ⟨kvs,k,b,e,ey,eb,l⟩
 ·subst ey;obtain ⟨z,hd,vs,rel,dd⟩:=nM I.hok e;refine wpAny_in_of (uN ry) hd dd.mapOf ?_;rw [<- (rel.val k).isSome_eq,<- l];exact h _ (I.tok _)
 ·subst ey;cases (show u=Value.ref b from ry);obtain ⟨z,hd,xs,rel,dd⟩:=zH I.hok e;refine wpAny_in_heap (tupleKind_room_in1 hu) (sJ I.hok eb) hd dd ?_;have q:=(rel.val k).isSome_eq;rw [Option.isSome_map] at q;rw [<- q,<- l];exact h _ (I.tok _)
def bD0 {Q:Value->Shared->Prop} (hu:A.units+1 < cLine) (I:Inv X pins σ H s) (g:aN2 H a y o) (ry:RelV y u) (h:∀ s',Inv X pins σ H s'->Q (.bool (!o.isSome)) s') :
  wpAny (model X.prog X.w) A (compareOp .NotIn u (.ref a)) Q E s:=by
 rcases g with ⟨kvs,k,e,ey,l⟩ | ⟨kvs,k,b,e,ey,eb,l⟩
 ·subst ey;obtain ⟨z,hd,vs,rel,dd⟩:=nM I.hok e;refine wpAny_notIn_of (uN ry) hd dd.mapOf ?_;rw [<- (rel.val k).isSome_eq,<- l];exact h _ (I.tok _)
 ·subst ey;cases (show u=Value.ref b from ry);obtain ⟨z,hd,xs,rel,dd⟩:=zH I.hok e;refine wpAny_notIn_heap (tupleKind_room_in1 hu) (sJ I.hok eb) hd dd ?_;have q:=(rel.val k).isSome_eq;rw [Option.isSome_map] at q;rw [<- q,<- l];exact h _ (I.tok _)
def bD1 {h':Heap} {t':Nat} {ob:HO} (I:Inv X pins σ H s) (mu:Mut (H a)) (hs:Heap.SameBut a s.heap h') (he:∃ q,h'.get? a=some q) (new:ObjOk X.prog X.w (upd H a ob) h' a ob) :
  Inv X pins σ (upd H a ob) { s with heap:=h',toks:=t' } :=
 I.write (x:=a) (e:=a) mu (.inl rfl) (fun b q hb z=>(hs.2 b hb).trans z) he new
def cA3 {P:Program} {w:World} {H':Hp} {h':Heap} {kvs:List (Key×V)} {vs:List (Key×Value)} (z:kvs.length<=sizeLine) (hd:(a==sysModules)=false) (rel:KV kvs vs) (dd:h'.DictOf (dD P w) a vs) :
  ObjOk P w H' h' a (.dK kvs):=⟨z,hd,vs,rel,dd⟩
end
section
variable {X:Cx} {pins:List (Addr×Obj)} {σ:St} {H:Hp} {s:Shared} {a:Addr} {kvs:List (Key×V)} {k:Key} {u:Value} {A:Around} {E:Value->Shared->Prop}
end
def uO {X:Cx} {pins:List (Addr×Obj)} {σ:St} {H:Hp} {s:Shared} {a:Addr} {y:V} {o:Option V} (I:Inv X pins σ H s) (g:aN2 H a y o):s.TypeIs (.ref a) "dict":=by
 rcases g with ⟨kvs,k,e,_,_⟩ | ⟨kvs,k,b,e,_,_,_⟩
 ·obtain ⟨_,_,vs,_,dd⟩:=nM I.hok e;exact dd.typeIs
 ·obtain ⟨_,_,xs,_,dd⟩:=zH I.hok e;exact dd.typeIs
section
variable {X:Cx} {o i e value:Expr} {pos pos' tpos:Pos} {td ty tv:TE}
end
section
variable {X:Cx} {pos:Pos}
end
section
variable {X:Cx} {pins:List (Addr×Obj)} {σ:St} {H:Hp} {s:Shared} {a:Addr} {y d:V} {u r:Value} {o:Option V} {A:Around} {E:Value->Shared->Prop}
end
section
variable {X:Cx} {o e f:Expr} {apos cpos:Pos} {td ty tx:TE}
end
section
variable {X:Cx} {pins:List (Addr×Obj)} {σ:St} {H:Hp} {s:Shared} {a:Addr} {kvs:List (Key×V)} {A:Around} {E:Value->Shared->Prop}
end
section
variable {X:Cx} {pins:List (Addr×Obj)} {σ:St} {H:Hp} {s:Shared} {a:Addr} {y:V} {u:Value} {A:Around} {E:Value->Shared->Prop}
end
def sK {a b:Nat} (z:a=b+1) (h:a < b):False:=by omega
structure CompSc (N N':List Str) (ixs:List (Option Nat)) (S sc:Scope):Prop where
 kind:sc.kind=.function
 nocell:∀ y∈sc.names,y.2≠.cell
 loc:∀ y∈sc.names,y.2=.local->sc.names.lookup y.1=some .local
 free:∀ y∈sc.names,y.2=.free->S.names.lookup y.1=some .cell\/S.names.lookup y.1=some .free
 nd:N'.Nodup
 len:ixs.length=N'.length
 cap:((ixs.zip N').all fun p=>match p.1 with
  | none=>true
  | some i=>decide (N[i]?=some p.2)&&decide (sc.names.lookup p.2=some NameKind.free))=true
noncomputable def pK (ixs:List (Option Nat)) (σ:St):St:=ixs.map fun o=>o.bind fun i=>(σ[i]?).bind id
def CompSc.at {N N':List Str} {ixs:List (Option Nat)} {S sc:Scope} (h:CompSc N N' ixs S sc) {j i:Nat} {x:Str} (e1:N'[j]?=some x) (e2:ixs[j]?=some (some i)) :
  N[i]?=some x/\sc.names.lookup x=some .free:=by
 have hm:(some i,x)∈ixs.zip N':=by
  refine List.mem_of_getElem? (i:=j) ?_;rw [List.getElem?_zip_eq_some];exact ⟨e2,e1⟩
 have q:=List.all_eq_true.mp h.cap _ hm;simp only [Bool.and_eq_true,decide_eq_true_eq] at q;exact q
def bD2 {ixs:List (Option Nat)} {σ:St} {j:Nat} {v:V} (e:(pK ixs σ)[j]?=some (some v)):∃ i,ixs[j]?=some (some i)/\σ[i]?=some (some v):=by
 unfold pK at e;rw [List.getElem?_map] at e;cases h:ixs[j]? with
 | none=>rw [h] at e;cases e
 | some o =>
  rw [h] at e;cases o with
  | none=>cases e
  | some i =>
   refine ⟨i,rfl,?_⟩;have e':(σ[i]?).bind id=some v:=Option.some.inj e;cases q:σ[i]? with
   | none=>rw [q] at e';cases e'
   | some w=>rw [q] at e';exact congrArg some e'
theorem hX {env:Env}:∀ (names:List (Str×NameKind)) (acc:List (Str×Addr)),(∀ y∈names,y.2=.free->∃ c,env.cells.lookup y.1=some c) ->
  (∀ x c,acc.lookup x=some c->env.cells.lookup x=some c) ->
  ∃ cl,(∀ x c,cl.lookup x=some c->env.cells.lookup x=some c)/\(∀ y∈names,y.2=.free->∃ c,cl.lookup y.1=some c)/\(∀ x c,acc.lookup x=some c->∃ d,cl.lookup x=some d) /\
   (forIn names acc fun (x:Str×NameKind) (r:List (Str×Addr))=>(if (x.2==NameKind.free)=true then (do let a <- cellOf env x.1;pure (ForInStep.yield ((x.1,a)::r))) else pure (ForInStep.yield r):Sem (ForInStep (List (Str×Addr)))))=(pure cl:Sem (List (Str×Addr)))
 | [],acc,_,ha=>⟨acc,ha,fun _ h=>(nomatch h),fun x c h=>⟨c,h⟩,rfl⟩
 | (n,k)::r,acc,h,ha=>by
  by_cases hk:k=.free
  ·subst hk;obtain ⟨c,hc⟩:=h (n,.free) List.mem_cons_self rfl;obtain ⟨cl,h1,h2,h3,h4⟩:=hX r ((n,c)::acc) (fun y hy=>h y (List.mem_cons_of_mem _ hy)) (fun x d hd=>by
    rw [List.lookup_cons] at hd;cases q:x==n with
    | true =>
     rw [q] at hd;have e1:x=n:=by simpa using q
     have e2:c=d:=Option.some.inj hd;rw [e1,<- e2];exact hc
    | false=>rw [q] at hd;exact ha x d hd)
   refine ⟨cl,h1,fun y hy hf=>?_,fun x d hd=>?_,?_⟩
   ·rcases List.mem_cons.mp hy with e | hy
    ·subst e;exact h3 n c (by simp [List.lookup_cons])
    ·exact h2 y hy hf
   ·cases q:x==n with
    | true =>
     have e1:x=n:=by simpa using q
     subst e1;exact h3 x c (by simp [List.lookup_cons])
    | false=>exact h3 x d (by rw [List.lookup_cons,q];exact hd)
   ·rw [<- h4,List.forIn_cons];have e:cellOf env n=pure c:=by unfold cellOf;rw [hc]
    show ((if (NameKind.free==NameKind.free)=true then (do let a <- cellOf env n;pure (ForInStep.yield ((n,a)::acc))) else pure (ForInStep.yield acc):Sem _) >>= _)=_;rw [if_pos (by decide),e];rfl
  ·obtain ⟨cl,h1,h2,h3,h4⟩:=hX r acc (fun y hy=>h y (List.mem_cons_of_mem _ hy)) ha;refine ⟨cl,h1,fun y hy hf=>?_,h3,?_⟩
   ·rcases List.mem_cons.mp hy with e | hy
    ·subst e;exact absurd hf hk
    ·exact h2 y hy hf
   ·rw [<- h4,List.forIn_cons];have e:(k==NameKind.free)=false:=by simpa using hk
    show ((if (k==NameKind.free)=true then (do let a <- cellOf env n;pure (ForInStep.yield ((n,a)::acc))) else pure (ForInStep.yield acc):Sem _) >>= _)=_;rw [if_neg (by rw [e];exact Bool.false_ne_true)];rfl
def nO {sc:Scope} {env:Env} (h:∀ y∈sc.names,y.2=.free->∃ c,env.cells.lookup y.1=some c) :
  ∃ cl,closureFor sc env=pure cl/\(∀ x c,cl.lookup x=some c->env.cells.lookup x=some c)/\(∀ y∈sc.names,y.2=.free->∃ c,cl.lookup y.1=some c):=by
 obtain ⟨cl,h1,h2,_,h4⟩:=hX (env:=env) sc.names [] h (fun x c e=>by simp at e);refine ⟨cl,?_,h1,h2⟩;unfold closureFor;exact (congrArg (fun m:Sem (List (Str×Addr))=>m >>= fun r=>pure r) h4).trans rfl
theorem fI {env:Env} {x:Str}:∀ {names:List (Str×NameKind)} {k:NameKind},names.lookup x=some k ->
  (names.map fun (n,k)=>if (k==NameKind.free&&env.scope.kind==.function&&env.kindOf n==some .cell) then (n,NameKind.cell) else (n,k)).lookup x
   = some (if (k==NameKind.free&&env.scope.kind==.function&&env.kindOf x==some .cell) then NameKind.cell else k)
 | [],_,h=>by simp at h
 | (n,k0)::r,k,h=>by
  rw [List.lookup_cons] at h;rw [List.map_cons];cases q:x==n with
  | true =>
   have e1:x=n:=by simpa using q
   subst e1;rw [q] at h;have e2:k0=k:=Option.some.inj h;subst e2;dsimp only
   by_cases hc:(k0==NameKind.free&&env.scope.kind==.function&&env.kindOf x==some .cell)=true
   ·rw [if_pos hc,if_pos hc,List.lookup_cons,q]
   ·rw [if_neg hc,if_neg hc,List.lookup_cons,q]
  | false =>
   rw [q] at h;have ih:=fI (env:=env) h;dsimp only
   by_cases hc:(k0==NameKind.free&&env.scope.kind==.function&&env.kindOf n==some .cell)=true
   ·rw [if_pos hc,List.lookup_cons,q];exact ih
   ·rw [if_neg hc,List.lookup_cons,q];exact ih
theorem jP {env:Env} {x:Str}:∀ {names:List (Str×NameKind)},names.lookup x=none ->
  (names.map fun (n,k)=>if (k==NameKind.free&&env.scope.kind==.function&&env.kindOf n==some .cell) then (n,NameKind.cell) else (n,k)).lookup x=none
 | [],_=>rfl
 | (n,k0)::r,h=>by
  rw [List.lookup_cons] at h;rw [List.map_cons];cases q:x==n with
  | true=>rw [q] at h;cases h
  | false =>
   rw [q] at h;have ih:=jP (env:=env) h;dsimp only
   by_cases hc:(k0==NameKind.free&&env.scope.kind==.function&&env.kindOf n==some .cell)=true
   ·rw [if_pos hc,List.lookup_cons,q];exact ih
   ·rw [if_neg hc,List.lookup_cons,q];exact ih
noncomputable def blk (X:Cx) (N':List Str) (sc:Scope) (cl:List (Str×Addr)) (C:Addr) (s2:Shared) (H2:Hp) (fp:List Addr):Cx :=
 { X with N:=N',s₀:=s2,H₀:=H2,env:=compEnvC sc cl C X.env,outer:=X.stack,ex:=fp,fn:=fun _=>false,pn:=[] }
def aD8 {X:Cx} {pins:List (Addr×Obj)} {σ:St} {H2:Hp} {s2:Shared} {N':List Str} {ixs:List (Option Nat)} {S sc:Scope} {cl:List (Str×Addr)} {fp:List Addr} {h1:Heap} {tk n0:Nat}
  (I:Inv X pins σ H2 s2) (hS:X.env.scope=S) (SC:CompSc X.N N' ixs S sc) (hcl1:∀ x c,cl.lookup x=some c->X.env.cells.lookup x=some c) (hcl2:∀ y∈sc.names,y.2=.free->∃ c,cl.lookup y.1=some c)
  (hf:∀ b∈fp,jM X pins H2 b) (hfl:∀ b∈fp,b < s2.heap.objs.size) (hns:h1.Ns (s2.heap.objs.size+1) fun _=>none)
  (keep:∀ b o,s2.heap.get? b=some o->h1.get? b=some o) (ha:h1.get? s2.heap.objs.size=some { cls:=.type "list",data:=.seq ([]:List Value).toArray n0 }) :
  Inv (blk X N' sc cl (s2.heap.objs.size+1) s2 H2 fp) [] (pK ixs σ) (upd H2 s2.heap.objs.size (.lst [])) { s2 with heap:=h1,toks:=tk }:=by
 have kfree:∀ {x:Str} {k:NameKind},(relabel sc X.env).names.lookup x=some k->k=.cell\/k=.free->(x,NameKind.free)∈sc.names:=fun {x k} e hk=>by
  cases q:sc.names.lookup x with
  | none =>
   have z:=jP (env:=X.env) q;have z':(relabel sc X.env).names.lookup x=none:=z;rw [e] at z';cases z'
  | some k0 =>
   have z:=fI (env:=X.env) q;have z':(relabel sc X.env).names.lookup x=_:=z;rw [e] at z';have m:=PySem.mem_of_lookup q;have hz:=Option.some.inj z'
   by_cases hc:(k0==NameKind.free&&X.env.scope.kind==.function&&X.env.kindOf x==some .cell)=true
   ·have h0:k0=.free:=by
     simp only [Bool.and_eq_true,beq_iff_eq] at hc;exact hc.1.1
    rw [<- h0];exact m
   ·rw [if_neg hc] at hz;subst hz;rcases hk with hk | hk
    ·exact absurd hk (SC.nocell _ m)
    ·rw [<- hk];exact m
 have fr:H2 s2.heap.objs.size=none:=I.hok.fresh (Nat.le_refl _);have frC:H2 (s2.heap.objs.size+1)=none:=I.hok.fresh (Nat.le_succ _);have cl_lt:∀ x c,X.env.cells.lookup x=some c->c < s2.heap.objs.size:=fun x c e=>by
  obtain ⟨v,q⟩:=I.cell x c e;exact q.lt
 have ok:(blk X N' sc cl (s2.heap.objs.size+1) s2 H2 fp).Ok:={
  mod:=I.ok.mod
  kind:=SC.kind
  glob:=I.ok.glob
  blt:=I.ok.blt
  above:=Nat.le_succ _
  inj:=fun x y c e1 e2=>I.ok.inj x y c (hcl1 x c e1) (hcl1 y c e2)
  has:=fun x hx=>by
   rcases hx with hx | hx
   ·exact hcl2 _ (kfree hx (.inl rfl)) rfl
   ·exact hcl2 _ (kfree hx (.inr rfl)) rfl
  cab:=fun x c h=>absurd (show false=true from h) Bool.false_ne_true
  hd:=I.ok.hd
  frames:=I.ok.frames
  stk:=.inl rfl
  exf:=fun b hb=>⟨Nat.ne_of_lt (Nat.lt_succ_of_lt (hfl b hb)),fun x c e=>(hf b hb).2.2.2.2.1 x c (hcl1 x c e)⟩
  bs:=I.bs
  bsz:=Nat.le_trans I.ok.bsz I.sz
  noex:=fun b o e hb=>by
   rcases (hf b hb).2.2.2.1 with z | z
   ·exact I.ok.noex b o e z
   ·exact absurd (Nat.lt_of_lt_of_le (Heap.lt_size e) (Nat.le_trans I.ok.bsz z)) (Nat.lt_irrefl _)
  exfs:=fun b hb hz=>by
   rcases List.mem_cons.mp (I.stkSub b hz) with z | z
   ·exact (hf b hb).2.1 z
   ·exact (hf b hb).2.2.1 z
  funs:=I.stack
  frf:=I.stkFree }
 refine ⟨ok,rfl,I.bare,Un.laid keep (Nat.le_refl _) fr,⟨_,hns,fun j x v e1 e2 e3=>?_⟩,fun x c e=>?_,?_,fun x c e=>?_,fun p hp=>absurd (show p∈([]:List (Addr×Obj)) from hp) (by simp),?_,?_⟩
 ·obtain ⟨i,ei,ev⟩:=bD2 e2;obtain ⟨eN,ef⟩:=SC.at e1 ei;have hm:=PySem.mem_of_lookup ef;have hvis:X.env.scope.names.lookup x=some .cell\/X.env.scope.names.lookup x=some .free:=by rw [hS];exact SC.free _ hm rfl
  obtain ⟨m,hn,hl⟩:=I.loc;obtain ⟨u,r,l⟩:=hl i x v eN ev (.inr hvis);refine ⟨u,r,?_⟩;rcases l with ⟨hk,_⟩ | ⟨_,c,ec,o,ho,hd⟩
  ·have hk':X.env.scope.names.lookup x=some .local:=hk;rcases hvis with z | z
   ·rw [hk'] at z;cases z
   ·rw [hk'] at z;cases z
  ·obtain ⟨c',ec'⟩:=hcl2 _ hm rfl;have e5:=hcl1 _ _ ec';rw [ec] at e5;have e6:c=c':=Option.some.inj e5;subst e6;refine .inr ⟨?_,c,ec',o,keep _ _ ho,hd⟩;have z:=fI (env:=X.env) ef;have z':(relabel sc X.env).names.lookup x=_:=z
   by_cases hc:(NameKind.free==NameKind.free&&X.env.scope.kind==.function&&X.env.kindOf x==some .cell)=true
   ·rw [if_pos hc] at z';exact .inl z'
   ·rw [if_neg hc] at z';exact .inr z'
 ·obtain ⟨v,o,ho,hd⟩:=I.cell x c (hcl1 x c e);exact ⟨v,o,keep _ _ ho,hd⟩
 ·show upd H2 s2.heap.objs.size _ (s2.heap.objs.size+1)=none;rw [aR (Nat.ne_of_gt (Nat.lt_succ_self _))];exact frC
 ·show upd H2 s2.heap.objs.size _ c=none;rw [aR (Nat.ne_of_lt (cl_lt x c (hcl1 x c e)))];exact I.freeC x c (hcl1 x c e)
 ·exact I.hok.laid keep (Nat.le_refl _) ⟨Nat.zero_le _,[],n0,.nil,ha⟩
 ·show (pK ixs σ).length=N'.length;unfold pK;rw [List.length_map];exact SC.len
def bD3 {X:Cx} {pins:List (Addr×Obj)} {σ σ':St} {H2 H':Hp} {s2 s':Shared} {N':List Str} {sc:Scope} {cl:List (Str×Addr)} {fp:List Addr} {C:Addr}
  (I:Inv X pins σ H2 s2) (hf:∀ b∈fp,jM X pins H2 b) (J:Inv (blk X N' sc cl C s2 H2 fp) [] σ' H' s'):Inv X pins σ H' s' :=
 I.call' (ch:=fp) J.os J.base J.hok J.bare fun b hb=>⟨(hf b hb).2.2.2.1,(hf b hb).2.1,(hf b hb).2.2.2.2.1,(hf b hb).2.2.2.2.2⟩
def aD9 {prog:Program} {w:World} {A:Around} {R:Result->Shared->Prop} {s:Shared} {elt target iter:Expr} {ifs:List Expr} {scope:Scope} {pos:Pos} {it acc:Value} {env:Env} (I:Nat->Shared->Prop)
  (turn:∀ n s,I n s->wpAny (model prog w) A (pyNext it) (fun r s₁=>match r with
   | none=>R (.ok .next) s₁
   | some v=>wpAny (model prog w) A (letOwnedTupleGo target it v) (fun _ t₁=>wpAny (model prog w) A (assign target env v) (fun _ s₂ =>
     wpAny (model prog w) A (forIn ifs true fun c r=>if r=true then do let ok <- isTrue c env (eval c env);pure (ForInStep.yield ok) else pure (ForInStep.yield r)) (fun ok s₃ =>
      if ok=true then wpAny (model prog w) A (eval elt env) (fun x s₄ =>
       wpAny (model prog w) A (call (.builtin "list.append") [acc,x]) (fun _ s₅=>∃ m,m < n/\I m s₅) (fun _ _=>False) s₄) (fun _ _=>False) s₃
      else ∃ m,m < n/\I m s₃) (fun _ _=>False) s₂) (fun _ _=>False) t₁) (fun _ _=>False) s₁) (fun _ _=>False) s)
  (n:Nat) (h:I n s):codeAny (model prog w) A (.compLoop (.ListComp elt [⟨target,iter,ifs,0⟩] scope pos) 0 it acc env) R s:=by
 refine codeAny_loop rfl I (fun n s hI=>?_) n h;show wpAny _ A ((compTurn (.ListComp elt [⟨target,iter,ifs,0⟩] scope pos) 0 it acc env).onRaise (fun x=>do noteFrame x env;theTreesLotGoes x)) _ _ s;refine wpAny_noted (wpAny_noRaise ?_);rw [compTurn_list];refine wpAny_bind (wpAny_standAt (wpAny_bind (thn (turn n s hI) fun r s₁ h₁=>?_)));cases r with
 | none=>exact wpAny_pure h₁
 | some v =>
  refine wpAny_bind (thn h₁ fun _ t₁ h₂=>wpAny_bind (thn h₂ fun _ s₂ h₃=>wpAny_bind (thn h₃ fun ok s₃ h₄=>?_)));cases ok with
  | false=>exact wpAny_pure ⟨rfl,h₄⟩
  | true=>exact wpAny_bind (wpAny_bind (thn h₄ fun x s₄ h₅=>wpAny_bind (thn h₅ fun _ s₅ h₆=>wpAny_pure (wpAny_pure ⟨rfl,h₆⟩))))
def PIf (X:Cx) (ifs:List Expr) (t:TT):Prop :=
 ∀ (pins:List (Addr×Obj)) (s:Shared) (σ:St) (H:Hp) (Q:Bool->Hp->Prop),Inv X pins σ H s->t σ H Q ->
  wpAny (model X.prog X.w) X.A (forIn ifs true fun c r=>if r=true then do let ok <- isTrue c X.env (eval c X.env);pure (ForInStep.yield ok) else pure (ForInStep.yield r)) (TP X pins σ Q) X.xe s
def dN4:TT:=fun _ H Q=>Q true H
def bD4 {X:Cx}:PIf X [] dN4:=fun _ _ _ H _ I h=>wpAny_tests_nil ⟨H,I,h⟩
def bD5 {X:Cx} {c:Expr} {t:TT} (h:PT X c t):PIf X [c] t:=fun pins s σ H Q I hw=>wpAny_tests_one (h pins s σ H Q I hw)
def bQ4 (J:It) (g:TG) (tt:TT) (te:TE) (acc:Addr) (Fin:Hp->Prop) (W:Nat->Nat->List V->St->Hp->Prop):Prop :=
 ∀ i m ys σ H,W i m ys σ H->(J.stop i H/\H acc=some (.lst ys)/\Fin H) \/
  (J.go i H/\∀ x H',J.yld i H x H'->g x σ H' fun σ2 H3=>tt σ2 H3 fun b H4 =>
   if b=true then te σ2 H4 fun y H5=>H5 acc=some (.lst ys)/\ys.length < sizeLine/\∃ m',m' < m/\W (i+1) m' (ys++[y]) σ2 (upd H5 acc (.lst (ys++[y])))
   else ∃ m',m' < m/\W (i+1) m' ys σ2 H4)
def aN3 (ixs:List (Option Nat)) (wi:TI) (g:TG) (tt:TT) (te:TE):TE:=fun σ H Q=>wi σ H fun J H2=>∀ acc,H2 acc=none ->
 ∃ W:Nat->Nat->List V->St->Hp->Prop,(∃ m,W 0 m [] (pK ixs σ) (upd H2 acc (.lst [])))/\bQ4 J g tt te acc (Q (.ref acc)) W
section
variable {X:Cx} {tg iter elt:Expr} {ifs:List Expr} {sc S:Scope} {N':List Str} {ixs:List (Option Nat)} {pos:Pos} {wi:TI} {g:TG} {tt:TT} {te:TE}
def uP {pins:List (Addr×Obj)} {σ:St} {H2:Hp} {s2:Shared} {it:Addr} {fp:List Addr} {tn:Nat->Heap->Prop} {J:It} {cl:List (Str×Addr)} {R:Value->Addr->Result->Shared->Prop} {Fin:Hp->Prop} {W:Nat->Nat->List V->St->Hp->Prop} {m0:Nat}
  (hxe:X.xe=fun _ _=>False) (hc:X.calm=true) (hS:X.env.scope=S) (SC:CompSc X.N N' ixs S sc) (hcl1:∀ x c,cl.lookup x=some c->X.env.cells.lookup x=some c) (hcl2:∀ y∈sc.names,y.2=.free->∃ c,cl.lookup y.1=some c)
  (hg:∀ cl C s H fp,PG (blk X N' sc cl C s H fp) tg g) (ht:∀ cl C s H fp,PIf (blk X N' sc cl C s H fp) ifs tt) (he:∀ cl C s H fp,PE (blk X N' sc cl C s H fp) elt te)
  (I:Inv X pins σ H2 s2) (T:Turn X.prog X.w X.K tg J fp it tn) (st:tn 0 s2.heap) (hf:∀ b∈fp,jM X pins H2 b)
  (w0:W 0 m0 [] (pK ixs σ) (upd H2 s2.heap.objs.size (.lst []))) (hW:bQ4 J g tt te s2.heap.objs.size Fin W)
  (hR:∀ H' s' m,Inv X pins σ H' s'->s'.heap.Ns (s2.heap.objs.size+1) m->H' (s2.heap.objs.size+1)=none->Fin H'->R (.ref s2.heap.objs.size) (s2.heap.objs.size+1) (.ok .next) s') :
  wpAny (model X.prog X.w) X.A (newList []) (fun acc s₃=>wpAny (model X.prog X.w) X.A (newFunctionEnv sc X.env.globals cl [] X.env.qual none .none (some X.env)) (fun cenv s₄ =>
   codeAny (model X.prog X.w) X.A (.compStart (.ListComp elt [⟨tg,iter,ifs,0⟩] sc pos) 0 (.ref it) acc { cenv with scope:=relabel sc X.env }) (R acc cenv.locals) s₄) X.xe s₃) X.xe s2:=by
 refine wpAny_newObj_type (wpAny_newFunctionEnv SC.nocell (by intro y hy;simp at hy) (fun h₁ hns₁ hsb₁=>?_) SC.kind);dsimp only at hns₁ hsb₁ ⊢;have eC:(s2.heap.push { cls:=.type "list",dict:=none,data:=.seq ([]:List Value).toArray }).objs.size=s2.heap.objs.size+1:=by rw [Heap.size_push]
 rw [eC] at hns₁ hsb₁ ⊢;have old:∀ b o,s2.heap.get? b=some o->h₁.get? b=some o:=fun b o e=>hsb₁.extBut b o (Nat.ne_of_lt (Nat.lt_succ_of_lt (Heap.lt_size e))) (Heap.get?_push_of_some _ (Heap.get?_push_of_some _ e));have hacc:h₁.get? s2.heap.objs.size=some { cls:=.type "list",data:=.seq ([]:List Value).toArray }:=hsb₁.extBut _ _ (Nat.ne_of_lt (Nat.lt_succ_self _)) (Heap.get?_push_of_some _ (Heap.get?_push_size _ rfl));have hfl:∀ b∈fp,b < s2.heap.objs.size:=fun b hb=>by
  obtain ⟨o,e,_⟩:=T.obj _ _ st b hb;exact Heap.lt_size e
 have I1:=aD8 (tk:=s2.toks+([]:List (Str×Value)).length) I hS SC hcl1 hcl2 hf hfl hns₁ old hacc;have st1:tn 0 h₁:=T.keep _ _ _ st fun b _ o e=>old b o e;generalize hY:blk X N' sc cl (s2.heap.objs.size+1) s2 H2 fp=Y at I1;have hfY:∀ {H':Hp},(∀ b∈fp,H' b=none)->∀ b∈fp,jM Y [] H' b:=fun {H'} hn b hb=>by
  subst hY;refine ⟨hn b hb,Nat.ne_of_lt (Nat.lt_succ_of_lt (hfl b hb)),fun hz=>?_,.inl hb,fun x c e=>(hf b hb).2.2.2.2.1 x c (hcl1 x c e),fun p hp=>absurd (show p∈([]:List (Addr×Obj)) from hp) (by simp)⟩;rcases List.mem_cons.mp (I.stkSub b hz) with z | z
  ·exact (hf b hb).2.1 z
  ·exact (hf b hb).2.2.1 z
 have hg':PG Y tg g:=by subst hY;exact hg _ _ _ _ _
 have ht':PIf Y ifs tt:=by subst hY;exact ht _ _ _ _ _
 have he':PE Y elt te:=by subst hY;exact he _ _ _ _ _
 have hxY:Y.xe=fun _ _=>False:=by subst hY;exact hxe
 have hcY:Y.calm=true:=by subst hY;exact hc
 have hp0:∀ b∈fp,upd H2 s2.heap.objs.size (.lst []) b=none:=fun b hb=>by
  rw [aR (Nat.ne_of_lt (hfl b hb))];exact (hf b hb).1
 have loop:∀ s₃:Shared,s₃={ s2 with heap:=h₁,toks:=s2.toks+([]:List (Str×Value)).length } ->
   codeAny (model X.prog X.w) X.A (.compLoop (.ListComp elt [⟨tg,iter,ifs,0⟩] sc pos) 0 (.ref it) (.ref s2.heap.objs.size) Y.env) (R (.ref s2.heap.objs.size) (s2.heap.objs.size+1)) s₃:=by
  rintro s₃ rfl;have eP:X.prog=Y.prog:=by subst hY;rfl
  have eW:X.w=Y.w:=by subst hY;rfl
  have eA:X.A=Y.A:=by subst hY;rfl
  have eK:X.K=Y.K:=by subst hY;rfl
  have eM:model X.prog X.w=model Y.prog Y.w:=by rw [eP,eW]
  have back:∀ {σ' H' s'},Inv Y [] σ' H' s'->Inv X pins σ H' s'/\(∃ m,s'.heap.Ns (s2.heap.objs.size+1) m)/\H' (s2.heap.objs.size+1)=none:=fun {σ' H' s'} K=>by
   subst hY;obtain ⟨m,hn,_⟩:=K.loc;exact ⟨bD3 I hf K,⟨m,hn⟩,K.free⟩
  clear hY;refine aD9 (fun n s'=>∃ i ys σ' H',Inv Y [] σ' H' s'/\tn i s'.heap/\(∀ b∈fp,H' b=none)/\W i n ys σ' H') ?_ m0 ⟨0,[],_,_,I1,st1,hp0,w0⟩;rintro n s3 ⟨i,ys,σ3,H3,I3,st3,fr3,w3⟩;rcases hW i n ys σ3 H3 w3 with ⟨stop,ha3,fin⟩ | ⟨go,step⟩
  ·have td:=T.done Y eP.symm eW.symm eK.symm hcY i [] s3 σ3 H3 (fun _ _=>False) I3 (hfY fr3) st3 stop;rw [<- eA] at td;refine thn td fun r s4 ⟨hr,I4⟩=>?_;subst hr;obtain ⟨J4,⟨m,hn⟩,hC⟩:=back I4;exact hR H3 s4 m J4 hn hC fin
  ·have td:=T.item Y eP.symm eW.symm eK.symm hcY i [] s3 σ3 H3 (fun _ _=>False) I3 (hfY fr3) st3 go;rw [<- eA] at td;refine thn td fun r s4 ⟨u,hr,h4⟩=>?_;subst hr;refine thn h4 fun _ s5 ⟨x,H5,I5,r5,y5,st5,fr5⟩=>?_;have I5':=I5.pinned (hfY fr5) (T.obj _ _ st5);have unx:∀ {α:Type} {t:Sem α} {Q:α->Shared->Prop} {s:Shared},wpAny (model Y.prog Y.w) Y.A t Q Y.xe s->wpAny (model X.prog X.w) X.A t Q (fun _ _=>False) s:=fun h=>by rw [eM,eA,<- hxY];exact h
   refine thn (unx (hg' _ s5 σ3 H5 x u _ I5' r5 (step x H5 y5))) fun _ s6 ⟨σ6,H6,I6,q6⟩=>?_;refine thn (unx (ht' _ s6 σ6 H6 _ I6 q6)) fun b s7 ⟨H7,I7,q7⟩=>?_;have keepIt:∀ {σ' H' s'},Inv Y ([]++nE fp s5.heap) σ' H' s'->tn (i+1) s'.heap/\∀ b∈fp,H' b=none:=fun {σ' H' s'} K =>
    ⟨T.keep _ _ _ st5 fun b hb o e=>(K.pin (b,o) (List.mem_append_right _ (List.mem_append_right _ (gJ hb e)))).1,fun b hb=>by
     obtain ⟨o,e,d⟩:=T.obj _ _ st5 b hb;exact (K.pin (b,o) (List.mem_append_right _ (List.mem_append_right _ (gJ hb e)))).2.1⟩
   cases b with
   | false =>
    obtain ⟨m',hm,w7⟩:=q7;exact ⟨m',hm,i+1,ys,σ6,H7,I7.unpinned,(keepIt I7).1,(keepIt I7).2,w7⟩
   | true =>
    refine thn (unx (he' _ s7 σ6 H7 _ I7 q7)) fun v s8 ⟨y,H8,I8,r8,q8⟩=>?_;obtain ⟨ha8,hz8,m',hm,w8⟩:=q8;refine thn (unx (qI (X:=Y) _ s8 σ6 H8 (.ref s2.heap.objs.size) [y] (.ref s2.heap.objs.size) [v] (fun v9 H9=>v9=.non/\H9=upd H8 s2.heap.objs.size (.lst (ys++[y]))) I8 rfl (.cons r8 .nil) ⟨_,ys,y,rfl,rfl,ha8,hz8,rfl,rfl⟩)) fun v9 s9 ⟨z9,H9,I9,_,_,e9⟩=>?_;subst e9;exact ⟨m',hm,i+1,ys++[y],σ6,_,I9.unpinned,(keepIt I9).1,(keepIt I9).2,w8⟩
 have eEnv:Y.env={ (newEnv sc (s2.heap.objs.size+1) X.env.globals cl X.env.qual none .none (some X.env) builtinsNs) with scope:=relabel sc X.env }:=by subst hY;rfl
 rw [eEnv] at loop;exact codeAny_compStart_list (loop _ rfl) (T.self X.A 0 _ _ _ st1 (loop _ rfl))
def bD6 (hxe:X.xe=fun _ _=>False) (hc:X.calm=true) (hS:X.env.scope=S) (SC:CompSc X.N N' ixs S sc) (hi:PI X tg iter wi)
  (hg:∀ cl C s H fp,PG (blk X N' sc cl C s H fp) tg g) (ht:∀ cl C s H fp,PIf (blk X N' sc cl C s H fp) ifs tt) (he:∀ cl C s H fp,PE (blk X N' sc cl C s H fp) elt te)
  (hs:autoParam (∀ x,foldedSetIterable iter X.env x=pure x) ZI):PE X (.ListComp elt [⟨tg,iter,ifs,0⟩] sc pos) (aN3 ixs wi g tt te):=by
 intro pins s σ H Q I h;obtain ⟨cl,ecl,hcl1,hcl2⟩:=nO (sc:=sc) (env:=X.env) fun y hy hf=>I.ok.has y.1 (by
  have z:=SC.free y hy hf;rw [<- hS] at z;exact z)
 rw [eval_ListComp];refine wpAny_comprehension_free (use:=none) rfl hs ecl SC.kind SC.loc ?_;refine thn (hi pins s σ H _ I h) fun v s1 h1=>thn h1 fun itv s2 h2=>?_;obtain ⟨it,fp,tn,J,H2,e,I2,T,st2,f2,hw⟩:=h2;subst e;obtain ⟨W,⟨m0,w0⟩,hW⟩:=hw _ (I2.hok.fresh (Nat.le_refl _));refine uP (R:=fun acc C=>compPost (model X.prog X.w) X.A X.xe none (EP X pins σ Q) acc C) hxe hc hS SC hcl1 hcl2 hg ht he I2 T st2 f2 w0 hW fun H' s' m J' hn hC fin=>?_;refine ⟨m,hn,fun h' hs'=>?_⟩;have hlt:=J'.lt;refine ⟨.ref s2.heap.objs.size,H',J'.turned (it:=s2.heap.objs.size+1) (t':=s'.toks) (fun b o hb e=>hs'.extBut b o hb e) hC (Nat.ne_of_gt (Nat.lt_succ_of_lt I2.lt)) (.inr (Nat.le_succ_of_le I2.sz)) (fun x c e z=>?_) (fun p hp z=>?_),rfl,fin⟩
 ·obtain ⟨v',q⟩:=I2.cell x c e;exact sK z q.lt
 ·exact sK z (Heap.lt_size (I2.pin p hp).1)
def xC {y:Str} {i:Nat} {py spos:Pos} (hxe:X.xe=fun _ _=>False) (hc:X.calm=true) (hS:X.env.scope=S) (SC:CompSc X.N N' ixs S sc) (hi:PI X tg iter wi)
  (hg:∀ cl C s H fp,PG (blk X N' sc cl C s H fp) tg g) (ht:∀ cl C s H fp,PIf (blk X N' sc cl C s H fp) ifs tt) (he:∀ cl C s H fp,PE (blk X N' sc cl C s H fp) elt te)
  (hN:X.N.Nodup) (hiN:X.N[i]?=some y) (hy:X.env.scope.names.lookup y=some .local) (hsw:swapsWith (.ListComp elt [⟨tg,iter,ifs,0⟩] sc pos) (some (.Name y py)) spos.line X.env=pure true)
  (hs:autoParam (∀ x,foldedSetIterable iter X.env x=pure x) ZI):PS X (.Assign [.Name y py] (.ListComp elt [⟨tg,iter,ifs,0⟩] sc pos) spos) (bB6 (aN3 ixs wi g tt te) (zA i)):=by
 intro pins s σ H D I h;obtain ⟨cl,ecl,hcl1,hcl2⟩:=nO (sc:=sc) (env:=X.env) fun y hy hf=>I.ok.has y.1 (by
  have z:=SC.free y hy hf;rw [<- hS] at z;exact z)
 rw [exec_Assign_Name_used _ _ _ _ hsw];refine wpAny_bind (wpAny_standAt (wpAny_bind ?_));show wpAny _ _ (do let _ <- comprehension (.ListComp elt [⟨tg,iter,ifs,0⟩] sc pos) sc X.env _ (newList []) false (eval iter X.env) (some (assign (.Name y py) X.env))) _ _ s;refine wpAny_bind (thn (wpAny_comprehension_free (use:=some (assign (.Name y py) X.env)) (Q:=fun _ s'=>SP X pins D .next s') rfl hs ecl SC.kind SC.loc ?_) fun _ s' hq=>wpAny_pure (wpAny_pure hq));refine thn (hi pins s σ H _ I h) fun v s1 h1=>thn h1 fun itv s2 h2=>?_;obtain ⟨it,fp,tn,J,H2,e,I2,T,st2,f2,hw⟩:=h2;subst e;obtain ⟨W,⟨m0,w0⟩,hW⟩:=hw _ (I2.hok.fresh (Nat.le_refl _));refine uP (R:=fun acc C=>compPost (model X.prog X.w) X.A X.xe (some (assign (.Name y py) X.env)) (fun _ s'=>SP X pins D .next s') acc C) hxe hc hS SC hcl1 hcl2 hg ht he I2 T st2 f2 w0 hW fun H' s' m J' hn hC fin=>?_;show wpAny _ _ (assign (.Name y py) X.env (.ref s2.heap.objs.size)) _ _ s';refine wpAny_assign_Name (qB (v:=.ref s2.heap.objs.size) J' hN hiN (.inl hy) rfl (fun s'' J2 hch=>?_) (.inr hy));obtain ⟨a,hsb,ha⟩:=hch;have clt:∀ x c,X.env.cells.lookup x=some c->c < s2.heap.objs.size:=fun x c e=>by
  obtain ⟨v',q⟩:=I2.cell x c e;exact q.lt
 have hlt:=I2.lt;have hne:s2.heap.objs.size+1≠a:=by
  rcases ha with z | z
  ·rw [z];exact Nat.ne_of_gt (Nat.lt_succ_of_lt hlt)
  ·exact Nat.ne_of_gt (Nat.lt_succ_of_lt (clt _ _ z))
 refine ⟨m,hn.sameBut hsb hne,fun h' hs'=>⟨_,H',J2.turned (it:=s2.heap.objs.size+1) (t':=s''.toks) (fun b o hb e=>hs'.extBut b o hb e) hC (Nat.ne_of_gt (Nat.lt_succ_of_lt hlt)) (.inr (Nat.le_succ_of_le I2.sz)) (fun x c e z=>?_) (fun p hp z=>?_),fin⟩⟩
 ·exact sK z (clt x c e)
 ·exact sK z (Heap.lt_size (I2.pin p hp).1)
end
end L2
set_option autoImplicit false
namespace DL
open PySem PySem.Spec PyProof.Rows L2
set_option genInjectivity true in
inductive W where
 | d (x:PyData)
 | c (i:Nat)
 | v (u:V)
set_option genInjectivity true in
inductive Cell where
 | l (xs:List PyData)
 | k (kvs:List (PyData×PyData))
 | t (P:Addr) (pos:Pos) (q:Str)
 | o (C:Addr) (fs:List (Str×W))
 | r (is:List Nat)
abbrev aA:=List Cell
abbrev DSt:=List (Option W)
abbrev DK:=W->aA->Prop
abbrev DTE:=DSt->aA->DK->Prop
abbrev DTT:=DSt->aA->(Bool->aA->Prop)->Prop
abbrev DTA:=DSt->aA->(List W->aA->Prop)->Prop
abbrev DTF:=DSt->aA->(List PyData->aA->Prop)->Prop
def KT (K:Frag) (a:Addr) (xs:List V):Prop :=
 ∃ (o:Obj) (its:Array Value) (n:Nat),K.lookup a=some o/\o.cls=.type "tuple"/\o.dict=none/\o.data=.seq its n/\its.size<=sizeLine/\Vals xs its.toList
def KL (K:Frag) (a:Addr) (xs:List V):Prop :=
 ∃ (o:Obj) (its:Array Value) (n:Nat),K.lookup a=some o/\o.cls=.type "list"/\o.dict=none/\o.data=.seq its n/\its.size<=sizeLine/\Vals xs its.toList
def TupAt (K:Frag) (A:List Addr) (H:Hp) (a:Addr) (xs:List V):Prop:=(a∉A/\Rd H a (.tup xs))\/KT K a xs
def LstAt (K:Frag) (A:List Addr) (H:Hp) (a:Addr) (xs:List V):Prop:=(a∉A/\Rd H a (.lst xs))\/KL K a xs
def TupAt.sq {K:Frag} {A:List Addr} {H:Hp} {a:Addr} {xs:List V} (h:TupAt K A H a xs):SqT K H a xs:=h.elim (fun z=>.inl z.2) fun ⟨o,its,n,h1,h2,_,h4⟩=>.inr ⟨o,its,n,h1,h2,h4⟩
def LstAt.sq {K:Frag} {A:List Addr} {H:Hp} {a:Addr} {xs:List V} (h:LstAt K A H a xs):SqL K H a xs:=h.elim (fun z=>.inl z.2) .inr
noncomputable def bF:PyData->Option Key
 | .int i=>some (.inl i)
 | .str x=>if PyData.strOk x=true then some (.inr x) else none
 | _=>none
mutual
noncomputable def Rep (K:Frag) (A:List Addr) (H:Hp):PyData->V->Prop
 | .none,v=>v=.non
 | .bool b,v=>v=.bl b
 | .int i,v=>v=.int i
 | .str x,v=>v=.str x/\PyData.strOk x=true
 | .list xs,v=>∃ a vs,v=.ref a/\LstAt K A H a vs/\Reps K A H xs vs
 | .tuple xs,v=>∃ a vs,v=.ref a/\TupAt K A H a vs/\Reps K A H xs vs
 | .dict kvs,v=>∃ a r,v=.ref a/\(a∉A/\Rd H a (.dK r))/\RepKs K A H kvs r
noncomputable def Reps (K:Frag) (A:List Addr) (H:Hp):List PyData->List V->Prop
 | [],vs=>vs=[]
 | x::xs,vs=>∃ v r,vs=v::r/\Rep K A H x v/\Reps K A H xs r
noncomputable def RepKs (K:Frag) (A:List Addr) (H:Hp):List (PyData×PyData)->List (Key×V)->Prop
 | [],r=>r=[]
 | p::kvs,r=>∃ q r',r=q::r'/\RepP K A H p q/\RepKs K A H kvs r'
noncomputable def RepP (K:Frag) (A:List Addr) (H:Hp):PyData×PyData->Key×V->Prop
 | (k,x),q=>bF k=some q.1/\Rep K A H x q.2
end
theorem Reps.length {K:Frag} {A:List Addr} {H:Hp}:∀ {xs:List PyData} {vs:List V},Reps K A H xs vs->vs.length=xs.length
 | [],_,h=>by rw [Reps] at h;subst h;rfl
 | _::xs,_,h=>by
  rw [Reps] at h;obtain ⟨v,r,rfl,_,h⟩:=h;rw [List.length_cons,List.length_cons,Reps.length h]
theorem Reps.get {K:Frag} {A:List Addr} {H:Hp}:∀ {xs:List PyData} {vs:List V} {i:Nat} {x:PyData},Reps K A H xs vs->xs[i]?=some x->∃ v,vs[i]?=some v/\Rep K A H x v
 | [],_,_,_,_,e=>by simp at e
 | y::xs,_,0,x,h,e=>by
  rw [Reps] at h;obtain ⟨v,r,rfl,hv,_⟩:=h;simp at e;subst e;exact ⟨v,rfl,hv⟩
 | y::xs,_,i+1,x,h,e=>by
  rw [Reps] at h;obtain ⟨v,r,rfl,_,h⟩:=h;obtain ⟨w,e1,e2⟩:=Reps.get (i:=i) h (by simpa using e);exact ⟨w,by simpa using e1,e2⟩
theorem Reps.append {K:Frag} {A:List Addr} {H:Hp} {ys:List PyData} {ws:List V} (h2:Reps K A H ys ws):∀ {xs:List PyData} {vs:List V},Reps K A H xs vs->Reps K A H (xs++ys) (vs++ws)
 | [],_,h=>by rw [Reps] at h;subst h;exact h2
 | x::xs,_,h=>by
  rw [Reps] at h;obtain ⟨v,r,rfl,hv,h⟩:=h;rw [List.cons_append,Reps];exact ⟨v,r++ws,rfl,hv,Reps.append h2 h⟩
def Reps.one {K:Frag} {A:List Addr} {H:Hp} {x:PyData} {v:V} (h:Rep K A H x v):Reps K A H [x] [v]:=by
 rw [Reps];exact ⟨v,[],rfl,h,by rw [Reps]⟩
def Reps.nil {K:Frag} {A:List Addr} {H:Hp}:Reps K A H [] []:=by rw [Reps]
def Reps.cons {K:Frag} {A:List Addr} {H:Hp} {x:PyData} {xs:List PyData} {v:V} {vs:List V} (h:Rep K A H x v) (hs:Reps K A H xs vs):Reps K A H (x::xs) (v::vs):=by
 rw [Reps];exact ⟨v,vs,rfl,h,hs⟩
theorem Reps.drop {K:Frag} {A:List Addr} {H:Hp}:∀ {xs:List PyData} {vs:List V} (n:Nat),Reps K A H xs vs->Reps K A H (xs.drop n) (vs.drop n)
 | _,_,0,h=>h
 | [],_,n+1,h=>by rw [Reps] at h;subst h;rw [List.drop_nil,List.drop_nil];exact .nil
 | x::xs,_,n+1,h=>by
  rw [Reps] at h;obtain ⟨v,r,rfl,_,h⟩:=h;exact Reps.drop n h
theorem Reps.take {K:Frag} {A:List Addr} {H:Hp}:∀ {xs:List PyData} {vs:List V} (n:Nat),Reps K A H xs vs->Reps K A H (xs.take n) (vs.take n)
 | _,_,0,h=>.nil
 | [],_,n+1,h=>by rw [Reps] at h;subst h;rw [List.take_nil,List.take_nil];exact .nil
 | x::xs,_,n+1,h=>by
  rw [Reps] at h;obtain ⟨v,r,rfl,hv,h⟩:=h;rw [List.take_succ_cons,List.take_succ_cons];exact .cons hv (Reps.take n h)
theorem Reps.set {K:Frag} {A:List Addr} {H:Hp} {x:PyData} {v:V} (hx:Rep K A H x v):∀ {xs:List PyData} {vs:List V} (i:Nat),Reps K A H xs vs->Reps K A H (xs.set i x) (vs.set i v)
 | [],_,i,h=>by rw [Reps] at h;subst h;exact .nil
 | y::xs,_,0,h=>by
  rw [Reps] at h;obtain ⟨w,r,rfl,_,h⟩:=h;exact .cons hx h
 | y::xs,_,i+1,h=>by
  rw [Reps] at h;obtain ⟨w,r,rfl,hw,h⟩:=h;exact .cons hw (Reps.set hx i h)
mutual
theorem Rep.anti {K:Frag} {A B:List Addr} {H:Hp} (hs:∀ a∈B,a∈A):∀ {d:PyData} {v:V},Rep K A H d v->Rep K B H d v
 | .none,_,h=>by rw [Rep] at h ⊢;exact h
 | .bool _,_,h=>by rw [Rep] at h ⊢;exact h
 | .int _,_,h=>by rw [Rep] at h ⊢;exact h
 | .str _,_,h=>by rw [Rep] at h ⊢;exact h
 | .list xs,_,h=>by
  rw [Rep] at h ⊢;obtain ⟨a,vs,e,h1,h2⟩:=h;exact ⟨a,vs,e,h1.elim (fun z=>.inl ⟨fun w=>z.1 (hs _ w),z.2⟩) .inr,Reps.anti hs h2⟩
 | .tuple xs,_,h=>by
  rw [Rep] at h ⊢;obtain ⟨a,vs,e,h1,h2⟩:=h;exact ⟨a,vs,e,h1.elim (fun z=>.inl ⟨fun w=>z.1 (hs _ w),z.2⟩) .inr,Reps.anti hs h2⟩
 | .dict kvs,_,h=>by
  rw [Rep] at h ⊢;obtain ⟨a,r,e,h1,h2⟩:=h;exact ⟨a,r,e,⟨fun w=>h1.1 (hs _ w),h1.2⟩,RepKs.anti hs h2⟩
theorem Reps.anti {K:Frag} {A B:List Addr} {H:Hp} (hs:∀ a∈B,a∈A):∀ {ds:List PyData} {vs:List V},Reps K A H ds vs->Reps K B H ds vs
 | [],_,h=>by rw [Reps] at h ⊢;exact h
 | x::xs,_,h=>by
  rw [Reps] at h ⊢;obtain ⟨v,r,e,h1,h2⟩:=h;exact ⟨v,r,e,Rep.anti hs h1,Reps.anti hs h2⟩
theorem RepKs.anti {K:Frag} {A B:List Addr} {H:Hp} (hs:∀ a∈B,a∈A):∀ {ds:List (PyData×PyData)} {vs:List (Key×V)},RepKs K A H ds vs->RepKs K B H ds vs
 | [],_,h=>by rw [RepKs] at h ⊢;exact h
 | p::xs,_,h=>by
  rw [RepKs] at h ⊢;obtain ⟨v,r,e,h1,h2⟩:=h;exact ⟨v,r,e,RepP.anti hs h1,RepKs.anti hs h2⟩
theorem RepP.anti {K:Frag} {A B:List Addr} {H:Hp} (hs:∀ a∈B,a∈A):∀ {p:PyData×PyData} {q:Key×V},RepP K A H p q->RepP K B H p q
 | (k,x),q,h=>by
  rw [RepP] at h ⊢;exact ⟨h.1,Rep.anti hs h.2⟩
end
mutual
theorem Rep.go {K:Frag} {A B:List Addr} {H H':Hp} (hs:∀ a o,a∉A->H a=some o->a∉B/\H' a=some o):∀ {d:PyData} {v:V},Rep K A H d v->Rep K B H' d v
 | .none,_,h=>by rw [Rep] at h ⊢;exact h
 | .bool _,_,h=>by rw [Rep] at h ⊢;exact h
 | .int _,_,h=>by rw [Rep] at h ⊢;exact h
 | .str _,_,h=>by rw [Rep] at h ⊢;exact h
 | .list xs,_,h=>by
  rw [Rep] at h ⊢;obtain ⟨a,vs,e,h1,h2⟩:=h;refine ⟨a,vs,e,?_,Reps.go hs h2⟩;rcases h1 with ⟨ha,h1 | ⟨o,h1⟩⟩ | h1
  ·exact .inl ⟨(hs a _ ha h1).1,.inl (hs a _ ha h1).2⟩
  ·exact .inl ⟨(hs a _ ha h1).1,.inr ⟨o,(hs a _ ha h1).2⟩⟩
  ·exact .inr h1
 | .tuple xs,_,h=>by
  rw [Rep] at h ⊢;obtain ⟨a,vs,e,h1,h2⟩:=h;refine ⟨a,vs,e,?_,Reps.go hs h2⟩;rcases h1 with ⟨ha,h1 | ⟨o,h1⟩⟩ | h1
  ·exact .inl ⟨(hs a _ ha h1).1,.inl (hs a _ ha h1).2⟩
  ·exact .inl ⟨(hs a _ ha h1).1,.inr ⟨o,(hs a _ ha h1).2⟩⟩
  ·exact .inr h1
 | .dict kvs,_,h=>by
  rw [Rep] at h ⊢;obtain ⟨a,r,e,⟨ha,h1⟩,h2⟩:=h;refine ⟨a,r,e,?_,RepKs.go hs h2⟩;rcases h1 with h1 | ⟨o,h1⟩
  ·exact ⟨(hs a _ ha h1).1,.inl (hs a _ ha h1).2⟩
  ·exact ⟨(hs a _ ha h1).1,.inr ⟨o,(hs a _ ha h1).2⟩⟩
theorem Reps.go {K:Frag} {A B:List Addr} {H H':Hp} (hs:∀ a o,a∉A->H a=some o->a∉B/\H' a=some o):∀ {ds:List PyData} {vs:List V},Reps K A H ds vs->Reps K B H' ds vs
 | [],_,h=>by rw [Reps] at h ⊢;exact h
 | x::xs,_,h=>by
  rw [Reps] at h ⊢;obtain ⟨v,r,e,h1,h2⟩:=h;exact ⟨v,r,e,Rep.go hs h1,Reps.go hs h2⟩
theorem RepKs.go {K:Frag} {A B:List Addr} {H H':Hp} (hs:∀ a o,a∉A->H a=some o->a∉B/\H' a=some o):∀ {ds:List (PyData×PyData)} {vs:List (Key×V)},RepKs K A H ds vs->RepKs K B H' ds vs
 | [],_,h=>by rw [RepKs] at h ⊢;exact h
 | p::xs,_,h=>by
  rw [RepKs] at h ⊢;obtain ⟨v,r,e,h1,h2⟩:=h;exact ⟨v,r,e,RepP.go hs h1,RepKs.go hs h2⟩
theorem RepP.go {K:Frag} {A B:List Addr} {H H':Hp} (hs:∀ a o,a∉A->H a=some o->a∉B/\H' a=some o):∀ {p:PyData×PyData} {q:Key×V},RepP K A H p q->RepP K B H' p q
 | (k,x),q,h=>by
  rw [RepP] at h ⊢;exact ⟨h.1,Rep.go hs h.2⟩
end
def TbOk (A:List Addr) (H:Hp) (P:Addr) (pos:Pos) (q:Str):Prop:=∃ ps,H P=some (.tbl ps)/\TriplesOk ps.toList/\(codeAmong pos ps.toList=none\/∃ c,codeAmong pos ps.toList=some (.ref c)/\c∉A/\H c=some (.ext fun h=>h.CodeRec (.ref c) q))
def TbOk.go {A A':List Addr} {H H':Hp} {P:Addr} {pos:Pos} {q:Str} (k:TbOk A H P pos q) (e:H' P=H P) (hs:∀ a o,a∉A->H a=some o->a∉A'/\H' a=some o):TbOk A' H' P pos q:=by
 obtain ⟨ps,h1,h2,h3⟩:=k;refine ⟨ps,by rw [e];exact h1,h2,h3.imp id fun ⟨c,e1,e2,e3⟩=>⟨c,e1,hs c _ e2 e3⟩⟩
noncomputable def RepW (K:Frag) (A μ:List Addr) (H:Hp):W->V->Prop
 | .d x,v=>Rep K A H x v
 | .c i,v=>∃ a,μ[i]?=some a/\v=.ref a
 | .v u,v=>v=u
noncomputable def FsOk (K:Frag) (A μ:List Addr) (H:Hp):List (Str×W)->List (Str×V)->Prop
 | [],vs=>vs=[]
 | p::fs,vs=>∃ v vr,vs=(p.1,v)::vr/\RepW K A μ H p.2 v/\FsOk K A μ H fs vr
noncomputable def IsOk (μ:List Addr):List Nat->List V->Prop
 | [],vs=>vs=[]
 | i::is,vs=>∃ a vr,vs=V.ref a::vr/\μ[i]?=some a/\IsOk μ is vr
noncomputable def wRefs:W->List Nat
 | .c i=>[i]
 | _=>[]
noncomputable def cRefs:Cell->List Nat
 | .o _ fs=>(fs.map fun p=>wRefs p.2).flatten
 | .r is=>is
 | _=>[]
noncomputable def CellOk (K:Frag) (A μ:List Addr) (H:Hp) (a:Addr):Cell->Prop
 | .l xs=>∃ vs,H a=some (.lst vs)/\Reps K A H xs vs
 | .k kvs=>∃ r,H a=some (.dK r)/\RepKs K A H kvs r
 | .t P pos q=>a=P/\TbOk A H P pos q
 | .o C fs=>∃ dx vs,H a=some (.ins C dx vs)/\FsOk K A μ H fs vs
 | .r is=>∃ vs,H a=some (.lst vs)/\IsOk μ is vs
def RepW.go {K:Frag} {A A' μ μ':List Addr} {H H':Hp} (hs:∀ a o,a∉A->H a=some o->a∉A'/\H' a=some o) {w:W} {v:V} (hm:∀ i∈wRefs w,∀ a,μ[i]?=some a->μ'[i]?=some a) (r:RepW K A μ H w v):RepW K A' μ' H' w v:=by
 cases w with
 | d y=>exact Rep.go hs r
 | v u=>exact r
 | c i =>
  obtain ⟨a,e,z⟩:=r;exact ⟨a,hm i List.mem_cons_self a e,z⟩
theorem FsOk.go {K:Frag} {A A' μ μ':List Addr} {H H':Hp} (hs:∀ a o,a∉A->H a=some o->a∉A'/\H' a=some o):∀ {fs:List (Str×W)} {vs:List (Str×V)},(∀ i∈(fs.map fun p=>wRefs p.2).flatten,∀ a,μ[i]?=some a->μ'[i]?=some a)->FsOk K A μ H fs vs->FsOk K A' μ' H' fs vs
 | [],_,_,h=>h
 | p::fs,_,hm,⟨v,vr,e,r,h⟩=>⟨v,vr,e,r.go hs fun i hi=>hm i (by rw [List.map_cons,List.flatten_cons];exact List.mem_append_left _ hi),FsOk.go hs (fun i hi=>hm i (by rw [List.map_cons,List.flatten_cons];exact List.mem_append_right _ hi)) h⟩
theorem IsOk.go {μ μ':List Addr}:∀ {is:List Nat} {vs:List V},(∀ i∈is,∀ a,μ[i]?=some a->μ'[i]?=some a)->IsOk μ is vs->IsOk μ' is vs
 | [],_,_,h=>h
 | i::is,_,hm,⟨a,vr,e,r,h⟩=>⟨a,vr,e,hm i List.mem_cons_self a r,IsOk.go (fun j hj=>hm j (List.mem_cons_of_mem _ hj)) h⟩
theorem FsOk.lt {K:Frag} {A μ:List Addr} {H:Hp}:∀ {fs:List (Str×W)} {vs:List (Str×V)},FsOk K A μ H fs vs->∀ i∈(fs.map fun p=>wRefs p.2).flatten,i < μ.length
 | [],_,_,i,hi=>by simp at hi
 | p::fs,_,⟨v,vr,e,r,h⟩,i,hi=>by
  rw [List.map_cons,List.flatten_cons] at hi;rcases List.mem_append.mp hi with hi | hi
  ·obtain ⟨f,w⟩:=p;cases w with
   | c j =>
    obtain ⟨a,e1,_⟩:=r;rw [List.mem_singleton.mp hi];exact (List.getElem?_eq_some_iff.mp e1).1
   | d x=>cases hi
   | v x=>cases hi
  ·exact FsOk.lt h i hi
theorem IsOk.lt {μ:List Addr}:∀ {is:List Nat} {vs:List V},IsOk μ is vs->∀ i∈is,i < μ.length
 | [],_,_,i,hi=>by cases hi
 | j::is,_,⟨a,vr,e,r,h⟩,i,hi=>by
  rcases List.mem_cons.mp hi with hi | hi
  ·rw [hi];exact (List.getElem?_eq_some_iff.mp r).1
  ·exact IsOk.lt h i hi
def CellOk.go {K:Frag} {A A' μ μ':List Addr} {H H':Hp} (hs:∀ a o,a∉A->H a=some o->a∉A'/\H' a=some o) {a:Addr} {c:Cell} (hm:∀ i∈cRefs c,∀ b,μ[i]?=some b->μ'[i]?=some b) (k:CellOk K A μ H a c) (e:H' a=H a):CellOk K A' μ' H' a c:=by
 cases c with
 | l xs=>obtain ⟨vs,q,r⟩:=k;exact ⟨vs,by rw [e];exact q,r.go hs⟩
 | k kvs=>obtain ⟨vs,q,r⟩:=k;exact ⟨vs,by rw [e];exact q,r.go hs⟩
 | t P pos q=>obtain ⟨rfl,q⟩:=k;exact ⟨rfl,q.go e hs⟩
 | o C fs=>obtain ⟨dx,vs,q,r⟩:=k;exact ⟨dx,vs,by rw [e];exact q,r.go hs hm⟩
 | r is=>obtain ⟨vs,q,r⟩:=k;exact ⟨vs,by rw [e];exact q,r.go hm⟩
def CellOk.lt {K:Frag} {A μ:List Addr} {H:Hp} {a:Addr} {c:Cell} (k:CellOk K A μ H a c):∀ i∈cRefs c,i < μ.length:=by
 cases c with
 | l xs=>intro i hi;cases hi
 | k kvs=>intro i hi;cases hi
 | t P pos q=>intro i hi;cases hi
 | o C fs=>obtain ⟨dx,vs,q,r⟩:=k;exact r.lt
 | r is=>obtain ⟨vs,q,r⟩:=k;exact r.lt
def aN4 (h:aA):Prop:=∀ c∈h,∀ i∈cRefs c,i < h.length
def okP (h h1:aA):Prop:=∀ (i:Nat) (c:Cell),i < h.length->h1[i]?=some c->(∀ j∈cRefs c,j < h.length)\/h[i]?=some c
structure HeapRep (K:Frag) (A μ:List Addr) (h:aA) (H:Hp):Prop where
 len:μ.length=h.length
 nd:μ.Nodup
 sub:∀ a∈μ,a∈A
 trk:∀ a∈A,∃ o,H a=some o
 cel:∀ (i:Nat) (a:Addr) (c:Cell),μ[i]?=some a->h[i]?=some c->CellOk K A μ H a c
def HeapRep.val {K:Frag} {A μ:List Addr} {h:aA} {H:Hp} (R:HeapRep K A μ h H) (i:Nat) (a:Addr) (xs:List PyData) (e1:μ[i]?=some a) (e2:h[i]?=some (Cell.l xs)):∃ vs,H a=some (.lst vs)/\Reps K A H xs vs:=R.cel i a _ e1 e2
def HeapRep.vad {K:Frag} {A μ:List Addr} {h:aA} {H:Hp} (R:HeapRep K A μ h H) (i:Nat) (a:Addr) (kvs:List (PyData×PyData)) (e1:μ[i]?=some a) (e2:h[i]?=some (Cell.k kvs)):∃ r,H a=some (.dK r)/\RepKs K A H kvs r:=R.cel i a _ e1 e2
def HeapRep.refs {K:Frag} {A μ:List Addr} {h:aA} {H:Hp} (R:HeapRep K A μ h H):aN4 h:=fun c hc i hi=>by
 obtain ⟨j,hj,rfl⟩:=List.mem_iff_getElem.mp hc;have hj':j < μ.length:=by rw [R.len];exact hj
 rw [<- R.len];exact (R.cel j μ[j] h[j] (List.getElem?_eq_getElem hj') (List.getElem?_eq_getElem hj)).lt i hi
structure EnvRep (K:Frag) (A μ:List Addr) (H:Hp) (δ:DSt) (σ:L2.St):Prop where
 len:δ.length=σ.length
 val:∀ (i:Nat) (w:W),δ[i]?=some (some w)->∃ v,σ[i]?=some (some v)/\RepW K A μ H w v
structure Ext (A A' μ μ':List Addr) (H H':Hp):Prop where
 sub:∀ a∈A,a∈A'
 new:∀ a∈A',a∈A\/H a=none
 pre:∃ ν,μ'=μ++ν/\∀ a∈ν,H a=none
 keep:∀ a o,a∉μ->H a=some o->H' a=some o
 trk:∀ a o,H a=some o->∃ o',H' a=some o'
section
variable {K:Frag} {A A' A1 A2 μ μ' μ1 μ2:List Addr} {H H' H1 H2:Hp} {h h':aA}
def Ext.refl:Ext A A μ μ H H:=⟨fun _ z=>z,fun _ z=>.inl z,⟨[],by simp,fun _ z=>(nomatch z)⟩,fun _ _ _ z=>z,fun _ o z=>⟨o,z⟩⟩
def Ext.back (x:Ext A A' μ μ' H H') {a:Addr} (e:H' a=none):H a=none:=by
 cases q:H a with
 | none=>rfl
 | some o=>obtain ⟨o',z⟩:=x.trk a o q;rw [e] at z;cases z
def Ext.trans (x:Ext A A1 μ μ1 H H1) (y:Ext A1 A2 μ1 μ2 H1 H2):Ext A A2 μ μ2 H H2:=by
 obtain ⟨ν,e1,n1⟩:=x.pre;obtain ⟨ν',e2,n2⟩:=y.pre;refine ⟨fun a z=>y.sub a (x.sub a z),fun a z=>?_,⟨ν++ν',by rw [e2,e1,List.append_assoc],fun a z=>?_⟩,fun a o ha q=>y.keep a o (fun z=>?_) (x.keep a o ha q),fun a o q=>?_⟩
 ·rcases y.new a z with z | z
  ·exact x.new a z
  ·exact .inr (x.back z)
 ·rcases List.mem_append.mp z with z | z
  ·exact n1 a z
  ·exact x.back (n2 a z)
 ·rw [e1] at z;rcases List.mem_append.mp z with z | z
  ·exact ha z
  ·rw [n1 a z] at q;cases q
 ·obtain ⟨o1,q1⟩:=x.trk a o q;exact y.trk a o1 q1
def Ext.go (x:Ext A A' μ μ' H H') (hs:∀ a∈μ,a∈A):∀ a o,a∉A->H a=some o->a∉A'/\H' a=some o:=fun a o ha q=>by
 refine ⟨fun z=>?_,x.keep a o (fun z=>ha (hs a z)) q⟩;rcases x.new a z with z | z
 ·exact ha z
 ·rw [z] at q;cases q
def Rep.ext (x:Ext A A' μ μ' H H') (hs:∀ a∈μ,a∈A) {d:PyData} {v:V} (r:Rep K A H d v):Rep K A' H' d v:=r.go (x.go hs)
def Reps.ext (x:Ext A A' μ μ' H H') (hs:∀ a∈μ,a∈A) {d:List PyData} {v:List V} (r:Reps K A H d v):Reps K A' H' d v:=r.go (x.go hs)
def RepKs.ext (x:Ext A A' μ μ' H H') (hs:∀ a∈μ,a∈A) {d:List (PyData×PyData)} {v:List (Key×V)} (r:RepKs K A H d v):RepKs K A' H' d v:=r.go (x.go hs)
def CellOk.some {a:Addr} {c:Cell} (k:CellOk K A μ H a c):∃ o,H a=some o:=by
 cases c with
 | l xs=>obtain ⟨vs,q,_⟩:=k;exact ⟨_,q⟩
 | k kvs=>obtain ⟨vs,q,_⟩:=k;exact ⟨_,q⟩
 | t P pos q=>obtain ⟨rfl,vs,q,_⟩:=k;exact ⟨_,q⟩
 | o C fs=>obtain ⟨dx,vs,q,_⟩:=k;exact ⟨_,q⟩
 | r is=>obtain ⟨vs,q,_⟩:=k;exact ⟨_,q⟩
def Ext.look (x:Ext A A' μ μ' H H') (i:Nat) (a:Addr) (e:μ[i]?=some a):μ'[i]?=some a:=by
 obtain ⟨ν,e1,_⟩:=x.pre;rw [e1,List.getElem?_append_left (List.getElem?_eq_some_iff.mp e).1];exact e
def CellOk.ext (x:Ext A A' μ μ' H H') (hs:∀ a∈μ,a∈A) {a:Addr} {c:Cell} (k:CellOk K A μ H a c) (e:H' a=H a):CellOk K A' μ' H' a c:=k.go (x.go hs) (fun i _ a=>x.look i a) e
def CellOk.anti {a:Addr} {c:Cell} (hs:∀ a∈A',a∈A) (hm:∀ i∈cRefs c,∀ b,μ[i]?=Option.some b->μ'[i]?=Option.some b) (k:CellOk K A μ H a c):CellOk K A' μ' H a c:=k.go (fun a o n e=>⟨fun z=>n (hs a z),e⟩) hm rfl
def RepW.ext (x:Ext A A' μ μ' H H') (hs:∀ a∈μ,a∈A) {w:W} {v:V} (r:RepW K A μ H w v):RepW K A' μ' H' w v:=by
 cases w with
 | d y=>exact Rep.ext x hs r
 | v u=>exact r
 | c i =>
  obtain ⟨a,e,z⟩:=r;obtain ⟨ν,e1,_⟩:=x.pre;refine ⟨a,?_,z⟩;rw [e1,List.getElem?_append_left (List.getElem?_eq_some_iff.mp e).1];exact e
def EnvRep.ext (x:Ext A A' μ μ' H H') (hs:∀ a∈μ,a∈A) {δ:DSt} {σ:L2.St} (r:EnvRep K A μ H δ σ):EnvRep K A' μ' H' δ σ :=
 ⟨r.len,fun i w e=>by
  obtain ⟨v,e1,r1⟩:=r.val i w e;exact ⟨v,e1,r1.ext x hs⟩⟩
def EnvRep.set {δ:DSt} {σ:L2.St} {w:W} {v:V} (r:EnvRep K A μ H δ σ) (i:Nat) (rw':RepW K A μ H w v):EnvRep K A μ H (δ.set i (some w)) (σ.set i (some v)):=by
 refine ⟨by rw [List.length_set,List.length_set];exact r.len,fun j u e=>?_⟩
 by_cases hj:i=j
 ·subst hj;have hi:i < δ.length:=by
   have:=(List.getElem?_eq_some_iff.mp e).1
   rwa [List.length_set] at this
  rw [List.getElem?_set_self hi] at e;cases e;exact ⟨v,List.getElem?_set_self (by rw [<- r.len];exact hi),rw'⟩
 ·rw [List.getElem?_set_ne hj] at e ⊢;exact r.val j u e
def bR {p:Addr} {o:HO} (hp:H p=none):Ext A A μ μ H (upd H p o) :=
 ⟨fun _ z=>z,fun _ z=>.inl z,⟨[],by simp,fun _ z=>(nomatch z)⟩,fun a o' _ q=>by rw [aR (aU q hp)];exact q,fun a o' q=>⟨o',by rw [aR (aU q hp)];exact q⟩⟩
def HeapRep.fresh {p:Addr} {o:HO} (R:HeapRep K A μ h H) (hp:H p=none):HeapRep K A μ h (upd H p o) :=
 ⟨R.len,R.nd,R.sub,fun a z=>by
  obtain ⟨o',q⟩:=R.trk a z;exact ⟨o',by rw [aR (aU q hp)];exact q⟩,fun i a c e1 e2=>by
  have k:=R.cel i a c e1 e2;obtain ⟨o',q⟩:=k.some;exact k.ext (bR (μ:=μ) hp) R.sub (aR (aU q hp))⟩
def HeapRep.notA {p:Addr} (R:HeapRep K A μ h H) (hp:H p=none):p∉A:=fun z=>by
 obtain ⟨o,q⟩:=R.trk p z;rw [hp] at q;cases q
def fD {p:Addr} {xs:List PyData} {vs:List V} (R:HeapRep K A μ h H) (hp:H p=none) (r:Reps K A H xs vs):Rep K A (upd H p (.tup vs)) (.tuple xs) (.ref p):=by
 rw [Rep];exact ⟨p,vs,rfl,.inl ⟨R.notA hp,.inl bH⟩,r.ext (bR (μ:=μ) hp) R.sub⟩
def cC {p:Addr} {o:HO} (hp:H p=none):Ext A (p::A) μ (μ++[p]) H (upd H p o) :=
 ⟨fun _ z=>List.mem_cons_of_mem _ z,fun a z=>(List.mem_cons.mp z).elim (fun e=>.inr (by rw [e];exact hp)) .inl,⟨[p],rfl,fun a z=>by rw [List.mem_singleton.mp z];exact hp⟩,
  fun a o' _ q=>by rw [aR (aU q hp)];exact q,fun a o' q=>⟨o',by rw [aR (aU q hp)];exact q⟩⟩
def nQ {p:Addr} {o:HO} {c:Cell} (R:HeapRep K A μ h H) (hp:H p=none) (hc:CellOk K (p::A) (μ++[p]) (upd H p o) p c):HeapRep K (p::A) (μ++[p]) (h++[c]) (upd H p o):=by
 have nA:=R.notA hp;have X:Ext A (p::A) μ (μ++[p]) H (upd H p o):=cC hp;refine ⟨by rw [List.length_append,List.length_append,R.len];rfl,?_,fun a z=>?_,fun a z=>?_,fun i a ys e1 e2=>?_⟩
 ·rw [List.nodup_append];refine ⟨R.nd,(by simp),fun a ha b hb=>?_⟩;rw [List.mem_singleton.mp hb];rintro rfl;exact nA (R.sub _ ha)
 ·rcases List.mem_append.mp z with z | z
  ·exact List.mem_cons_of_mem _ (R.sub a z)
  ·rw [List.mem_singleton.mp z];exact List.mem_cons_self
 ·rcases List.mem_cons.mp z with e | z
  ·subst e;exact ⟨_,bH⟩
  ·obtain ⟨o',q⟩:=R.trk a z;exact ⟨o',by rw [aR (aU q hp)];exact q⟩
 ·by_cases hi:i < μ.length
  ·rw [List.getElem?_append_left hi] at e1;rw [List.getElem?_append_left (by rw [<- R.len];exact hi)] at e2;have k:=R.cel i a ys e1 e2;obtain ⟨o',q⟩:=k.some;exact k.ext X R.sub (aR (aU q hp))
  ·have hle:μ.length<=i:=Nat.le_of_not_lt hi;rw [List.getElem?_append_right hle] at e1;rw [List.getElem?_append_right (by rw [<- R.len];exact hle),<- R.len] at e2;have hz:i - μ.length=0:=by
    have:=(List.getElem?_eq_some_iff.mp e1).1;simp at this;omega
   rw [hz] at e1 e2;simp at e1 e2;subst e1 e2;exact hc
def dX {p:Addr} {xs:List PyData} {vs:List V} (R:HeapRep K A μ h H) (hp:H p=none) (r:Reps K A H xs vs):HeapRep K (p::A) (μ++[p]) (h++[(Cell.l xs)]) (upd H p (.lst vs))/\aN4 h :=
 ⟨nQ R hp ⟨vs,bH,r.ext (cC (μ:=μ) hp) R.sub⟩,R.refs⟩
def xD {p:Addr} {xs:List (PyData×PyData)} {vs:List (Key×V)} (R:HeapRep K A μ h H) (hp:H p=none) (r:RepKs K A H xs vs):HeapRep K (p::A) (μ++[p]) (h++[(Cell.k xs)]) (upd H p (.dK vs)) :=
 nQ R hp ⟨vs,bH,r.ext (cC (μ:=μ) hp) R.sub⟩
def Rep.upd {p:Addr} {o:HO} (hp:p∈A) {d:PyData} {v:V} (r:Rep K A H d v):Rep K A (L2.upd H p o) d v:=r.go fun a o' ha q=>⟨ha,by rw [aR (fun e=>ha (by rw [e];exact hp))];exact q⟩
def Reps.upd {p:Addr} {o:HO} (hp:p∈A) {d:List PyData} {v:List V} (r:Reps K A H d v):Reps K A (L2.upd H p o) d v:=r.go fun a o' ha q=>⟨ha,by rw [aR (fun e=>ha (by rw [e];exact hp))];exact q⟩
def RepKs.upd {p:Addr} {o:HO} (hp:p∈A) {d:List (PyData×PyData)} {v:List (Key×V)} (r:RepKs K A H d v):RepKs K A (L2.upd H p o) d v:=r.go fun a o' ha q=>⟨ha,by rw [aR (fun e=>ha (by rw [e];exact hp))];exact q⟩
def CellOk.upd {p a:Addr} {o:HO} {c:Cell} (hp:p∈A) (ne:a≠p) (k:CellOk K A μ H a c):CellOk K A μ (L2.upd H p o) a c:=k.go (fun b o hb e=>⟨hb,by rw [aR (fun z=>hb (by rw [z];exact hp))];exact e⟩) (fun _ _ _ e=>e) (aR ne)
def gE {p:Addr} {o o0:HO} (hp:p∈μ) (h0:H p=some o0):Ext A A μ μ H (upd H p o) :=
 ⟨fun _ z=>z,fun _ z=>.inl z,⟨[],by simp,fun _ z=>(nomatch z)⟩,fun a o' ha q=>by rw [aR (fun e=>ha (by rw [e];exact hp))];exact q,fun a o' q=>by
  by_cases e:a=p
  ·subst e;exact ⟨_,bH⟩
  ·exact ⟨o',by rw [aR e];exact q⟩⟩
def lM {p:Addr} {i:Nat} {o:HO} {c:Cell} (R:HeapRep K A μ h H) (hp:μ[i]?=some p) (hc:CellOk K A μ (upd H p o) p c):HeapRep K A μ (h.set i c) (upd H p o):=by
 have hm:p∈μ:=List.mem_of_getElem? hp;have hA:=R.sub p hm;refine ⟨by rw [List.length_set];exact R.len,R.nd,R.sub,fun a z=>?_,fun j a ys e1 e2=>?_⟩
 ·by_cases e:a=p
  ·subst e;exact ⟨_,bH⟩
  ·obtain ⟨o',q⟩:=R.trk a z;exact ⟨o',by rw [aR e];exact q⟩
 ·by_cases hj:i=j
  ·subst hj;rw [hp] at e1;cases e1;have hi:i < h.length:=by rw [<- R.len];exact (List.getElem?_eq_some_iff.mp hp).1
   rw [List.getElem?_set_self hi] at e2;cases e2;exact hc
  ·rw [List.getElem?_set_ne hj] at e2;have ne:a≠p:=fun e=>by
    subst e;have h1:=List.getElem?_eq_some_iff.mp e1;have h2:=List.getElem?_eq_some_iff.mp hp;exact hj ((List.getElem_inj R.nd).mp (h2.2.trans h1.2.symm))
   exact (R.cel j a ys e1 e2).upd hA ne
def gL {p:Addr} {i:Nat} {xs:List PyData} {vs:List V} (R:HeapRep K A μ h H) (hp:μ[i]?=some p) (r:Reps K A H xs vs):HeapRep K A μ (h.set i (Cell.l xs)) (upd H p (.lst vs)) :=
 lM R hp ⟨vs,bH,r.upd (R.sub p (List.mem_of_getElem? hp))⟩
def uQ {p:Addr} {i:Nat} {xs:List (PyData×PyData)} {vs:List (Key×V)} (R:HeapRep K A μ h H) (hp:μ[i]?=some p) (r:RepKs K A H xs vs):HeapRep K A μ (h.set i (Cell.k xs)) (upd H p (.dK vs)) :=
 lM R hp ⟨vs,bH,r.upd (R.sub p (List.mem_of_getElem? hp))⟩
def xE {p:Addr} {o:HO} (R:HeapRep K A μ h H) (hA:p∈A) (hn:p∉μ):HeapRep K A μ h (upd H p o):=by
 refine ⟨R.len,R.nd,R.sub,fun a z=>?_,fun j a ys e1 e2=>?_⟩
 ·by_cases e:a=p
  ·subst e;exact ⟨_,bH⟩
  ·obtain ⟨o',q⟩:=R.trk a z;exact ⟨o',by rw [aR e];exact q⟩
 ·exact (R.cel j a ys e1 e2).upd hA fun e=>hn (by rw [<- e];exact List.mem_of_getElem? e1)
def iA {p:Addr} {xs:List PyData} (R:HeapRep K A (μ++[p]) (h++[(Cell.l xs)]) H) (hr:aN4 h):HeapRep K (A.filter fun a=>decide (a≠p)) μ h H/\Rep K (A.filter fun a=>decide (a≠p)) H (.list xs) (.ref p):=by
 have hl:μ.length=h.length:=by
  have:=R.len
  simpa using this
 have an:∀ a∈A.filter (fun a=>decide (a≠p)),a∈A:=fun a z=>(List.mem_filter.mp z).1;refine ⟨⟨hl,(List.nodup_append.mp R.nd).1,fun a z=>?_,fun a z=>R.trk a (an a z),fun i a ys e1 e2=>?_⟩,?_⟩
 ·refine List.mem_filter.mpr ⟨R.sub a (List.mem_append_left _ z),?_⟩;have:=(List.nodup_append.mp R.nd).2.2 a z p List.mem_cons_self
  simpa using this
 ·exact (R.cel i a ys (by rw [List.getElem?_append_left (List.getElem?_eq_some_iff.mp e1).1];exact e1) (by rw [List.getElem?_append_left (List.getElem?_eq_some_iff.mp e2).1];exact e2)).anti an fun j hj b eb=>by
   have hlt:j < μ.length:=by rw [hl];exact hr ys (List.mem_of_getElem? e2) j hj
   rw [List.getElem?_append_left hlt] at eb;exact eb
 ·obtain ⟨vs,q,r⟩:=R.val μ.length p xs (by simp) (by rw [hl];simp);rw [Rep];exact ⟨p,vs,rfl,.inl ⟨fun z=>by simpa using (List.mem_filter.mp z).2,.inl q⟩,r.anti an⟩
def jC {p:Addr} (R:HeapRep K A μ h H) (hp:H p=none) (x:Ext A A' μ (μ'++[p]) H H') (hm:∃ ν,μ'=μ++ν):Ext A (A'.filter fun a=>decide (a≠p)) μ μ' H H':=by
 obtain ⟨ν,e,n⟩:=x.pre;obtain ⟨ν',e'⟩:=hm;refine ⟨fun a z=>List.mem_filter.mpr ⟨x.sub a z,?_⟩,fun a z=>x.new a (List.mem_filter.mp z).1,⟨ν',e',fun a z=>n a ?_⟩,x.keep,x.trk⟩
 ·have:a≠p:=fun q=>R.notA hp (by rw [<- q];exact z)
  simpa using this
 ·rw [e',List.append_assoc] at e;rw [<- List.append_cancel_left e];exact List.mem_append_left _ z
end
def Ab (K:Frag) (A μ:List Addr) (δ:DSt) (h:aA) (σ:L2.St) (H:Hp):Prop:=HeapRep K A μ h H/\EnvRep K A μ H δ σ
def up (K:Frag) (t:DTE):TE:=fun σ H Q=>∃ (δ:DSt) (h:aA) (A μ:List Addr) (k:DK),Ab K A μ δ h σ H/\t δ h k /\
 ∀ w h' v H' A' μ',k w h'->Ext A A' μ μ' H H'->HeapRep K A' μ' h' H'->RepW K A' μ' H' w v->Q v H'
def upT (K:Frag) (t:DTT):TT:=fun σ H Q=>∃ (δ:DSt) (h:aA) (A μ:List Addr) (k:Bool->aA->Prop),Ab K A μ δ h σ H/\t δ h k /\
 ∀ b h' H' A' μ',k b h'->Ext A A' μ μ' H H'->HeapRep K A' μ' h' H'->Q b H'
noncomputable def iB (K:Frag) (A μ:List Addr) (H:Hp):List W->List V->Prop
 | [],vs=>vs=[]
 | w::ws,vs=>∃ v r,vs=v::r/\RepW K A μ H w v/\iB K A μ H ws r
def upA (K:Frag) (t:DTA):TA:=fun σ H Q=>∃ (δ:DSt) (h:aA) (A μ:List Addr) (k:List W->aA->Prop),Ab K A μ δ h σ H/\t δ h k /\
 ∀ ws h' vs H' A' μ',k ws h'->Ext A A' μ μ' H H'->HeapRep K A' μ' h' H'->iB K A' μ' H' ws vs->Q vs H'
def upF (K:Frag) (t:DTF):TE:=fun σ H Q=>∃ (δ:DSt) (h:aA) (A μ:List Addr) (k:List PyData->aA->Prop),Ab K A μ δ h σ H/\t δ h k /\
 ∀ xs h' a H' A' μ',k xs h'->Ext A A' μ (μ'++[a]) H H'->(∃ ν,μ'=μ++ν)->H a=none->HeapRep K A' (μ'++[a]) (h'++[(Cell.l xs)]) H'/\aN4 h'->Q (.ref a) H'
def DE (X:Cx) (e:Expr) (t:DTE):Prop:=PE X e (up X.K t)
def DT (X:Cx) (e:Expr) (t:DTT):Prop:=PT X e (upT X.K t)
def DW (X:Cx) (e:Expr) (t:DTT):Prop:=PW X e (upT X.K t)
def DA (X:Cx) (es:List Expr) (t:DTA):Prop:=PA X es (upA X.K t)
def DF (X:Cx) (e:Expr) (t:DTF):Prop:=PE X e (upF X.K t)
def aI {X:Cx} {e:Expr} {t t':TE} (h:PE X e t) (m:∀ σ H Q,t' σ H Q->t σ H Q):PE X e t':=fun pins s σ H Q I q=>h pins s σ H Q I (m σ H Q q)
def iR {X:Cx} {e:Expr} {t t':TT} (h:PT X e t) (m:∀ σ H Q,t' σ H Q->t σ H Q):PT X e t':=fun pins s σ H Q I q=>h pins s σ H Q I (m σ H Q q)
def sL {X:Cx} {e:Expr} {t t':TT} (h:PW X e t) (m:∀ σ H Q,t' σ H Q->t σ H Q):PW X e t':=fun wh pins s σ H Q I q=>h wh pins s σ H Q I (m σ H Q q)
def sN {X:Cx} {e:List Expr} {t t':TA} (h:PA X e t) (m:∀ σ H Q,t' σ H Q->t σ H Q):PA X e t':=fun pos pins s σ H Q I q=>h pos pins s σ H Q I (m σ H Q q)
def bN {X:Cx} {e:Stmt} {t t':TS} (h:PS X e t) (m:∀ D σ H,t' D σ H->t D σ H):PS X e t':=fun pins s σ H D I q=>h pins s σ H D I (m D σ H q)
def jQ {X:Cx} {e:List Stmt} {t t':TS} (h:PSs X e t) (m:∀ D σ H,t' D σ H->t D σ H):PSs X e t':=fun pins s σ H D I q=>h pins s σ H D I (m D σ H q)
section
variable {X:Cx} {a b e:Expr} {es:List Expr} {pos:Pos} {ta tb te:DTE} {tc tA tB:DTT} {t:DTA} {tf tg:DTF}
def sO (i:Nat):DTE:=fun δ h Q=>match δ[i]? with
 | some (some w)=>Q w h
 | _=>False
def dv (i:Nat) {x:Str} (hN:autoParam (X.N[i]?=some x) ZR) (hv:Vis X.env.scope x:=by first | exact Or.inl rfl | exact Or.inr (Or.inl rfl) | exact Or.inr (Or.inr rfl)) (hd:autoParam ((x==("__debug__":Str))=false) ZD)
  (hcd:autoParam ((x==("__classdict__":Str))=false) ZD):DE X (.Name x pos) (sO i):=aI (nD hN hv hd hcd) fun σ H Q h=>by
 obtain ⟨δ,h,A,μ,k,⟨R,E⟩,q,c⟩:=h;unfold sO at q;cases e1:δ[i]? with
 | none=>rw [e1] at q;exact q.elim
 | some o =>
  rw [e1] at q;cases o with
  | none=>exact q.elim
  | some w =>
   obtain ⟨v,e2,r⟩:=E.val i w e1;exact ⟨v,e2,c w h v H A μ q .refl R r⟩
def dC (x:PyData):DTE:=fun _ h Q=>Q (.d x) h
def iC {x:PyData} {v:V} (r:∀ A H,Rep X.K A H x v) (he:PE X e (tC v)):DE X e (dC x):=aI he fun σ H Q h=>by
 obtain ⟨δ,h,A,μ,k,⟨R,E⟩,q,c⟩:=h;exact c _ h v H A μ q .refl R (r A H)
def aN5 {i:Int} {j}:DE X (.Constant (.int i) j pos) (dC (.int i)):=iC (fun _ _=>by rw [Rep]) wT
def cS9 {b:Bool} {j}:DE X (.Constant (.bool b) j pos) (dC (.bool b)):=iC (fun _ _=>by rw [Rep]) bP7
def cA4 {j}:DE X (.Constant .none j pos) (dC .none):=iC (fun _ _=>by rw [Rep]) bW9
def aN6 {x:Str} {j} (hx:PyData.strOk x=true:=by decide +kernel):DE X (.Constant (.str x) j pos) (dC (.str x)):=iC (fun _ _=>by rw [Rep];exact ⟨rfl,hx⟩) bX0
def bD7 {x:Str} {v:V} {u:Value} {d:PyData} (hm:X.mg x=some u) (rv:RelV v u) (r:∀ A H,Rep X.K A H d v) (hg:autoParam (Gl X x) ZR) (hd:autoParam ((x==("__debug__":Str))=false) ZD):DE X (.Name x pos) (dC d) :=
 iC r (dP hg hm rv hd)
def bD8 (t:DTF):DTE:=fun δ h Q=>t δ h fun xs h1=>Q (.d (.list xs)) h1
def cA5 (t:DTF):DTE:=fun δ h Q=>t δ h fun xs h1=>Q (.c h1.length) (h1++[(Cell.l xs)])
def sP (h:DF X e tf):DE X e (bD8 tf):=aI h fun σ H Q q=>by
 obtain ⟨δ,h,A,μ,k,R,q,c⟩:=q;refine ⟨δ,h,A,μ,_,R,q,fun xs h' p H' A' μ' kk x hm hp R'=>?_⟩;obtain ⟨R1,r1⟩:=iA R'.1 R'.2;exact c _ h' _ H' _ μ' kk (jC R.1 hp x hm) R1 r1
def cA6 (h:DF X e tf):DE X e (cA5 tf):=aI h fun σ H Q q=>by
 obtain ⟨δ,h,A,μ,k,R,q,c⟩:=q;refine ⟨δ,h,A,μ,_,R,q,fun xs h' p H' A' μ' kk x hm hp R'=>?_⟩;have hl:μ'.length=h'.length:=by simpa using R'.1.len
 exact c _ _ _ H' A' (μ'++[p]) kk x R'.1 ⟨p,by rw [<- hl];simp,rfl⟩
def pL:DTA:=fun _ h Q=>Q [] h
def nR (te:DTE) (t:DTA):DTA:=fun δ h Q=>te δ h fun w h1=>t δ h1 fun ws h2=>Q (w::ws) h2
def cK:DA X [] pL:=sN nG fun σ H Q q=>by
 obtain ⟨δ,h,A,μ,k,R,q,c⟩:=q;exact c [] h [] H A μ q .refl R.1 rfl
def aY (ha:DE X e te) (hr:DA X es t) (hs:autoParam (starEach (e::es) X.env=(false,eval e X.env)::starEach es X.env) ZR):DA X (e::es) (nR te t):=sN (iQ ha hr hs) fun σ H Q q=>by
 obtain ⟨δ,h,A,μ,k,R,q,c⟩:=q;refine ⟨δ,h,A,μ,_,R,q,fun w h1 v H1 A1 μ1 q1 x1 R1 r1=>?_⟩;refine ⟨δ,h1,A1,μ1,_,⟨R1,R.2.ext x1 R.1.sub⟩,q1,fun ws h2 vs H2 A2 μ2 q2 x2 R2 r2=>?_⟩;exact c _ h2 _ H2 A2 μ2 q2 (x1.trans x2) R2 ⟨v,vs,rfl,r1.ext x2 R1.sub,r2⟩
noncomputable def dQ:List W->Option (List PyData)
 | []=>some []
 | .d x::r=>(dQ r).map (x::·)
 | .c _::_=>none
 | .v _::_=>none
theorem iE {K:Frag} {A μ:List Addr} {H:Hp}:∀ {ws:List W} {xs:List PyData} {vs:List V},dQ ws=some xs->iB K A μ H ws vs->Reps K A H xs vs
 | [],_,_,e,h=>by cases e;subst h;exact .nil
 | .c _::_,_,_,e,_=>by cases e
 | .v _::_,_,_,e,_=>by cases e
 | .d x::r,xs,_,e,h=>by
  obtain ⟨v,vs,rfl,h1,h2⟩:=h;unfold dQ at e;cases q:dQ r with
  | none=>rw [q] at e;cases e
  | some ys =>
   rw [q] at e;have e':x::ys=xs:=Option.some.inj e;subst e';exact .cons h1 (iE q h2)
def dN5 (t:DTA):DTE:=fun δ h Q=>t δ h fun ws h1=>match dQ ws with
 | some xs=>xs.length<=sizeLine/\Q (.d (.tuple xs)) h1
 | none=>False
def cT0 (t:DTA):DTF:=fun δ h Q=>t δ h fun ws h1=>match dQ ws with
 | some xs=>xs.length<=sizeLine/\Q xs h1
 | none=>False
def cA7 {k} (h:DA X es t):DE X (.Tuple es k pos) (dN5 t):=aI (aM0 h) fun σ H Q q=>by
 obtain ⟨δ,h,A,μ,k,R,q,c⟩:=q;refine ⟨δ,h,A,μ,_,R,q,fun ws h1 vs H1 A1 μ1 q1 x1 R1 r1=>?_⟩;cases e:dQ ws with
 | none=>rw [e] at q1;exact q1.elim
 | some xs =>
  rw [e] at q1;have rr:=iE e r1;refine ⟨by rw [rr.length];exact q1.1,fun p hp=>?_⟩;exact c _ h1 _ _ A1 μ1 q1.2 (x1.trans (bR hp)) (R1.fresh hp) (fD R1 hp rr)
def xF (h:DA X es t):DF X (.List es pos) (cT0 t):=aI (bZ6 h) fun σ H Q q=>by
 obtain ⟨δ,h,A,μ,k,R,q,c⟩:=q;refine ⟨δ,h,A,μ,_,R,q,fun ws h1 vs H1 A1 μ1 q1 x1 R1 r1=>?_⟩;cases e:dQ ws with
 | none=>rw [e] at q1;exact q1.elim
 | some xs =>
  rw [e] at q1;have rr:=iE e r1;refine ⟨by rw [rr.length];exact q1.1,fun p hp=>?_⟩;obtain ⟨ν,e1,_⟩:=x1.pre;exact c xs h1 p _ (p::A1) μ1 q1.2 (x1.trans (cC hp)) ⟨ν,e1⟩ (x1.back hp) (dX R1 hp rr)
abbrev D2:=W->W->aA->DK->Prop
noncomputable def upR (K:Frag) (r:D2):R2:=fun x y H Q=>∃ (u w:W) (h:aA) (A μ:List Addr) (k:DK),HeapRep K A μ h H/\RepW K A μ H u x/\RepW K A μ H w y/\r u w h k /\
 ∀ w h' v H' A' μ',k w h'->Ext A A' μ μ' H H'->HeapRep K A' μ' h' H'->RepW K A' μ' H' w v->Q v H'
def dOp (r:D2) (ta tb:DTE):DTE:=fun δ h Q=>ta δ h fun x h1=>tb δ h1 fun y h2=>r x y h2 Q
def uR {K:Frag} {r:D2} {σ:L2.St} {H:Hp} {Q:VK} (q:up K (dOp r ta tb) σ H Q):tOp (upR K r) (up K ta) (up K tb) σ H Q:=by
 obtain ⟨δ,h,A,μ,k,R,q,c⟩:=q;refine ⟨δ,h,A,μ,_,R,q,fun u h1 v H1 A1 μ1 q1 x1 R1 r1=>?_⟩;refine ⟨δ,h1,A1,μ1,_,⟨R1,R.2.ext x1 R.1.sub⟩,q1,fun w h2 v2 H2 A2 μ2 q2 x2 R2 r2=>?_⟩;exact ⟨u,w,h2,A2,μ2,k,R2,r1.ext x2 R1.sub,r2,q2,fun z h3 v3 H3 A3 μ3 q3 x3 R3 r3=>c z h3 v3 H3 A3 μ3 q3 ((x1.trans x2).trans x3) R3 r3⟩
def bQ5 {op:Operator} {r:D2} (ho:OpR X (binaryOp op) (upR X.K r)) (ha:DE X a ta) (hb:DE X b tb):DE X (.BinOp a op b pos) (dOp r ta tb):=aI (aL7 ho ha hb) fun _ _ _ q=>uR q
def cA8 {op:CmpOp} {r:D2} (ho:OpR X (compareOp op) (upR X.K r)) (ha:DE X a ta) (hb:DE X b tb) (hm:behindInMarks op b=false:=by first | exact nobehind _ (by decide) (by decide) | rfl):DE X (.Compare a [op] [b] pos) (dOp r ta tb) :=
 aI (zB ho ha hb hm) fun _ _ _ q=>uR q
def dB (t:DTE):DTT:=fun δ h Q=>t δ h fun w h1=>match w with
 | .d (.bool b)=>Q b h1
 | _=>False
def mO {K:Frag} {σ:L2.St} {H:Hp} {Q:Bool->Hp->Prop} {t:DTE} (q:upT K (dB t) σ H Q):up K t σ H fun x H'=>∃ c,x=.bl c/\Q c H':=by
 obtain ⟨δ,h,A,μ,k,R,q,c⟩:=q;refine ⟨δ,h,A,μ,_,R,q,fun w h1 v H1 A1 μ1 q1 x1 R1 r1=>?_⟩;cases w with
 | c i=>exact q1.elim
 | v u=>exact q1.elim
 | d x =>
  cases x with
  | bool b =>
   have e:v=.bl b:=by
    have z:Rep K A1 H1 (.bool b) v:=r1;rw [Rep] at z;exact z
   exact ⟨b,e,c b h1 H1 A1 μ1 q1 x1 R1⟩
  | _=>exact q1.elim
def aN7 (h:DE X e te) (he:autoParam (∀ whole,isTrue e X.env whole=(do let v <- whole;standAt e.pos;holding [v] (truthy v))) ZI):DT X e (dB te):=iR (bX1 h he) fun _ _ _ q=>mO q
def cA9 {op:CmpOp} {r:D2} (ho:OpR X (compareOp op) (upR X.K r)) (ha:DE X a ta) (hb:DE X b tb) (hm:behindInMarks op b=false:=by first | exact nobehind _ (by decide) (by decide) | rfl):DT X (.Compare a [op] [b] pos) (dB (dOp r ta tb)) :=
 iR (mM ho ha hb hm) fun σ H Q q=>by
  obtain ⟨δ,h,A,μ,k,R,q1,c⟩:=mO q;exact uR ⟨δ,h,A,μ,k,R,q1,c⟩
def cT1 (t:DTT):DTT:=fun δ h Q=>t δ h fun b h1=>Q (!b) h1
def dN6 (t u:DTT):DTT:=fun δ h Q=>t δ h fun b h1=>if b=true then u δ h1 Q else Q false h1
def dOr (t u:DTT):DTT:=fun δ h Q=>t δ h fun b h1=>if b=true then Q true h1 else u δ h1 Q
def aN8 (h:DT X e tc):DT X (.UnaryOp .Not e pos) (cT1 tc):=iR (bX4 h) fun σ H Q q=>by
 obtain ⟨δ,h,A,μ,k,R,q,c⟩:=q;exact ⟨δ,h,A,μ,_,R,q,fun b h' H' A' μ' k'=>c (!b) h' H' A' μ' k'⟩
def DW.dt (h:DW X e tc):DT X e tc:=h _
def bD9 (h:DT X a tc):DW X (.BoolOp .And [a] pos) tc:=bB0 h
def cB0 (h:DT X a tc):DW X (.BoolOp .Or [a] pos) tc:=bX2 h
def cB1 (ha:DT X a tA) (hb:DW X (.BoolOp .And (b::es) pos) tB):DW X (.BoolOp .And (a::b::es) pos) (dN6 tA tB):=sL (bX3 ha hb) fun σ H Q q=>by
 obtain ⟨δ,h,A,μ,k,R,q,c⟩:=q;refine ⟨δ,h,A,μ,_,R,q,fun b h1 H1 A1 μ1 q1 x1 R1=>?_⟩;cases b with
 | true =>
  rw [if_pos rfl] at q1;rw [if_pos rfl];exact ⟨δ,h1,A1,μ1,k,⟨R1,R.2.ext x1 R.1.sub⟩,q1,fun b h2 H2 A2 μ2 q2 x2 R2=>c b h2 H2 A2 μ2 q2 (x1.trans x2) R2⟩
 | false =>
  rw [if_neg Bool.false_ne_true] at q1;rw [if_neg Bool.false_ne_true];exact c false h1 H1 A1 μ1 q1 x1 R1
def cT2 (ha:DT X a tA) (hb:DW X (.BoolOp .Or (b::es) pos) tB):DW X (.BoolOp .Or (a::b::es) pos) (dOr tA tB):=sL (cR2 ha hb) fun σ H Q q=>by
 obtain ⟨δ,h,A,μ,k,R,q,c⟩:=q;refine ⟨δ,h,A,μ,_,R,q,fun b h1 H1 A1 μ1 q1 x1 R1=>?_⟩;cases b with
 | false =>
  rw [if_neg Bool.false_ne_true] at q1;rw [if_neg Bool.false_ne_true];exact ⟨δ,h1,A1,μ1,k,⟨R1,R.2.ext x1 R.1.sub⟩,q1,fun b h2 H2 A2 μ2 q2 x2 R2=>c b h2 H2 A2 μ2 q2 (x1.trans x2) R2⟩
 | true =>
  rw [if_pos rfl] at q1;rw [if_pos rfl];exact c true h1 H1 A1 μ1 q1 x1 R1
def bQ6 (ta tb:DTE):DTE:=fun δ h Q=>ta δ h fun w h1=>match w with
 | .d (.bool b)=>if b=true then tb δ h1 Q else Q (.d (.bool false)) h1
 | _=>False
def dN7 (ta tb:DTE):DTE:=fun δ h Q=>ta δ h fun w h1=>match w with
 | .d (.bool b)=>if b=true then Q (.d (.bool true)) h1 else tb δ h1 Q
 | _=>False
def bQ7 (ta:DTE):DTE:=fun δ h Q=>ta δ h fun w h1=>match w with
 | .d (.bool b)=>Q (.d (.bool (!b))) h1
 | _=>False
def fE {K:Frag} {A μ:List Addr} {H:Hp} {b:Bool} {v:V} (r:RepW K A μ H (.d (.bool b)) v):v=.bl b:=by
 have z:Rep K A H (.bool b) v:=r;rw [Rep] at z;exact z
def bB {K:Frag} {A μ:List Addr} {H:Hp} {b:Bool}:RepW K A μ H (.d (.bool b)) (.bl b):=by
 show Rep K A H (.bool b) (.bl b);rw [Rep]
def bD {K:Frag} {A μ:List Addr} {H:Hp} {b:Int} {v:V} (r:RepW K A μ H (.d (.int b)) v):v=.int b:=by
 have z:Rep K A H (.int b) v:=r;rw [Rep] at z;exact z
def nT {K:Frag} {A μ:List Addr} {H:Hp} {b:Int}:RepW K A μ H (.d (.int b)) (.int b):=by
 show Rep K A H (.int b) (.int b);rw [Rep]
def xG {op} (h:DE X a te):DE X (.BoolOp op [a] pos) te:=bX5 h
def xH (ha:DE X a ta) (hb:DE X (.BoolOp .And (b::es) pos) tb):DE X (.BoolOp .And (a::b::es) pos) (bQ6 ta tb):=aI (bX6 ha hb) fun σ H Q q=>by
 obtain ⟨δ,h,A,μ,k,R,q,c⟩:=q;refine ⟨δ,h,A,μ,_,R,q,fun w h1 v H1 A1 μ1 q1 x1 R1 r1=>?_⟩;cases w with
 | c i=>exact q1.elim
 | v u=>exact q1.elim
 | d x =>
  cases x with
  | bool b =>
   refine ⟨b,fE r1,?_⟩;cases b with
   | true=>exact ⟨δ,h1,A1,μ1,k,⟨R1,R.2.ext x1 R.1.sub⟩,q1,fun w h2 v H2 A2 μ2 q2 x2 R2 r2=>c w h2 v H2 A2 μ2 q2 (x1.trans x2) R2 r2⟩
   | false=>exact c _ h1 _ H1 A1 μ1 q1 x1 R1 bB
  | _=>exact q1.elim
def cT3 (ha:DE X a ta) (hb:DE X (.BoolOp .Or (b::es) pos) tb):DE X (.BoolOp .Or (a::b::es) pos) (dN7 ta tb):=aI (cR5 ha hb) fun σ H Q q=>by
 obtain ⟨δ,h,A,μ,k,R,q,c⟩:=q;refine ⟨δ,h,A,μ,_,R,q,fun w h1 v H1 A1 μ1 q1 x1 R1 r1=>?_⟩;cases w with
 | c i=>exact q1.elim
 | v u=>exact q1.elim
 | d x =>
  cases x with
  | bool b =>
   refine ⟨b,fE r1,?_⟩;cases b with
   | false=>exact ⟨δ,h1,A1,μ1,k,⟨R1,R.2.ext x1 R.1.sub⟩,q1,fun w h2 v H2 A2 μ2 q2 x2 R2 r2=>c w h2 v H2 A2 μ2 q2 (x1.trans x2) R2 r2⟩
   | true=>exact c _ h1 _ H1 A1 μ1 q1 x1 R1 bB
  | _=>exact q1.elim
def aN9 (ha:DE X a ta):DE X (.UnaryOp .Not a pos) (bQ7 ta):=aI (bX7 ha) fun σ H Q q=>by
 obtain ⟨δ,h,A,μ,k,R,q,c⟩:=q;refine ⟨δ,h,A,μ,_,R,q,fun w h1 v H1 A1 μ1 q1 x1 R1 r1=>?_⟩;cases w with
 | c i=>exact q1.elim
 | v u=>exact q1.elim
 | d x =>
  cases x with
  | bool b=>exact ⟨b,fE r1,c _ h1 _ H1 A1 μ1 q1 x1 R1 bB⟩
  | _=>exact q1.elim
def dIf (t:DTT) (ta tb:DTE):DTE:=fun δ h Q=>t δ h fun b h1=>if b=true then ta δ h1 Q else tb δ h1 Q
def aO0 {c:Expr} (hc:DT X c tc) (ha:DE X a ta) (hb:DE X b tb):DE X (.IfExp c a b pos) (dIf tc ta tb):=aI (aL2 hc ha hb) fun σ H Q q=>by
 obtain ⟨δ,h,A,μ,k,R,q,c⟩:=q;refine ⟨δ,h,A,μ,_,R,q,fun b h1 H1 A1 μ1 q1 x1 R1=>?_⟩;cases b with
 | true=>exact ⟨δ,h1,A1,μ1,k,⟨R1,R.2.ext x1 R.1.sub⟩,q1,fun w h2 v H2 A2 μ2 q2 x2 R2 r2=>c w h2 v H2 A2 μ2 q2 (x1.trans x2) R2 r2⟩
 | false=>exact ⟨δ,h1,A1,μ1,k,⟨R1,R.2.ext x1 R.1.sub⟩,q1,fun w h2 v H2 A2 μ2 q2 x2 R2 r2=>c w h2 v H2 A2 μ2 q2 (x1.trans x2) R2 r2⟩
end
noncomputable def ref (h:aA):W->Option PyData
 | .d x=>some x
 | .c i=>match h[i]? with
  | some (.l xs)=>some (.list xs)
  | some (.k kvs)=>some (.dict kvs)
  | _=>none
 | .v _=>none
mutual
noncomputable def See (K:Frag) (H:Hp):PyData->V->Prop
 | .none,v=>v=.non
 | .bool b,v=>v=.bl b
 | .int i,v=>v=.int i
 | .str x,v=>v=.str x
 | .list xs,v=>∃ a vs,v=.ref a/\SqL K H a vs/\Sees K H xs vs
 | .tuple xs,v=>∃ a vs,v=.ref a/\SqT K H a vs/\Sees K H xs vs
 | .dict _,_=>True
noncomputable def Sees (K:Frag) (H:Hp):List PyData->List V->Prop
 | [],vs=>vs=[]
 | x::xs,vs=>∃ v r,vs=v::r/\See K H x v/\Sees K H xs r
end
mutual
theorem Rep.see {K:Frag} {A:List Addr} {H:Hp}:∀ {d:PyData} {v:V},Rep K A H d v->See K H d v
 | .none,_,h=>by rw [Rep] at h;rw [See];exact h
 | .bool _,_,h=>by rw [Rep] at h;rw [See];exact h
 | .int _,_,h=>by rw [Rep] at h;rw [See];exact h
 | .str _,_,h=>by rw [Rep] at h;rw [See];exact h.1
 | .list xs,_,h=>by
  rw [Rep] at h;rw [See];obtain ⟨a,vs,e,h1,h2⟩:=h;exact ⟨a,vs,e,h1.sq,Reps.sees h2⟩
 | .tuple xs,_,h=>by
  rw [Rep] at h;rw [See];obtain ⟨a,vs,e,h1,h2⟩:=h;exact ⟨a,vs,e,h1.sq,Reps.sees h2⟩
 | .dict _,_,_=>by rw [See];trivial
theorem Reps.sees {K:Frag} {A:List Addr} {H:Hp}:∀ {d:List PyData} {v:List V},Reps K A H d v->Sees K H d v
 | [],_,h=>by rw [Reps] at h;rw [Sees];exact h
 | x::xs,_,h=>by
  rw [Reps] at h;rw [Sees];obtain ⟨v,r,e,h1,h2⟩:=h;exact ⟨v,r,e,Rep.see h1,Reps.sees h2⟩
end
mutual
theorem See.reads {X:Cx} {pins:List (Addr×Obj)} {σ:L2.St} {H:Hp} {s:Shared} (I:Inv X pins σ H s):∀ {d:PyData} {v:V} {u:Value},See X.K H d v->d.canLay0=true->RelV v u->∃ as,Reads s.heap u d as
 | .none,_,_,h,_,r=>by rw [See] at h;subst h;cases r;exact ⟨_,Reads.none⟩
 | .bool _,_,_,h,_,r=>by rw [See] at h;subst h;cases r;exact ⟨_,Reads.bool _⟩
 | .int _,_,_,h,_,r=>by rw [See] at h;subst h;obtain ⟨t,rfl⟩:=r;exact ⟨_,Reads.int _ _⟩
 | .str _,_,_,h,_,r=>by rw [See] at h;subst h;obtain ⟨t,rfl⟩:=r;exact ⟨_,Reads.str _ _⟩
 | .list xs,_,_,h,c,r=>by
  rw [See] at h;obtain ⟨a,vs,rfl,h1,h2⟩:=h;cases r;obtain ⟨its,rv,⟨o,n,ho,hc,_,hd⟩,_⟩:=I.list h1;rw [PyData.canLay0] at c;obtain ⟨as,z⟩:=Sees.reads I h2 c rv;exact ⟨_,Reads.list ho hc hd (by simpa using z)⟩
 | .tuple xs,_,_,h,c,r=>by
  rw [See] at h;obtain ⟨a,vs,rfl,h1,h2⟩:=h;cases r;obtain ⟨its,rv,⟨o,ho,hc,n,hd⟩,_⟩:=I.tuple h1;rw [PyData.canLay0] at c;obtain ⟨as,z⟩:=Sees.reads I h2 c rv;exact ⟨_,Reads.tuple ho hc hd (by simpa using z)⟩
 | .dict _,_,_,_,c,_=>by rw [PyData.canLay0] at c;cases c
theorem Sees.reads {X:Cx} {pins:List (Addr×Obj)} {σ:L2.St} {H:Hp} {s:Shared} (I:Inv X pins σ H s):∀ {d:List PyData} {v:List V} {u:List Value},Sees X.K H d v->PyData.canLayAll0 d=true->Vals v u->∃ as,ReadsAll s.heap u d as
 | [],_,_,h,_,r=>by rw [Sees] at h;subst h;cases r;exact ⟨_,ReadsAll.nil⟩
 | x::xs,_,_,h,c,r=>by
  rw [Sees] at h;obtain ⟨v,rr,rfl,h1,h2⟩:=h;rw [PyData.canLayAll0,Bool.and_eq_true] at c;cases r with
  | cons r1 r2 =>
   obtain ⟨as,z1⟩:=See.reads I h1 c.1 r1;obtain ⟨bs,z2⟩:=Sees.reads I h2 c.2 r2;exact ⟨_,ReadsAll.cons z1 z2⟩
end
def bO {K:Frag} {A μ:List Addr} {H:Hp} {h:aA} {w:W} {v:V} {d:PyData} (R:HeapRep K A μ h H) (r:RepW K A μ H w v) (e:ref h w=some d):See K H d v:=by
 cases w with
 | d x=>cases e;exact Rep.see r
 | v u=>cases e
 | c i =>
  obtain ⟨a,e1,rfl⟩:=r;dsimp only [DL.ref] at e;cases q:h[i]? with
  | none=>rw [q] at e;cases e
  | some cc =>
   cases cc with
   | t _ _ _=>rw [q] at e;cases e
   | o _ _=>rw [q] at e;cases e
   | r _=>rw [q] at e;cases e
   | l xs =>
    rw [q] at e;cases e;obtain ⟨vs,z1,z2⟩:=R.val i a xs e1 q;rw [See];exact ⟨a,vs,rfl,.inl (.inl z1),z2.sees⟩
   | k kvs =>
    rw [q] at e;cases e;rw [See];trivial
def bZ {K:Frag} {A μ:List Addr} {H:Hp} {h:aA} {w:W} {v:V} {xs:List PyData} (R:HeapRep K A μ h H) (r:RepW K A μ H w v) (e:ref h w=some (.list xs)):∃ a vs,v=.ref a/\SqL K H a vs/\Reps K A H xs vs:=by
 cases w with
 | d x =>
  cases e;have z:Rep K A H (.list xs) v:=r;rw [Rep] at z;obtain ⟨a,vs,e,h1,h2⟩:=z;exact ⟨a,vs,e,h1.sq,h2⟩
 | v u=>cases e
 | c i =>
  obtain ⟨a,e1,rfl⟩:=r;dsimp only [DL.ref] at e;cases q:h[i]? with
  | none=>rw [q] at e;cases e
  | some cc =>
   cases cc with
   | t _ _ _=>rw [q] at e;cases e
   | o _ _=>rw [q] at e;cases e
   | r _=>rw [q] at e;cases e
   | l ys =>
    rw [q] at e;cases e;obtain ⟨vs,z1,z2⟩:=R.val i a xs e1 q;exact ⟨a,vs,rfl,.inl (.inl z1),z2⟩
   | k kvs=>rw [q] at e;cases e
def bE {K:Frag} {A μ:List Addr} {H:Hp} {h:aA} {w:W} {v:V} {xs:List PyData} (r:RepW K A μ H w v) (e:ref h w=some (.tuple xs)):∃ a vs,v=.ref a/\TupAt K A H a vs/\Reps K A H xs vs:=by
 cases w with
 | d x =>
  cases e;have z:Rep K A H (.tuple xs) v:=r;rw [Rep] at z;exact z
 | v u=>cases e
 | c i =>
  dsimp only [DL.ref] at e;cases q:h[i]? with
  | none=>rw [q] at e;cases e
  | some cc =>
   cases cc with
   | t _ _ _=>rw [q] at e;cases e
   | o _ _=>rw [q] at e;cases e
   | r _=>rw [q] at e;cases e
   | l ys=>rw [q] at e;cases e
   | k ys=>rw [q] at e;cases e
noncomputable def cT4:D2
 | .d (.int i),.d (.int j),h,Q=>Q (.d (.int (i+j))) h
 | .d (.tuple xs),.d (.tuple ys),h,Q=>xs.length+ys.length<=sizeLine/\Q (.d (.tuple (xs++ys))) h
 | _,_,_,_=>False
noncomputable def cT5:D2
 | .d (.int i),.d (.int j),h,Q=>Q (.d (.int (i - j))) h
 | _,_,_,_=>False
noncomputable def cT6:D2
 | .d (.int i),.d (.int j),h,Q=>CMul i j/\Q (.d (.int (i*j))) h
 | _,_,_,_=>False
noncomputable def cT7:D2
 | .d (.int i),.d (.int j),h,Q=>0 < j/\Q (.d (.int (i%j))) h
 | _,_,_,_=>False
noncomputable def cT8:D2
 | .d (.int i),.d (.int j),h,Q=>bB8 i j/\Q (.d (.int (i^j.toNat))) h
 | _,_,_,_=>False
noncomputable def qL (p:Int->Int->Bool):D2
 | .d (.int i),.d (.int j),h,Q=>Q (.d (.bool (p i j))) h
 | _,_,_,_=>False
def dEq:D2:=fun x y h Q=>match ref h x,ref h y with
 | some a,some b=>SeqAt.shaped a=true/\SeqAt.shaped b=true/\Q (.d (.bool (PyData.eqv a b))) h
 | _,_=>False
def dNe:D2:=fun x y h Q=>match ref h x,ref h y with
 | some a,some b=>SeqAt.shaped a=true/\SeqAt.shaped b=true/\Q (.d (.bool (!PyData.eqv a b))) h
 | _,_=>False
section
variable {X:Cx}
def fJ {op:Value->Value->Sem Value} {f:Int->Int->PyData} {g:Int->Int->V} {C:Int->Int->Prop} {r:D2} (ho:OpR X op (rI C g)) (hf:∀ i j A H,Rep X.K A H (f i j) (g i j))
  (hr:∀ u w h k,r u w h k->∃ i j,u=.d (.int i)/\w=.d (.int j)/\C i j/\k (.d (f i j)) h):OpR X op (upR X.K r):=by
 intro pins s σ H x y v u Q I rx ry h;obtain ⟨a,b,h,A,μ,k,R,ra,rb,q,c⟩:=h;obtain ⟨i,j,rfl,rfl,hc,q⟩:=hr _ _ _ _ q;have ea:=bD ra;have eb:=bD rb;subst ea eb;exact ho pins s σ H _ _ v u Q I rx ry ⟨i,j,rfl,rfl,hc,c _ _ _ _ _ _ q .refl R (hf i j A H)⟩
def OpR.i0 {op:Value->Value->Sem Value} {g:Int->Int->V} (ho:OpR X op (rI0 g)):OpR X op (rI (fun _ _=>True) g):=fun pins s σ H x y v u Q I rx ry ⟨i,j,e1,e2,_,q⟩=>ho pins s σ H x y v u Q I rx ry ⟨i,j,e1,e2,q⟩
def jR {K:Frag} {A:List Addr} {H:Hp} {i:Int}:Rep K A H (.int i) (.int i):=by rw [Rep]
def bE0 {K:Frag} {A:List Addr} {H:Hp} {i:Bool}:Rep K A H (.bool i) (.bl i):=by rw [Rep]
def aO1:OpR X (binaryOp .Add) (fun x y H Q=>∃ a b ys,x=.ref a/\y=.ref b/\SqT X.K H a []/\SqT X.K H b ys/\Q (.ref b) H):=by
 intro pins s σ H x y v u Q I rx ry h;obtain ⟨a,b,ys,rfl,rfl,ha,hb,q⟩:=h;cases rx;cases ry;obtain ⟨its,r1,p1,_⟩:=I.tuple ha;obtain ⟨its2,r2,p2,_⟩:=I.tuple hb;have e0:its=[]:=by cases r1;rfl
 subst e0;obtain ⟨⟨cls,dd,data,sl⟩,ho,hc,n,hd⟩:=id p1;obtain ⟨⟨cls2,dd2,data2,sl2⟩,ho2,hc2,n2,hd2⟩:=id p2;simp only at hc hd hc2 hd2;subst hc hd hc2 hd2;exact concat_meets ⟨_,ho,rfl⟩ ⟨_,ho2,rfl⟩ noFill_tuple_add seq_tuple_add PySem.F.slot_tuple_add PySem.F.entry_tuple_add (PySem.F.args_tuple_add_2 _ _) (tuple_addW0 a b _ _ n n2 dd dd2 sl sl2 rfl) ⟨ho,ho2,⟨.ref b,H,I,rfl,q⟩⟩
def bE1:OpR X (binaryOp .Add) (upR X.K cT4):=by
 intro pins s σ H x y v u Q I rx ry h;obtain ⟨a,b,h,A,μ,k,R,ra,rb,q,c⟩:=h;unfold cT4 at q;split at q
 ·have ea:=bD ra;have eb:=bD rb;subst ea eb;exact bY7 pins s σ H _ _ v u Q I rx ry ⟨_,_,rfl,rfl,c _ _ _ _ _ _ q .refl R nT⟩
 ·rename_i xs ys;obtain ⟨pa,va,rfl,ta,sa⟩:=bE (h:=h) ra rfl;obtain ⟨pb,vb,rfl,tb,sb⟩:=bE (h:=h) rb rfl;have la:=sa.length;have lb:=sb.length;have all:Reps X.K A H (xs++ys) (va++vb):=sb.append sa
  by_cases e1:va=[]
  ·subst e1;have ex:xs=[]:=List.eq_nil_of_length_eq_zero la.symm;subst ex;refine aO1 pins s σ H _ _ v u Q I rx ry ⟨pa,pb,vb,rfl,rfl,ta.sq,tb.sq,c _ _ _ _ _ _ q.2 .refl R rb⟩
  ·refine bC6 pins s σ H _ _ v u Q I rx ry ⟨pa,pb,va,vb,rfl,rfl,ta.sq,tb.sq,e1,by rw [la,lb];exact q.1,fun z=>?_,fun _ p hp=>?_⟩
   ·subst z;have ey:ys=[]:=List.eq_nil_of_length_eq_zero lb.symm;subst ey;have q2:=q.2;rw [List.append_nil] at q2;exact c _ _ _ _ _ _ q2 .refl R ra
   ·exact c _ _ _ _ _ _ q.2 (bR hp) (R.fresh hp) (fD R hp all)
 ·exact q.elim
def bE2:OpR X (binaryOp .Sub) (upR X.K cT5):=fJ (f:=fun i j=>.int (i - j)) (OpR.i0 bY8) (fun _ _ _ _=>jR) fun u w h k q=>by
 unfold cT5 at q;split at q
 ·exact ⟨_,_,rfl,rfl,trivial,q⟩
 ·exact q.elim
def bE3:OpR X (binaryOp .Mult) (upR X.K cT6):=fJ (f:=fun i j=>.int (i*j)) bY9 (fun _ _ _ _=>jR) fun u w h k q=>by
 unfold cT6 at q;split at q
 ·exact ⟨_,_,rfl,rfl,q.1,q.2⟩
 ·exact q.elim
def bE4:OpR X (binaryOp .Mod) (upR X.K cT7):=fJ (f:=fun i j=>.int (i%j)) bZ0 (fun _ _ _ _=>jR) fun u w h k q=>by
 unfold cT7 at q;split at q
 ·exact ⟨_,_,rfl,rfl,q.1,q.2⟩
 ·exact q.elim
def bE5:OpR X (binaryOp .Pow) (upR X.K cT8):=fJ (f:=fun i j=>.int (i^j.toNat)) bZ1 (fun _ _ _ _=>jR) fun u w h k q=>by
 unfold cT8 at q;split at q
 ·exact ⟨_,_,rfl,rfl,q.1,q.2⟩
 ·exact q.elim
def mQ {p:Int->Int->Bool} (u w:W) (h:aA) (k:DK) (q:qL p u w h k):∃ i j,u=.d (.int i)/\w=.d (.int j)/\True/\k (.d (.bool (p i j))) h:=by
 unfold qL at q;split at q
 ·exact ⟨_,_,rfl,rfl,trivial,q⟩
 ·exact q.elim
abbrev dLt:=qL fun i j=>decide (i < j)
abbrev dLe:=qL fun i j=>decide (i<=j)
abbrev dGt:=qL fun i j=>decide (j < i)
abbrev dGe:=qL fun i j=>decide (j<=i)
def cB2:OpR X (compareOp .Lt) (upR X.K dLt):=fJ (f:=fun i j=>.bool (decide (i < j))) (OpR.i0 cS2) (fun _ _ _ _=>bE0) mQ
def cB3:OpR X (compareOp .LtE) (upR X.K dLe):=fJ (f:=fun i j=>.bool (decide (i<=j))) (OpR.i0 cS3) (fun _ _ _ _=>bE0) mQ
def cB4:OpR X (compareOp .Gt) (upR X.K dGt):=fJ (f:=fun i j=>.bool (decide (j < i))) (OpR.i0 cS4) (fun _ _ _ _=>bE0) mQ
def cB5:OpR X (compareOp .GtE) (upR X.K dGe):=fJ (f:=fun i j=>.bool (decide (j<=i))) (OpR.i0 cS5) (fun _ _ _ _=>bE0) mQ
def cB6 {n:Nat} (hr:Room n X.A):OpR X (compareOp .Eq) (upR X.K dEq):=by
 intro pins s σ H x y v u Q I rx ry h;obtain ⟨a,b,h,A,μ,k,R,ra,rb,q,c⟩:=h;unfold dEq at q;split at q
 ·rename_i da db ea eb;obtain ⟨as,z1⟩:=(bO R ra ea).reads I (SeqAt.canLay_of_shaped q.1) rx;obtain ⟨bs,z2⟩:=(bO R rb eb).reads I (SeqAt.canLay_of_shaped q.2.1) ry;exact eq_dataH z1 z2 q.1 q.2.1 hr.units ⟨.bl _,H,I,rfl,c _ _ _ _ _ _ q.2.2 .refl R bB⟩
 ·exact q.elim
def cB7 {n:Nat} (hr:Room n X.A):OpR X (compareOp .NotEq) (upR X.K dNe):=by
 intro pins s σ H x y v u Q I rx ry h;obtain ⟨a,b,h,A,μ,k,R,ra,rb,q,c⟩:=h;unfold dNe at q;split at q
 ·rename_i da db ea eb;obtain ⟨as,z1⟩:=(bO R ra ea).reads I (SeqAt.canLay_of_shaped q.1) rx;obtain ⟨bs,z2⟩:=(bO R rb eb).reads I (SeqAt.canLay_of_shaped q.2.1) ry;exact ne_dataH z1 z2 q.1 q.2.1 hr.units ⟨.bl _,H,I,rfl,c _ _ _ _ _ _ q.2.2 .refl R bB⟩
 ·exact q.elim
noncomputable def isSame:PyData->PyData->Option Bool
 | .none,.none=>some true
 | .bool a,.bool b=>some (a==b)
 | .none,.bool _=>some false
 | .bool _,.none=>some false
 | .int _,.none=>some false
 | .int _,.bool _=>some false
 | .str _,.none=>some false
 | .str _,.bool _=>some false
 | .list _,.none=>some false
 | .list _,.bool _=>some false
 | .tuple _,.none=>some false
 | .tuple _,.bool _=>some false
 | _,_=>none
noncomputable def dIs (neg:Bool):D2
 | .d a,.d b,h,Q=>match isSame a b with
  | some k=>Q (.d (.bool (if neg then !k else k))) h
  | none=>False
 | _,_,_,_=>False
def nU {K:Frag} {A:List Addr} {H:Hp} {a b:PyData} {x y:V} {v u:Value} {k:Bool} (ra:Rep K A H a x) (rb:Rep K A H b y) (rx:RelV x v) (ry:RelV y u) (e:isSame a b=some k):plainIs v u=true/\(v==u)=k:=by
 cases b with
 | none =>
  rw [Rep] at rb;subst rb;cases ry;cases a with
  | none=>rw [Rep] at ra;subst ra;cases rx;cases e;exact ⟨rfl,rfl⟩
  | bool c=>rw [Rep] at ra;subst ra;cases rx;cases e;exact ⟨rfl,rfl⟩
  | int c=>rw [Rep] at ra;subst ra;obtain ⟨t,rfl⟩:=rx;cases e;exact ⟨rfl,rfl⟩
  | str c=>rw [Rep] at ra;obtain ⟨ra,_⟩:=ra;subst ra;obtain ⟨t,rfl⟩:=rx;cases e;exact ⟨rfl,rfl⟩
  | list c=>rw [Rep] at ra;obtain ⟨p,vs,rfl,_⟩:=ra;cases rx;cases e;exact ⟨rfl,rfl⟩
  | tuple c=>rw [Rep] at ra;obtain ⟨p,vs,rfl,_⟩:=ra;cases rx;cases e;exact ⟨rfl,rfl⟩
  | dict c=>cases e
 | bool b =>
  rw [Rep] at rb;subst rb;cases ry;cases a with
  | none=>rw [Rep] at ra;subst ra;cases rx;cases e;exact ⟨rfl,rfl⟩
  | bool c=>rw [Rep] at ra;subst ra;cases rx;cases e;cases b<;>cases c<;>exact ⟨rfl,rfl⟩
  | int c=>rw [Rep] at ra;subst ra;obtain ⟨t,rfl⟩:=rx;cases e;exact ⟨rfl,rfl⟩
  | str c=>rw [Rep] at ra;obtain ⟨ra,_⟩:=ra;subst ra;obtain ⟨t,rfl⟩:=rx;cases e;exact ⟨rfl,rfl⟩
  | list c=>rw [Rep] at ra;obtain ⟨p,vs,rfl,_⟩:=ra;cases rx;cases e;exact ⟨rfl,rfl⟩
  | tuple c=>rw [Rep] at ra;obtain ⟨p,vs,rfl,_⟩:=ra;cases rx;cases e;exact ⟨rfl,rfl⟩
  | dict c=>cases e
 | _=>cases a<;>cases e
def cB8:OpR X (compareOp .Is) (upR X.K (dIs false)):=by
 intro pins s σ H x y v u Q I rx ry h;obtain ⟨a,b,h,A,μ,k,R,ra,rb,q,c⟩:=h;unfold dIs at q;split at q
 ·split at q
  ·rename_i e;obtain ⟨h1,h2⟩:=nU ra rb rx ry e;exact wpAny_is_plain h1 ⟨.bl _,H,I,by rw [h2];rfl,c _ _ _ _ _ _ q .refl R bB⟩
  ·exact q.elim
 ·exact q.elim
def aE0:OpR X (compareOp .IsNot) (upR X.K (dIs true)):=by
 intro pins s σ H x y v u Q I rx ry h;obtain ⟨a,b,h,A,μ,k,R,ra,rb,q,c⟩:=h;unfold dIs at q;split at q
 ·split at q
  ·rename_i e;obtain ⟨h1,h2⟩:=nU ra rb rx ry e;exact wpAny_isNot_plain h1 ⟨.bl _,H,I,by rw [h2];rfl,c _ _ _ _ _ _ q .refl R bB⟩
  ·exact q.elim
 ·exact q.elim
def dIx:D2:=fun x y h Q=>match ref h x,y with
 | some (.list xs),.d (.int i)=>match atI xs i with
  | some v=>Q (.d v) h
  | none=>False
 | some (.tuple xs),.d (.int i)=>match atI xs i with
  | some v=>Q (.d v) h
  | none=>False
 | _,_=>False
def uS {K:Frag} {A:List Addr} {H:Hp} {xs:List PyData} {vs:List V} {i:Int} {x:PyData} (r:Reps K A H xs vs) (e:atI xs i=some x):∃ v,atI vs i=some v/\Rep K A H x v:=by
 unfold atI at e ⊢;rw [r.length];cases q:ixN xs.length i with
 | none=>rw [q] at e;cases e
 | some j =>
  rw [q] at e;obtain ⟨v,e1,e2⟩:=r.get (i:=j) e;exact ⟨v,e1,e2⟩
def dN8:IxR X (upR X.K dIx):=by
 intro value slice pins s σ H x y v u Q I rx ry h hs;obtain ⟨a,b,h,A,μ,k,R,ra,rb,q,c⟩:=h;unfold dIx at q;split at q
 ·rename_i xs i ea;obtain ⟨p,vs,rfl,sq,rr⟩:=bZ R ra ea;have eb:=bD rb;subst eb;split at q
  ·rename_i z ez;obtain ⟨z',e1,e2⟩:=uS rr ez;exact zG value slice pins s σ H _ _ v u Q I rx ry ⟨p,vs,i,z',rfl,rfl,sq,e1,c _ _ _ _ _ _ q .refl R e2⟩ hs
  ·exact q.elim
 ·rename_i xs i ea;obtain ⟨p,vs,rfl,sq,rr⟩:=bE ra ea;have eb:=bD rb;subst eb;split at q
  ·rename_i z ez;obtain ⟨z',e1,e2⟩:=uS rr ez;exact bZ8 value slice pins s σ H _ _ v u Q I rx ry ⟨p,vs,i,z',rfl,rfl,sq.sq,e1,c _ _ _ _ _ _ q .refl R e2⟩ hs
  ·exact q.elim
 ·exact q.elim
abbrev DTO:=DSt->aA->(Option Int->aA->Prop)->Prop
noncomputable def upO (K:Frag) (t:DTO):TO:=fun σ H Q=>∃ (δ:DSt) (h:aA) (A μ:List Addr) (k:Option Int->aA->Prop),Ab K A μ δ h σ H/\t δ h k /\
 ∀ b h' H' A' μ',k b h'->Ext A A' μ μ' H H'->HeapRep K A' μ' h' H'->Q b H'
def DO (X:Cx) (e:Option Expr) (t:DTO):Prop:=PO X e (upO X.K t)
def sQ {X:Cx} {e:Option Expr} {t t':TO} (h:PO X e t) (m:∀ σ H Q,t' σ H Q->t σ H Q):PO X e t':=fun pins s σ H Q I q=>h pins s σ H Q I (m σ H Q q)
def bE6:DTO:=fun _ h Q=>Q none h
def cT9 (t:DTE):DTO:=fun δ h Q=>t δ h fun w h1=>match w with
 | .d (.int i)=>Q (some i) h1
 | _=>False
def bE7:DO X none bE6:=sQ bC4 fun σ H Q q=>by
 obtain ⟨δ,h,A,μ,k,R,q,c⟩:=q;exact c none h H A μ q .refl R.1
def bE8 {e:Expr} {te:DTE} (he:DE X e te):DO X (some e) (cT9 te):=sQ (bC5 he) fun σ H Q q=>by
 obtain ⟨δ,h,A,μ,k,R,q,c⟩:=q;refine ⟨δ,h,A,μ,_,R,q,fun w h1 v H1 A1 μ1 q1 x1 R1 r1=>?_⟩;cases w with
 | c i=>exact q1.elim
 | v u=>exact q1.elim
 | d x =>
  cases x with
  | int i=>exact ⟨i,bD r1,c _ h1 H1 A1 μ1 q1 x1 R1⟩
  | _=>exact q1.elim
noncomputable def cut (xs:List PyData) (lo hi:Option Int):List PyData:=(xs.drop (HT.sIx xs.length 0 lo)).take (HT.sIx xs.length xs.length hi - HT.sIx xs.length 0 lo)
noncomputable def cU0 (te:DTE) (tl th:DTO) (r:W->Option Int->Option Int->aA->Prop):DSt->aA->Prop:=fun δ h=>te δ h fun x h1=>tl δ h1 fun lo h2=>th δ h2 fun hi h3=>r x lo hi h3
def dN9 (te:DTE) (tl th:DTO):DTE:=fun δ h Q=>cU0 te tl th (fun x lo hi h3=>match x with
 | .d (.tuple xs)=>Q (.d (.tuple (cut xs lo hi))) h3
 | _=>False) δ h
def dO0 (te:DTE) (tl th:DTO):DTF:=fun δ h Q=>cU0 te tl th (fun x lo hi h3=>match ref h3 x with
 | some (.list xs)=>Q (cut xs lo hi) h3
 | _=>False) δ h
def uT {K:Frag} {A:List Addr} {H:Hp} {xs:List PyData} {vs:List V} (r:Reps K A H xs vs) (lo hi:Option Int):Reps K A H (cut xs lo hi) (uI vs lo hi):=by
 unfold cut uI;rw [r.length];exact (r.drop _).take _
def aE1 {prog:Program} {w:World} {A:Around} {E:Value->Shared->Prop} {s:Shared} {t sl:Addr} {items:Array Value} {vl vu:Value} {lo hi:Option Int} {Q:Value->Shared->Prop} (ht:IsTup s.heap t items) (hs:s.heap.IsSliceOf sl vl vu .none) (pl:IsPart vl lo) (pu:IsPart vu hi)
  (hw:HT.sIx items.size 0 lo=0/\HT.sIx items.size items.size hi=items.size) (h:Q (.ref t) s):wpAny (model prog w) A (getItem (.ref t) (.ref sl)) Q E s:=by
 obtain ⟨os,hos,hcs,hds⟩:=id hs;have hTs:s.TypeIs (.ref sl) "slice":=⟨os,hos,hcs⟩;unfold getItem;try with_reducible refine wpAny_holding ?_
 first | refine wpAny_bind (wpAny_pure ?_) | skip
 refine wpAny_bind (wpAny_sequenceKey ht.typeIs (by decide) ?_);refine wpAny_bind (wpAny_callSpecial?_slot (name:=Str.ofString "__getitem__") ht.typeIs PyProof.Rows.slot_tuple_getitem
  (wpAny_call_entry PyProof.Rows.slot_tuple_getitem ht.typeIs entry_tuple_getitem ?_ (args_tuple_getitem _ _)))
 show wpAny _ _ (Builtin.Tuple.tupleItemsOf (.ref t) >>= _) _ _ s;refine wpAny_bind (tupleItemsOf_ ht (wpAny_bind (wpAny_typeOf hTs ?_)));rw [if_pos (by decide)];refine wpAny_bind (HT.sliceApplied_gen hs pl pu ?_);have hy:(((HT.sIx items.size 0 lo:Nat):Int)==0&&(1:Int)==1&&(HT.sIx items.size items.size hi - HT.sIx items.size 0 lo)==items.size)=true:=by
  rw [hw.1,hw.2];simp
 show wpAny _ _ (if (((HT.sIx items.size 0 lo:Nat):Int)==0&&(1:Int)==1&&(HT.sIx items.size items.size hi - HT.sIx items.size 0 lo)==items.size)=true then _ else _) _ _ s;rw [if_pos hy];refine wpAny_bind (wpAny_bind (wpAny_typeOf ht.typeIs (wpAny_pure ?_)));rw [if_pos (by decide)];exact wpAny_bind (wpAny_rule (wpAny_pure ⟨_,rfl,wpAny_pure h⟩))
noncomputable def dO1 (K:Frag):V->Option Int->Option Int->Hp->VK->Prop:=fun x lo hi H Q=>∃ a xs,x=.ref a/\SqT K H a xs/\(HT.sIx xs.length 0 lo=0/\HT.sIx xs.length xs.length hi=xs.length)/\Q (.ref a) H
def bE9:SlR X (dO1 X.K):=by
 intro pins s σ H x v vl vu lo hi sl Q I rx hs pl pu h;obtain ⟨a,xs,rfl,hx,hw,q⟩:=h;cases rx;obtain ⟨its,r,ht,hz⟩:=I.tuple hx;have hlen:its.toArray.size=xs.length:=by rw [List.size_toArray];exact r.length.symm
 exact ⟨"tuple",_,PyProof.Rows.slot_tuple_getitem.lookup,ht.typeIs,aE1 ht hs pl pu (by rw [hlen];exact hw) ⟨.ref a,H,I,rfl,q⟩⟩
def aE2 {xs:List PyData} {lo hi:Option Int} (h:HT.sIx xs.length 0 lo=0/\HT.sIx xs.length xs.length hi=xs.length):cut xs lo hi=xs:=by
 unfold cut;rw [h.1,h.2];simp
def cB9 {e:Expr} {te:DTE} {lo hi:Option Expr} {tl th:DTO} {p2 pos:Pos} (he:DE X e te) (hl:DO X lo tl) (hh:DO X hi th):DE X (.Subscript e (.Slice lo hi none p2) pos) (dN9 te tl th):=aI (uH (sl_tup.or bE9) he hl hh) fun σ H Q q=>by
 obtain ⟨δ,h,A,μ,k,R,q,c⟩:=q;refine ⟨δ,h,A,μ,_,R,q,fun w h1 v H1 A1 μ1 q1 x1 R1 r1=>?_⟩;refine ⟨δ,h1,A1,μ1,_,⟨R1,R.2.ext x1 R.1.sub⟩,q1,fun l h2 H2 A2 μ2 q2 x2 R2=>?_⟩;refine ⟨δ,h2,A2,μ2,_,⟨R2,R.2.ext (x1.trans x2) R.1.sub⟩,q2,fun u h3 H3 A3 μ3 q3 x3 R3=>?_⟩;have r3:=r1.ext (x2.trans x3) R1.sub;dsimp only at q3 ⊢;split at q3
 ·rename_i xs;obtain ⟨p,vs,rfl,sq,rr⟩:=bE (h:=h3) r3 rfl
  by_cases hw:HT.sIx xs.length 0 l=0/\HT.sIx xs.length xs.length u=xs.length
  ·rw [aE2 hw] at q3;exact .inr ⟨p,vs,rfl,sq.sq,by rw [rr.length];exact hw,c _ _ _ _ _ _ q3 ((x1.trans x2).trans x3) R3 r3⟩
  ·refine .inl ⟨p,vs,rfl,sq.sq,by rw [rr.length];exact hw,fun p hp=>?_⟩;exact c _ _ _ _ _ _ q3 (((x1.trans x2).trans x3).trans (bR hp)) (R3.fresh hp) (fD R3 hp (uT rr l u))
 ·exact q3.elim
def aO2 {e:Expr} {te:DTE} {lo hi:Option Expr} {tl th:DTO} {p2 pos:Pos} (he:DE X e te) (hl:DO X lo tl) (hh:DO X hi th):DF X (.Subscript e (.Slice lo hi none p2) pos) (dO0 te tl th):=aI (uH bC7 he hl hh) fun σ H Q q=>by
 obtain ⟨δ,h,A,μ,k,R,q,c⟩:=q;refine ⟨δ,h,A,μ,_,R,q,fun w h1 v H1 A1 μ1 q1 x1 R1 r1=>?_⟩;refine ⟨δ,h1,A1,μ1,_,⟨R1,R.2.ext x1 R.1.sub⟩,q1,fun l h2 H2 A2 μ2 q2 x2 R2=>?_⟩;refine ⟨δ,h2,A2,μ2,_,⟨R2,R.2.ext (x1.trans x2) R.1.sub⟩,q2,fun u h3 H3 A3 μ3 q3 x3 R3=>?_⟩;have r3:=r1.ext (x2.trans x3) R1.sub;dsimp only at q3 ⊢;split at q3
 ·rename_i xs ex;obtain ⟨p,vs,rfl,sq,rr⟩:=bZ R3 r3 ex;refine ⟨p,vs,rfl,sq,fun p hp=>?_⟩;have x4:=(x1.trans x2).trans x3;obtain ⟨ν,e1,_⟩:=x4.pre;exact c _ _ _ _ _ _ q3 (x4.trans (cC hp)) ⟨ν,e1⟩ (x4.back hp) (dX R3 hp (uT rr l u))
 ·exact q3.elim
end
abbrev DC:=List W->aA->DK->Prop
noncomputable def upC (K:Frag) (r:DC):List V->Hp->VK->Prop:=fun vs H Q=>∃ (ws:List W) (h:aA) (A μ:List Addr) (k:DK),HeapRep K A μ h H/\iB K A μ H ws vs/\r ws h k /\
 ∀ w h' v H' A' μ',k w h'->Ext A A' μ μ' H H'->HeapRep K A' μ' h' H'->RepW K A' μ' H' w v->Q v H'
def dCB (r:DC) (t:DTA):DTE:=fun δ h Q=>t δ h fun ws h1=>r ws h1 Q
def bQ8 {K:Frag} {r:DC} {t:DTA} {σ:L2.St} {H:Hp} {Q:VK} (q:up K (dCB r t) σ H Q):tCB (upC K r) (upA K t) σ H Q:=by
 obtain ⟨δ,h,A,μ,k,R,q,c⟩:=q;refine ⟨δ,h,A,μ,_,R,q,fun ws h1 vs H1 A1 μ1 q1 x1 R1 r1=>?_⟩;exact ⟨ws,h1,A1,μ1,k,R1,r1,q1,fun w h2 v H2 A2 μ2 q2 x2 R2 r2=>c w h2 v H2 A2 μ2 q2 (x1.trans x2) R2 r2⟩
def dY {K:Frag} {A μ:List Addr} {H:Hp} {w:W} {vs:List V} (r:iB K A μ H [w] vs):∃ v,vs=[v]/\RepW K A μ H w v:=by
 obtain ⟨v,r,rfl,h1,h2⟩:=r;have e:r=[]:=h2;subst e;exact ⟨v,rfl,h1⟩
section
variable {X:Cx} {x:Str} {p pos:Pos} {e:Expr} {es:List Expr} {t:DTA} {id T:String} {r:DC}
def uU (hc:cU X (.builtin id) (upC X.K r)) (hm:X.mg x=none) (ha:DA X (e::es) t) (hv:autoParam (bootBuiltins x=some (.builtin id)) ZR) (hg:autoParam (Gl X x) ZR) (hn:autoParam (x≠"__name__") ZD) (hdb:autoParam ((x==("__debug__":Str))=false) ZD)
  (he:autoParam (starEach (e::es) X.env=(false,eval e X.env)::starEach es X.env) ZR) (hpl:autoParam ((backTo pos (starEach es X.env)).any (·.1)=false) ZR):DE X (.Call (.Name x p) (e::es) [] pos) (dCB r t) :=
 aI (nJ hc hg hm hv ha hn hdb he hpl) fun _ _ _ q=>bQ8 q
def aE3 (hc:cU X (.type T) (upC X.K r)) (hm:X.mg x=none) (ha:DA X (e::es) t) (hv:autoParam (bootBuiltins x=some (.type T)) ZR) (hg:autoParam (Gl X x) ZR) (hn:autoParam (x≠"__name__") ZD) (hdb:autoParam ((x==("__debug__":Str))=false) ZD)
  (he:autoParam (starEach (e::es) X.env=(false,eval e X.env)::starEach es X.env) ZR) (hpl:autoParam ((backTo pos (starEach es X.env)).any (·.1)=false) ZR):DE X (.Call (.Name x p) (e::es) [] pos) (dCB r t) :=
 aI (qG hc hg hm hv ha hn hdb he hpl) fun _ _ _ q=>bQ8 q
noncomputable def cC0:DC
 | [w],h,Q=>match ref h w with
  | some (.list xs)=>Q (.d (.int xs.length)) h
  | some (.tuple xs)=>Q (.d (.int xs.length)) h
  | _=>False
 | _,_,_=>False
def aE4:cU X (.builtin "len") (upC X.K cC0):=by
 intro pins s σ H xs us Q I r h;obtain ⟨ws,h,A,μ,k,R,rw',q,c⟩:=h;unfold cC0 at q;split at q
 ·rename_i w h0 k0;obtain ⟨v,rfl,rv⟩:=dY rw';split at q
  ·rename_i ys ey;obtain ⟨p,vs,rfl,sq,rr⟩:=bZ R rv ey;exact jO pins s σ H _ us Q I r ⟨p,vs,rfl,.inl sq,by rw [rr.length];exact c _ _ _ _ _ _ q .refl R nT⟩
  ·rename_i ys ey;obtain ⟨p,vs,rfl,sq,rr⟩:=bE rv ey;exact jO pins s σ H _ us Q I r ⟨p,vs,rfl,.inr sq.sq,by rw [rr.length];exact c _ _ _ _ _ _ q .refl R nT⟩
  ·exact q.elim
 ·exact q.elim
noncomputable def xI:DC
 | [w],h,Q=>match ref h w with
  | some (.list xs)=>Q (.d (.tuple xs)) h
  | some (.tuple xs)=>Q (.d (.tuple xs)) h
  | _=>False
 | _,_,_=>False
def uV:cU X (.type "tuple") (upC X.K xI):=by
 intro pins s σ H xs us Q I r h;obtain ⟨ws,h,A,μ,k,R,rw',q,c⟩:=h;unfold xI at q;split at q
 ·rename_i w h0 k0;obtain ⟨v,rfl,rv⟩:=dY rw';split at q
  ·rename_i ys ey;obtain ⟨p,vs,rfl,sq,rr⟩:=bZ R rv ey;exact iY pins s σ H _ us Q I r ⟨p,vs,rfl,.inl ⟨sq,fun l hl=>c _ _ _ _ _ _ q (bR hl) (R.fresh hl) (fD R hl rr)⟩⟩
  ·rename_i ys ey;obtain ⟨p,vs,rfl,sq,rr⟩:=bE rv ey;refine iY pins s σ H _ us Q I r ⟨p,vs,rfl,.inr ⟨sq.sq,c _ _ _ _ _ _ q .refl R ?_⟩⟩;show Rep X.K A H (.tuple ys) (.ref p);rw [Rep];exact ⟨p,vs,rfl,sq,rr⟩
  ·exact q.elim
 ·exact q.elim
def cC1 (t:DTA):DTF:=fun δ h Q=>t δ h fun ws h1=>match ws with
 | [w]=>(match ref h1 w with
  | some (.list xs)=>Q xs h1
  | some (.tuple xs)=>Q xs h1
  | _=>False)
 | _=>False
def bF0 (hm:X.mg "list"=none) (ha:DA X (e::es) t) (hg:autoParam (Gl X "list") ZR)
  (he:autoParam (starEach (e::es) X.env=(false,eval e X.env)::starEach es X.env) ZR) (hpl:autoParam ((backTo pos (starEach es X.env)).any (·.1)=false) ZR):DF X (.Call (.Name "list" p) (e::es) [] pos) (cC1 t) :=
 aI (qG sG hg hm rfl ha (by decide) (by decide) he hpl) fun σ H Q q=>by
  obtain ⟨δ,h,A,μ,k,R,q,c⟩:=q;refine ⟨δ,h,A,μ,_,R,q,fun ws h1 vs H1 A1 μ1 q1 x1 R1 r1=>?_⟩;obtain ⟨ν,e1,_⟩:=x1.pre;split at q1
  ·rename_i w;obtain ⟨v,rfl,rv⟩:=dY r1;split at q1
   ·rename_i ys ey;obtain ⟨p,vs,rfl,sq,rr⟩:=bZ R1 rv ey;exact ⟨p,vs,rfl,.inl sq,fun l hl=>c _ _ _ _ _ _ q1 (x1.trans (cC hl)) ⟨ν,e1⟩ (x1.back hl) (dX R1 hl rr)⟩
   ·rename_i ys ey;obtain ⟨p,vs,rfl,sq,rr⟩:=bE rv ey;exact ⟨p,vs,rfl,.inr sq.sq,fun l hl=>c _ _ _ _ _ _ q1 (x1.trans (cC hl)) ⟨ν,e1⟩ (x1.back hl) (dX R1 hl rr)⟩
   ·exact q1.elim
  ·exact q1.elim
end
abbrev DSp:=List W->aA->(PyData->aA->Prop)->Prop
noncomputable def mB (K:Frag) (d:DSp):Sp:=fun vs H Q _=>∃ (ws:List W) (h:aA) (A μ:List Addr) (k:PyData->aA->Prop),HeapRep K A μ h H/\iB K A μ H ws vs/\d ws h k /\
 ∀ z h' v H' A',k z h'->Ext A A' μ μ H H'->HeapRep K A' μ h' H'->Rep K A' H' z v->Q v H'
def aO3 (d:DSp) (t:DTA):DTE:=fun δ h Q=>t δ h fun ws h1=>d ws h1 fun z h2=>Q (.d z) h2
def bF1 {K:Frag} {d:DSp} {t:DTA} {σ:L2.St} {H:Hp} {Q:VK} (q:up K (aO3 d t) σ H Q):zC (mB K d) [] E0 (upA K t) σ H Q:=by
 obtain ⟨δ,h,A,μ,k,R,q,c⟩:=q;refine ⟨δ,h,A,μ,_,R,q,fun ws h1 vs H1 A1 μ1 q1 x1 R1 r1=>?_⟩;show mB K d (vs++[]) H1 Q E0;rw [List.append_nil];exact ⟨ws,h1,A1,μ1,_,R1,r1,q1,fun z h2 v H2 A2 q2 x2 R2 r2=>c _ h2 v H2 A2 μ1 q2 (x1.trans x2) R2 r2⟩
structure DFn (P:Program) (w:World) (K:Frag) (mg:Str->Option Value) (base:Heap) (k:Nat) (x:Str) (d:DSp):Prop where
 ok:∃ (f:Addr) (fd:FuncData) (ps:List Str),FnOk P w K mg base CX0 k f fd ps (mB K d)/\mg x=some (.ref f)/\PySem.W.keepIn K (.ref f)=true/\Binds K fd ps []
section
variable {X:Cx} {x:Str} {p pos:Pos} {e:Expr} {es:List Expr} {t:DTA} {d:DSp} {k:Nat}
def zI (F:DFn X.prog X.w X.K X.mg X.base k x d) (hr:Room k X.A) (ha:DA X (e::es) t) (hg:autoParam (Gl X x) ZR) (hdb:autoParam ((x==("__debug__":Str))=false) ZD)
  (he:autoParam (starEach (e::es) X.env=(false,eval e X.env)::starEach es X.env) ZR) (hpl:autoParam ((backTo pos (starEach es X.env)).any (·.1)=false) ZR):DE X (.Call (.Name x p) (e::es) [] pos) (aO3 d t):=by
 obtain ⟨f,fd,ps,h1,h2,h3,h4⟩:=F.ok;exact aI (zD h1 hr hg h2 h3 h4 .nil aN0 ha hdb he hpl) fun _ _ _ q=>bF1 q
end
structure DEnds where
 nx:DSt->aA->Prop
 rt:DK
 bk:DSt->aA->Prop:=fun _ _=>False
 ct:DSt->aA->Prop:=fun _ _=>False
abbrev DTS:=DEnds->DSt->aA->Prop
structure Lnk (K:Frag) (A μ:List Addr) (H:Hp) (E:DEnds) (D:Ends):Prop where
 nx:∀ δ' h' σ' H' A' μ',E.nx δ' h'->Ext A A' μ μ' H H'->Ab K A' μ' δ' h' σ' H'->D.nx σ' H'
 bk:∀ δ' h' σ' H' A' μ',E.bk δ' h'->Ext A A' μ μ' H H'->Ab K A' μ' δ' h' σ' H'->D.bk σ' H'
 ct:∀ δ' h' σ' H' A' μ',E.ct δ' h'->Ext A A' μ μ' H H'->Ab K A' μ' δ' h' σ' H'->D.ct σ' H'
 rt:∀ w h' v H' A' μ',E.rt w h'->Ext A A' μ μ' H H'->HeapRep K A' μ' h' H'->RepW K A' μ' H' w v->D.rt v H'
def Lnk.ext {K:Frag} {A A1 μ μ1:List Addr} {H H1:Hp} {E:DEnds} {D:Ends} (L:Lnk K A μ H E D) (x:Ext A A1 μ μ1 H H1):Lnk K A1 μ1 H1 E D :=
 ⟨fun δ h σ H' A' μ' q y=>L.nx δ h σ H' A' μ' q (x.trans y),fun δ h σ H' A' μ' q y=>L.bk δ h σ H' A' μ' q (x.trans y),fun δ h σ H' A' μ' q y=>L.ct δ h σ H' A' μ' q (x.trans y),fun w h v H' A' μ' q y=>L.rt w h v H' A' μ' q (x.trans y)⟩
def upS (K:Frag) (t:DTS):TS:=fun D σ H=>∃ (δ:DSt) (h:aA) (A μ:List Addr) (E:DEnds),Ab K A μ δ h σ H/\t E δ h/\Lnk K A μ H E D
def DS (X:Cx) (st:Stmt) (t:DTS):Prop:=PS X st (upS X.K t)
def DSs (X:Cx) (st:List Stmt) (t:DTS):Prop:=PSs X st (upS X.K t)
def bQ9:DTS:=fun E δ h=>E.nx δ h
def cU1 (t u:DTS):DTS:=fun E δ h=>t { E with nx:=u E } δ h
def dO2 (te:DTE):DTS:=fun E δ h=>te δ h E.rt
def cU2 (te:DTE):DTS:=fun E δ h=>te δ h fun _ h1=>E.nx δ h1
def dO3 (c:DTT) (t u:DTS):DTS:=fun E δ h=>c δ h fun b h1=>if b=true then t E δ h1 else u E δ h1
abbrev DTG:=W->DSt->aA->(DSt->aA->Prop)->Prop
abbrev uW:=List PyData->DSt->aA->(DSt->aA->Prop)->Prop
def upG (K:Frag) (t:DTG):TG:=fun v σ H Q=>∃ (w:W) (δ:DSt) (h:aA) (A μ:List Addr) (k:DSt->aA->Prop),Ab K A μ δ h σ H/\RepW K A μ H w v/\t w δ h k /\
 ∀ δ' h' σ' H' A' μ',k δ' h'->Ext A A' μ μ' H H'->Ab K A' μ' δ' h' σ' H'->Q σ' H'
noncomputable def dO4 (K:Frag) (t:uW):TGs:=fun vs σ H Q=>∃ (xs:List PyData) (δ:DSt) (h:aA) (A μ:List Addr) (k:DSt->aA->Prop),Ab K A μ δ h σ H/\Reps K A H xs vs/\t xs δ h k /\
 ∀ δ' h' σ' H' A' μ',k δ' h'->Ext A A' μ μ' H H'->Ab K A' μ' δ' h' σ' H'->Q σ' H'
def DG (X:Cx) (tg:Expr) (t:DTG):Prop:=PG X tg (upG X.K t)
def DGs (X:Cx) (tg:List Expr) (t:uW):Prop:=PGs X tg (dO4 X.K t)
def mR {X:Cx} {e:Expr} {t t':TG} (h:PG X e t) (m:∀ v σ H Q,t' v σ H Q->t v σ H Q):PG X e t':=fun pins s σ H v u Q I r q=>h pins s σ H v u Q I r (m v σ H Q q)
def jS {X:Cx} {e:List Expr} {t t':TGs} (h:PGs X e t) (m:∀ v σ H Q,t' v σ H Q->t v σ H Q):PGs X e t':=fun pins s σ H v u Q I r q=>h pins s σ H v u Q I r (m v σ H Q q)
def nV (i:Nat):DTG:=fun w δ h Q=>Q (δ.set i (some w)) h
noncomputable def cU3:uW:=fun xs δ h Q=>xs=[]/\Q δ h
noncomputable def cC2 (t:DTG) (u:uW):uW:=fun xs δ h Q=>match xs with
 | x::r=>t (.d x) δ h fun δ1 h1=>u r δ1 h1 Q
 | []=>False
def aO4 (n:Nat) (t:uW):DTG:=fun w δ h Q=>match w with
 | .d (.tuple xs)=>xs.length=n/\t xs δ h Q
 | _=>False
def xJ (te:DTE) (g:DTG):DTS:=fun E δ h=>te δ h fun w h1=>g w δ h1 E.nx
section
variable {X:Cx} {st:Stmt} {rest:List Stmt} {t u:DTS} {e tg:Expr} {te:DTE} {tc:DTT} {g:DTG} {pos:Pos}
def bF2:DSs X [] bQ9:=jQ bB1 fun D σ H q=>by
 obtain ⟨δ,h,A,μ,E,R,q,L⟩:=q;exact L.nx δ h σ H A μ q .refl R
def uX (h1:DS X st t) (h2:DSs X rest u):DSs X (st::rest) (cU1 t u):=jQ (jL h1 h2) fun D σ H q=>by
 obtain ⟨δ,h,A,μ,E,R,q,L⟩:=q;exact ⟨δ,h,A,μ,_,R,q,⟨fun δ' h' σ' H' A' μ' q' x R'=>⟨δ',h',A',μ',E,R',q',L.ext x⟩,L.bk,L.ct,L.rt⟩⟩
def bF3 (h1:DS X st t):DSs X [st] t:=mK h1
def bF4:DS X (.Pass pos) bQ9:=bN bB2 fun D σ H q=>by
 obtain ⟨δ,h,A,μ,E,R,q,L⟩:=q;exact L.nx δ h σ H A μ q .refl R
def cC3 (he:DE X e te):DS X (.Return (some e) pos) (dO2 te):=bN (aL4 he) fun D σ H q=>by
 obtain ⟨δ,h,A,μ,E,R,q,L⟩:=q;exact ⟨δ,h,A,μ,_,R,q,fun w h' v H' A' μ' q' x R' r'=>L.rt w h' v H' A' μ' q' x R' r'⟩
def bF5 (he:DE X e te) (hs:autoParam (swapsWith e none pos.line X.env=pure false) ZR):DS X (.Expr e pos) (cU2 te):=bN (bB3 he hs) fun D σ H q=>by
 obtain ⟨δ,h,A,μ,E,R,q,L⟩:=q;exact ⟨δ,h,A,μ,_,R,q,fun w h' v H' A' μ' q' x R' _=>L.nx δ h' σ H' A' μ' q' x ⟨R',R.2.ext x R.1.sub⟩⟩
def cU4 {c:Expr} {a b:List Stmt} (hc:DT X c tc) (ha:DSs X a t) (hb:DSs X b u):DS X (.If c a b pos) (dO3 tc t u):=bN (bP9 hc ha hb) fun D σ H q=>by
 obtain ⟨δ,h,A,μ,E,R,q,L⟩:=q;refine ⟨δ,h,A,μ,_,R,q,fun b h1 H1 A1 μ1 q1 x1 R1=>?_⟩;cases b with
 | true=>exact ⟨δ,h1,A1,μ1,E,⟨R1,R.2.ext x1 R.1.sub⟩,q1,L.ext x1⟩
 | false=>exact ⟨δ,h1,A1,μ1,E,⟨R1,R.2.ext x1 R.1.sub⟩,q1,L.ext x1⟩
def bF6 {i:Nat} {x:Str} (hN:X.N.Nodup) (hi:autoParam (X.N[i]?=some x) ZR) (hx:Loc X.env.scope x:=by first | exact Or.inl rfl | exact Or.inr rfl) (hf:X.fn x=true\/X.env.scope.names.lookup x=some .local:=by first | exact .inl rfl | exact .inr rfl):DG X (.Name x pos) (nV i) :=
 mR (bB4 hN hi hx hf) fun v σ H Q q=>by
  obtain ⟨w,δ,h,A,μ,k,R,r,q,c⟩:=q;exact c _ h _ H A μ q .refl ⟨R.1,R.2.set i r⟩
def bF7:DGs X [] cU3:=jS bB5 fun v σ H Q q=>by
 obtain ⟨xs,δ,h,A,μ,k,R,r,⟨e,q⟩,c⟩:=q;subst e;rw [Reps] at r;exact ⟨r,c δ h σ H A μ q .refl R⟩
def aO5 {es:List Expr} {tu:uW} (h1:DG X e g) (h2:DGs X es tu) (hs:autoParam ((assignEach (e::es) X.env).map (·.2)=assign e X.env::(assignEach es X.env).map (·.2)) ZR):DGs X (e::es) (cC2 g tu) :=
 jS (aL5 h1 h2 hs) fun v σ H Q q=>by
  obtain ⟨xs,δ,h,A,μ,k,R,r,q,c⟩:=q;cases xs with
  | nil=>exact q.elim
  | cons x xs =>
   rw [Reps] at r;obtain ⟨v1,vr,rfl,r1,r2⟩:=r;refine ⟨v1,vr,rfl,.d x,δ,h,A,μ,_,R,r1,q,fun δ1 h1 σ1 H1 A1 μ1 q1 x1 R1=>?_⟩;exact ⟨xs,δ1,h1,A1,μ1,k,R1,r2.ext x1 R.1.sub,q1,fun δ2 h2 σ2 H2 A2 μ2 q2 x2 R2=>c δ2 h2 σ2 H2 A2 μ2 q2 (x1.trans x2) R2⟩
def cC4 {es:List Expr} {kk:Nat} {tu:uW} {n:Nat} (hc:X.calm=true) (h:DGs X es tu) (hn:autoParam ((assignEach es X.env).length=n) ZR) (hst:autoParam ((assignEach es X.env).findIdx? (·.1)=none) ZR):DG X (.Tuple es kk pos) (aO4 n tu) :=
 mR (bY1 hc h hn hst) fun v σ H Q q=>by
  obtain ⟨w,δ,h,A,μ,k,R,r,q,c⟩:=q;unfold aO4 at q;split at q
  ·rename_i xs;obtain ⟨p,vs,rfl,sq,rr⟩:=bE (h:=h) r rfl;exact ⟨p,vs,rfl,sq.sq,by rw [rr.length];exact q.1,xs,δ,h,A,μ,k,R,rr,q.2,c⟩
  ·exact q.elim
def cC5 (he:DE X e te) (hg:DG X tg g) (hs:autoParam (swapsWithSole [tg] e pos.line X.env=pure false) ZR) (hw:autoParam (swappedStores [tg] e X.env=pure none) ZR)
  (h1:autoParam ((assignEach [tg] X.env).map (·.2)=[assign tg X.env]) ZR):DS X (.Assign [tg] e pos) (xJ te g):=bN (bY3 he hg hs hw h1) fun D σ H q=>by
 obtain ⟨δ,h,A,μ,E,R,q,L⟩:=q;refine ⟨δ,h,A,μ,_,R,q,fun w h1 v H1 A1 μ1 q1 x1 R1 r1=>?_⟩;exact ⟨w,δ,h1,A1,μ1,E.nx,⟨R1,R.2.ext x1 R.1.sub⟩,r1,q1,fun δ2 h2 σ2 H2 A2 μ2 q2 x2 R2=>L.nx δ2 h2 σ2 H2 A2 μ2 q2 (x1.trans x2) R2⟩
def xK {i:Nat} {x:Str} {pos':Pos} (hN:X.N.Nodup) (he:DE X e te) (hi:autoParam (X.N[i]?=some x) ZR) (hx:Loc X.env.scope x:=by first | exact Or.inl rfl | exact Or.inr rfl) (hs:autoParam (swapsWith e (some (.Name x pos')) pos.line X.env=pure false) ZR)
  (hf:X.fn x=true\/X.env.scope.names.lookup x=some .local:=by first | exact .inl rfl | exact .inr rfl):DS X (.Assign [.Name x pos'] e pos) (xJ te (nV i)):=bN (rX hN hi hx he hs hf) fun D σ H q=>by
 obtain ⟨δ,h,A,μ,E,R,q,L⟩:=q;refine ⟨δ,h,A,μ,_,R,q,fun w h1 v H1 A1 μ1 q1 x1 R1 r1=>?_⟩;exact L.nx _ h1 _ H1 A1 μ1 q1 x1 ⟨R1,(R.2.ext x1 R.1.sub).set i r1⟩
def DFS (X:Cx) (i:Nat) (st:Stmt) (tf:DTF):Prop:=PS X st (bB6 (upF X.K tf) (zA i))
def aO6 {tf:DTF} {i:Nat} {x:Str} {pos':Pos} (hN:X.N.Nodup) (he:DF X e tf) (hi:autoParam (X.N[i]?=some x) ZR) (hx:Loc X.env.scope x:=by first | exact Or.inl rfl | exact Or.inr rfl) (hs:autoParam (swapsWith e (some (.Name x pos')) pos.line X.env=pure false) ZR)
  (hf:X.fn x=true\/X.env.scope.names.lookup x=some .local:=by first | exact .inl rfl | exact .inr rfl):DFS X i (.Assign [.Name x pos'] e pos) tf:=rX hN hi hx he hs hf
def cC6 {tf:DTF} {i:Nat} (h:DFS X i st tf):DS X st (xJ (bD8 tf) (nV i)):=bN h fun D σ H q=>by
 obtain ⟨δ,h,A,μ,E,R,q,L⟩:=q;refine ⟨δ,h,A,μ,_,R,q,fun xs h' p H' A' μ' kk x hm hp R'=>?_⟩;obtain ⟨R1,r1⟩:=iA R'.1 R'.2;have x1:=jC R.1 hp x hm;exact L.nx _ h' _ H' _ μ' kk x1 ⟨R1,(R.2.ext x1 R.1.sub).set i r1⟩
def aO7 {tf:DTF} {i:Nat} (h:DFS X i st tf):DS X st (xJ (cA5 tf) (nV i)):=bN h fun D σ H q=>by
 obtain ⟨δ,h,A,μ,E,R,q,L⟩:=q;refine ⟨δ,h,A,μ,_,R,q,fun xs h' p H' A' μ' kk x hm hp R'=>?_⟩;have hl:μ'.length=h'.length:=by simpa using R'.1.len
 exact L.nx _ _ _ H' A' (μ'++[p]) kk x ⟨R'.1,(R.2.ext x R.1.sub).set i ⟨p,by rw [<- hl];simp,rfl⟩⟩
def dO5 (to:DTE) (t:DTA):DTE:=fun δ h Q=>to δ h fun o h1=>match o with
 | .c j=>(match h1[j]? with
  | some (.l _)=>t δ h1 fun ws h2=>(match ws,h2[j]? with
   | [.d x],some (.l xs)=>xs.length < sizeLine/\Q (.d .none) (h2.set j (.l (xs++[x])))
   | _,_=>False)
  | _=>False)
 | _=>False
def cC7 {o e0:Expr} {es:List Expr} {to:DTE} {t:DTA} {apos cpos:Pos} (ho:DE X o to) (ha:DA X (e0::es) t)
  (hbase:autoParam (attributeBase o "append" X.env (eval o X.env)=eval o X.env) ZR)
  (hfew:((backTo cpos (starEach (e0::es) X.env)).all (fun x=>!x.1)&&(backToKw cpos (keywordEach [] X.env)).all (fun x=>x.1.isSome)
   && decide ((e0::es).length+([]:List Keyword).length+(if ([]:List Keyword).isEmpty then 0 else 1) < 30))=true:=by rfl)
  (hline:autoParam ((apos.endLine==cpos.line)=true) ZR) (hs:autoParam (starEach (e0::es) X.env=(false,eval e0 X.env)::starEach es X.env) ZR) (hplain:autoParam ((backTo cpos (starEach es X.env)).any (·.1)=false) ZR) :
  DE X (.Call (.Attribute o "append" apos) (e0::es) [] cpos) (dO5 to t):=aI (aM7 PySem.F.plainAttrs_list PySem.F.slot_list_append PySem.F.type_list_append qI ho ha hbase hfew hline hs hplain) fun σ H Q q=>by
 obtain ⟨δ,h,A,μ,k,R,q,c⟩:=q;refine ⟨δ,h,A,μ,_,R,q,fun o h1 vo H1 A1 μ1 q1 x1 R1 r1=>?_⟩;split at q1
 ·rename_i j;obtain ⟨a,ea,rfl⟩:=r1;split at q1
  rotate_left
  ·exact q1.elim
  rename_i xs1 ex1;obtain ⟨vs1,hv1,_⟩:=R1.val j a xs1 ea ex1;refine ⟨.inl ⟨rfl,_,SqL.of hv1⟩,δ,h1,A1,μ1,_,⟨R1,R.2.ext x1 R.1.sub⟩,q1,fun ws h2 vs H2 A2 μ2 q2 x2 R2 r2=>?_⟩;split at q2
  ·rename_i x xs ex;obtain ⟨v,rfl,rv⟩:=dY r2;have ea2:μ2[j]?=some a:=by
    obtain ⟨ν,e1,_⟩:=x2.pre;rw [e1,List.getElem?_append_left (List.getElem?_eq_some_iff.mp ea).1];exact ea
   obtain ⟨vs,hv,rr⟩:=R2.val j a xs ea2 ex;refine ⟨a,vs,v,rfl,rfl,hv,by rw [rr.length];exact q2.1,?_⟩;have hm:=List.mem_of_getElem? ea2;exact c _ _ _ _ A2 μ2 q2.2 ((x1.trans x2).trans (gE hm hv)) (gL R2 ea2 ((Reps.one rv).append rr)) (by show Rep _ _ _ _ _;rw [Rep])
  ·exact q2.elim
 ·exact q1.elim
end
def cond (c:Option Nat) (xs:List PyData) (h:aA):Prop:=match c with
 | none=>True
 | some i=>h[i]?=some (.l xs)
abbrev DTI:=DSt->aA->(List PyData->Option Nat->aA->Prop)->Prop
def cC8 (K:Frag) (A μ:List Addr) (H:Hp) (J:It) (xs:List PyData) (c:Option Nat):Prop:=∀ A' μ' H' h',Ext A A' μ μ' H H'->HeapRep K A' μ' h' H'->cond c xs h' ->
 (∀ i x,xs[i]?=some x->J.go i H'/\∀ v H2,J.yld i H' v H2->Ext A' A' μ' μ' H' H2/\HeapRep K A' μ' h' H2/\Rep K A' H2 x v)/\∀ i,xs.length<=i->J.stop i H'
def upI (K:Frag) (t:DTI):TI:=fun σ H R=>∃ (δ:DSt) (h:aA) (A μ:List Addr) (k:List PyData->Option Nat->aA->Prop),Ab K A μ δ h σ H/\t δ h k /\
 ∀ xs c h' J H' A' μ',k xs c h'->Ext A A' μ μ' H H'->HeapRep K A' μ' h' H'->xs.length<=sizeLine->cond c xs h'->cC8 K A' μ' H' J xs c->R J H'
def DI (X:Cx) (tg iter:Expr) (t:DTI):Prop:=PI X tg iter (upI X.K t)
def jT {X:Cx} {tg e:Expr} {t t':TI} (h:PI X tg e t) (m:∀ σ H R,t' σ H R->t σ H R):PI X tg e t':=fun pins s σ H R I q=>h pins s σ H R I (m σ H R q)
def cU5 (te:DTE):DTI:=fun δ h Q=>te δ h fun w h1=>match w with
 | .d (.list xs)=>Q xs none h1
 | .d (.tuple xs)=>Q xs none h1
 | .c i=>(match h1[i]? with
  | some (.l xs)=>Q xs (some i) h1
  | _=>False)
 | _=>False
def dO6 (K:Frag) (tl:TE):TI:=fun σ H R=>tl σ H fun x H1=>∃ a,x=.ref a/\((∃ xs,SqL K H1 a xs/\(xs.length<=sizeLine->R (Itl K a) H1))\/∃ xs,SqT K H1 a xs/\(xs.length<=sizeLine->R (Itt K a) H1))
def cC9 {X:Cx} {tg l:Expr} {tl:TE} (hl:PE X l tl):PI X tg l (dO6 X.K tl):=by
 intro pins s σ H R I h;refine thn (hl pins s σ H _ I h) fun v s1 ⟨x,H1,I1,r1,q1⟩=>?_;obtain ⟨a,e,q⟩:=q1;subst e;cases r1;rcases q with ⟨xs,hq,q⟩ | ⟨xs,hq,q⟩
 ·obtain ⟨its,rv,p,hz⟩:=I1.list hq;refine wpAny_pyIter_list p.isList ⟨s1.heap.objs.size,[s1.heap.objs.size],_,_,H1,rfl,I1.kept (t':=s1.toks) fun b o e=>Heap.get?_push_of_some _ e,aC9 a _,⟨_,Heap.get?_push_size _ rfl,rfl,rfl⟩,fun b hb=>?_,q hz⟩;rw [List.mem_singleton.mp hb];exact I1.fpOk (Nat.le_refl _) (I1.hok.fresh (Nat.le_refl _))
 ·obtain ⟨its,rv,p,hz⟩:=I1.tuple hq;refine wpAny_pyIter_tuple (show s1.heap.IsTuple a its.toArray from p) ⟨s1.heap.objs.size,[s1.heap.objs.size],_,_,H1,rfl,I1.kept (t':=s1.toks) fun b o e=>Heap.get?_push_of_some _ e,wU a _,⟨_,Heap.get?_push_size _ rfl,rfl,rfl⟩,fun b hb=>?_,q hz⟩;rw [List.mem_singleton.mp hb];exact I1.fpOk (Nat.le_refl _) (I1.hok.fresh (Nat.le_refl _))
def bF8 {X:Cx} {tg e:Expr} {te:DTE} (he:DE X e te):DI X tg e (cU5 te):=jT (cC9 he) fun σ H R q=>by
 obtain ⟨δ,h,A,μ,k,Rr,q,c⟩:=q;refine ⟨δ,h,A,μ,_,Rr,q,fun w h1 v H1 A1 μ1 q1 x1 R1 r1=>?_⟩;have listCase:∀ {xs:List PyData} {cc:Option Nat} {p:Addr} {vs:List V},cond cc xs h1->SqL X.K H1 p vs->Reps X.K A1 H1 xs vs ->
   (∀ A' μ' H' h',Ext A1 A' μ1 μ' H1 H'->HeapRep X.K A' μ' h' H'->cond cc xs h'->∃ ws,SqL X.K H' p ws/\Reps X.K A' H' xs ws)->k xs cc h1->vs.length<=sizeLine->R (Itl X.K p) H1:=fun {xs cc p vs} hc sq rr st kk hz=>by
  refine c xs cc h1 _ H1 A1 μ1 kk x1 R1 (by rw [<- rr.length];exact hz) hc fun A' μ' H' h' y R' hc'=>?_;obtain ⟨ws,sq',rr'⟩:=st A' μ' H' h' y R' hc';refine ⟨fun i x ex=>?_,fun i hi=>⟨ws,sq',by rw [rr'.length];exact hi⟩⟩;obtain ⟨z,ez,rz⟩:=rr'.get ex;refine ⟨⟨ws,z,sq',ez⟩,fun v H2 hy=>?_⟩;obtain ⟨e2,hy⟩:=hy;subst e2;have:=hy ws sq';rw [ez] at this;cases this;exact ⟨.refl,R',rz⟩
 split at q1
 ·rename_i xs;have z:Rep X.K A1 H1 (.list xs) v:=r1;rw [Rep] at z;obtain ⟨p,vs,rfl,la,rr⟩:=z;refine ⟨p,rfl,.inl ⟨vs,la.sq,fun hz=>listCase (cc:=none) trivial la.sq rr (fun A' μ' H' h' y R' _=>?_) q1 hz⟩⟩;have z:Rep X.K A' H' (.list xs) (.ref p):=Rep.ext y R1.sub (by rw [Rep];exact ⟨p,vs,rfl,la,rr⟩);rw [Rep] at z;obtain ⟨p',ws,e,la',rr'⟩:=z;cases e;exact ⟨ws,la'.sq,rr'⟩
 ·rename_i xs;obtain ⟨p,vs,rfl,ta,rr⟩:=bE (h:=h1) r1 rfl;refine ⟨p,rfl,.inr ⟨vs,ta.sq,fun hz=>?_⟩⟩;refine c xs none h1 _ H1 A1 μ1 q1 x1 R1 (by rw [<- rr.length];exact hz) trivial fun A' μ' H' h' y R' _=>?_;obtain ⟨p',ws,e,ta',rr'⟩:=bE (h:=h1) (r1.ext y R1.sub) rfl;cases e;refine ⟨fun i x ex=>?_,fun i hi=>⟨ws,ta'.sq,by rw [rr'.length];exact hi⟩⟩;obtain ⟨z,ez,rz⟩:=rr'.get ex;refine ⟨⟨ws,z,ta'.sq,ez⟩,fun v H2 hy=>?_⟩;obtain ⟨e2,hy⟩:=hy;subst e2;have:=hy ws ta'.sq;rw [ez] at this;cases this;exact ⟨.refl,R',rz⟩
 ·rename_i i;split at q1
  ·rename_i xs ex;obtain ⟨p,ep,rfl⟩:=r1;obtain ⟨vs,hv,rr⟩:=R1.val i p xs ep ex;refine ⟨p,rfl,.inl ⟨vs,.of hv,fun hz=>listCase (cc:=some i) ex (.of hv) rr (fun A' μ' H' h' y R' hc'=>?_) q1 hz⟩⟩;have ep':μ'[i]?=some p:=by
    obtain ⟨ν,e1,_⟩:=y.pre;rw [e1,List.getElem?_append_left (List.getElem?_eq_some_iff.mp ep).1];exact ep
   obtain ⟨ws,hw,rr'⟩:=R'.val i p xs ep' hc';exact ⟨ws,.of hw,rr'⟩
  ·exact q1.elim
 ·exact q1.elim
noncomputable def rng (lo:Int) (n:Nat):List PyData:=(List.range n).map fun (i:Nat)=>.int (lo+(i:Int))
def bF9 (t:DTA):DTI:=fun δ h Q=>t δ h fun ws h1=>match ws with
 | [.d (.int j)]=>(j<=16000000/\-(2^62)<=j)/\Q (rng 0 j.toNat) none h1
 | _=>False
def bG0 (t:DTA):DTI:=fun δ h Q=>t δ h fun ws h1=>match ws with
 | [.d (.int i),.d (.int j)]=>(j - i<=16000000/\-(2^62)<=i/\i < 2^62/\-(2^62)<=j/\j < 2^62)/\Q (rng i (j - i).toNat) none h1
 | _=>False
def rng_len (lo:Int) (n:Nat):(rng lo n).length=n:=by unfold rng;simp
def aO8 {K:Frag} {A μ:List Addr} {H:Hp} (lo:Int) (n:Nat):cC8 K A μ H (Itr lo n) (rng lo n) none:=fun A' μ' H' h' y R' _=>by
 refine ⟨fun i x ex=>?_,fun i hi=>by rw [rng_len] at hi;exact hi⟩;have hi:i < n:=by rw [<- rng_len lo n];exact (List.getElem?_eq_some_iff.mp ex).1
 refine ⟨hi,fun v H2 hy=>?_⟩;obtain ⟨e,hv⟩:=hy;subst e hv;unfold rng at ex;rw [List.getElem?_map,List.getElem?_range hi] at ex;cases ex;exact ⟨.refl,R',jR⟩
def aE5 {X:Cx} {tg a:Expr} {t:DTA} {p pos:Pos} (hm:X.mg "range"=none) (ha:DA X [a] t) (hg:autoParam (Gl X "range") ZR) (hs:autoParam (starEach [a] X.env=[(false,eval a X.env)]) ZR):DI X tg (.Call (.Name "range" p) [a] [] pos) (bF9 t) :=
 jT (aD0 hg hm ha hs) fun σ H R q=>by
  obtain ⟨δ,h,A,μ,k,Rr,q,c⟩:=q;refine ⟨δ,h,A,μ,_,Rr,q,fun ws h1 vs H1 A1 μ1 q1 x1 R1 r1=>?_⟩;split at q1
  ·rename_i j;obtain ⟨v,rfl,rv⟩:=dY r1;have e:=bD rv;subst e;obtain ⟨⟨z1,z2⟩,q1⟩:=q1;refine ⟨j,rfl,z2,by omega,c _ _ h1 _ H1 A1 μ1 q1 x1 R1 ?_ trivial (aO8 0 j.toNat)⟩;rw [rng_len];show j.toNat<=2^24;omega
  ·exact q1.elim
def aE6 {X:Cx} {tg a b:Expr} {t:DTA} {p pos:Pos} (hm:X.mg "range"=none) (ha:DA X [a,b] t) (hg:autoParam (Gl X "range") ZR) (hs:autoParam (starEach [a,b] X.env=[(false,eval a X.env),(false,eval b X.env)]) ZR) (hs2:autoParam (starEach [b] X.env=[(false,eval b X.env)]) ZR) :
  DI X tg (.Call (.Name "range" p) [a,b] [] pos) (bG0 t) :=
 jT (aD1 hg hm ha hs hs2) fun σ H R q=>by
  obtain ⟨δ,h,A,μ,k,Rr,q,c⟩:=q;refine ⟨δ,h,A,μ,_,Rr,q,fun ws h1 vs H1 A1 μ1 q1 x1 R1 r1=>?_⟩;split at q1
  ·rename_i i j;obtain ⟨v,r,rfl,rv,r2⟩:=r1;obtain ⟨v',rfl,rv'⟩:=dY r2;have e:=bD rv;have e':=bD rv';subst e e';obtain ⟨⟨z1,z2⟩,q1⟩:=q1;refine ⟨i,j,rfl,z2,c _ _ h1 _ H1 A1 μ1 q1 x1 R1 ?_ trivial (aO8 i (j - i).toNat)⟩;rw [rng_len];show (j - i).toNat<=2^24;omega
  ·exact q1.elim
noncomputable def aE7 (g:DTG) (tb:DTS) (c:Option Nat) (all:List PyData):List PyData->DTS
 | [],E,δ,h=>cond c all h/\E.nx δ h
 | x::r,E,δ,h=>cond c all h/\g (.d x) δ h fun δ2 h2=>tb { nx:=aE7 g tb c all r E,ct:=aE7 g tb c all r E,bk:=E.nx,rt:=E.rt } δ2 h2
def dO7 (ti:DTI) (g:DTG) (tb:DTS):DTS:=fun E δ h=>ti δ h fun xs c h1=>aE7 g tb c xs xs E δ h1
noncomputable def uY (g:DTG) (tt:DTT) (te:DTE) (c:Option Nat) (all:List PyData):List PyData->DSt->aA->List PyData->(List PyData->aA->Prop)->Prop
 | [],_,h,ac,Q=>cond c all h/\Q ac h
 | x::r,δ,h,ac,Q=>cond c all h/\g (.d x) δ h fun δ2 h2=>tt δ2 h2 fun b h3 =>
  if b=true then te δ2 h3 fun w h4=>(match w with
   | .d y=>uY g tt te c all r δ2 h4 (ac++[y]) Q
   | .c _=>False
   | .v _=>False)
  else uY g tt te c all r δ2 h3 ac Q
noncomputable def bS (ixs:List (Option Nat)) (δ:DSt):DSt:=ixs.map fun o=>o.bind fun i=>(δ[i]?).bind id
def aO9 (ixs:List (Option Nat)) (ti:DTI) (g:DTG) (tt:DTT) (te:DTE):DTF:=fun δ h Q=>ti δ h fun xs c h1=>uY g tt te c xs xs (bS ixs δ) h1 [] Q
def DIf (X:Cx) (ifs:List Expr) (t:DTT):Prop:=PIf X ifs (upT X.K t)
def dO8:DTT:=fun _ h Q=>Q true h
section
variable {K:Frag} {A A' μ μ':List Addr} {H H':Hp} {h h':aA}
def aE8 {δ:DSt} {σ:L2.St} {ixs:List (Option Nat)} (r:EnvRep K A μ H δ σ):EnvRep K A μ H (bS ixs δ) (pK ixs σ):=by
 refine ⟨by unfold bS pK;rw [List.length_map,List.length_map],fun j w e=>?_⟩;unfold bS at e;rw [List.getElem?_map] at e;cases q:ixs[j]? with
 | none=>rw [q] at e;cases e
 | some o =>
  rw [q] at e;cases o with
  | none=>cases e
  | some i =>
   have e':(δ[i]?).bind id=some w:=Option.some.inj e;cases q2:δ[i]? with
   | none=>rw [q2] at e';cases e'
   | some z =>
    rw [q2] at e';have e3:z=some w:=e';subst e3;obtain ⟨v,e4,r4⟩:=r.val i w q2;refine ⟨v,?_,r4⟩;unfold pK;rw [List.getElem?_map,q];show some ((σ[i]?).bind id)=_;rw [e4];rfl
def jD {p:Addr} {o:HO} (hp:H p=none):Ext A (p::A) μ μ H (upd H p o) :=
 ⟨fun _ z=>List.mem_cons_of_mem _ z,fun a z=>(List.mem_cons.mp z).elim (fun e=>.inr (by rw [e];exact hp)) .inl,⟨[],by simp,fun _ z=>(nomatch z)⟩,
  fun a o' _ q=>by rw [aR (aU q hp)];exact q,fun a o' q=>⟨o',by rw [aR (aU q hp)];exact q⟩⟩
def uZ {p:Addr} {o:HO} (R:HeapRep K A μ h H) (hp:H p=none):HeapRep K (p::A) μ h (upd H p o):=by
 refine ⟨R.len,R.nd,fun a z=>List.mem_cons_of_mem _ (R.sub a z),fun a z=>?_,fun i a xs e1 e2=>?_⟩
 ·rcases List.mem_cons.mp z with e | z
  ·subst e;exact ⟨_,bH⟩
  ·obtain ⟨o',q⟩:=R.trk a z;exact ⟨o',by rw [aR (aU q hp)];exact q⟩
 ·have k:=R.cel i a xs e1 e2;obtain ⟨o',q⟩:=k.some;exact k.ext (jD (μ:=μ) hp) R.sub (aR (aU q hp))
def vA {p:Addr} {o:HO} (x:Ext A A' μ μ' H H') (h1:H p=some o) (h2:p∈A) (h3:p∉μ):H' p=some o/\p∈A'/\p∉μ':=by
 refine ⟨x.keep p o h3 h1,x.sub p h2,fun z=>?_⟩;obtain ⟨ν,e,n⟩:=x.pre;rw [e] at z;rcases List.mem_append.mp z with z | z
 ·exact h3 z
 ·rw [n p z] at h1;cases h1
def RepW.upd {p:Addr} {o:HO} (hp:p∈A) {w:W} {v:V} (r:RepW K A μ H w v):RepW K A μ (L2.upd H p o) w v:=by
 cases w with
 | d x=>exact Rep.upd hp r
 | c i=>exact r
 | v u=>exact r
def EnvRep.upd {p:Addr} {o:HO} (hp:p∈A) {δ:DSt} {σ:L2.St} (r:EnvRep K A μ H δ σ):EnvRep K A μ (L2.upd H p o) δ σ:=⟨r.len,fun i w e=>by
 obtain ⟨v,e1,r1⟩:=r.val i w e;exact ⟨v,e1,r1.upd hp⟩⟩
def Ext.aside {p:Addr} {o:HO} (x:Ext A A' μ μ' H H') (hp:H p=none):Ext A A' μ μ' H (upd H' p o) :=
 ⟨x.sub,x.new,x.pre,fun a o' ha q=>by rw [aR (aU q hp)];exact x.keep a o' ha q,fun a o' q=>by rw [aR (aU q hp)];exact x.trk a o' q⟩
def Ext.addc {p:Addr} (x:Ext A A' μ μ' H H') (hp:H p=none):Ext A A' μ (μ'++[p]) H H':=by
 obtain ⟨ν,e,n⟩:=x.pre;exact ⟨x.sub,x.new,⟨ν++[p],by rw [e,List.append_assoc],fun a z=>(List.mem_append.mp z).elim (n a) fun z=>by rw [List.mem_singleton.mp z];exact hp⟩,x.keep,x.trk⟩
def aE9 {p:Addr} {xs:List PyData} {vs:List V} (R:HeapRep K A μ h H) (h1:H p=some (.lst vs)) (h2:p∈A) (h3:p∉μ) (r:Reps K A H xs vs):HeapRep K A (μ++[p]) (h++[(.l xs)]) H/\aN4 h:=by
 refine ⟨?_,R.refs⟩;refine ⟨by rw [List.length_append,List.length_append,R.len];rfl,?_,fun a z=>?_,R.trk,fun i a ys e1 e2=>?_⟩
 ·rw [List.nodup_append];refine ⟨R.nd,(by simp),fun a ha b hb=>?_⟩;rw [List.mem_singleton.mp hb];rintro rfl;exact h3 ha
 ·rcases List.mem_append.mp z with z | z
  ·exact R.sub a z
  ·rw [List.mem_singleton.mp z];exact h2
 ·by_cases hi:i < μ.length
  ·rw [List.getElem?_append_left hi] at e1;rw [List.getElem?_append_left (by rw [<- R.len];exact hi)] at e2;exact (R.cel i a ys e1 e2).anti (fun _ z=>z) fun j _ b eb=>by rw [List.getElem?_append_left (List.getElem?_eq_some_iff.mp eb).1];exact eb
  ·have hle:μ.length<=i:=Nat.le_of_not_lt hi;rw [List.getElem?_append_right hle] at e1;rw [List.getElem?_append_right (by rw [<- R.len];exact hle),<- R.len] at e2;have hz:i - μ.length=0:=by
    have:=(List.getElem?_eq_some_iff.mp e1).1;simp at this;omega
   rw [hz] at e1 e2;simp at e1 e2;subst e1 e2;exact ⟨vs,h1,r⟩
end
section
variable {X:Cx} {tg iter elt:Expr} {ifs:List Expr} {sc S:Scope} {N':List Str} {ixs:List (Option Nat)} {body:List Stmt} {ti:DTI} {g:DTG} {tb:DTS} {tt:DTT} {te:DTE} {pos:Pos}
def bG1:DIf X [] dO8:=fun pins s σ H Q I q=>by
 obtain ⟨δ,h,A,μ,k,R,q,c⟩:=q;exact bD4 pins s σ H Q I (c true h H A μ q .refl R.1)
def bG2 {c:Expr} (h:DT X c tt):DIf X [c] tt:=bD5 h
def cD0 (hxe:X.xe=fun _ _=>False) (hc:X.calm=true) (hi:DI X tg iter ti) (hg:DG X tg g) (hb:DSs X body tb) (hs:autoParam (∀ x,foldedSetIterable iter X.env x=pure x) ZI):DS X (.For tg iter body [] pos) (dO7 ti g tb) :=
 bN (bY4 (by rw [hxe];exact PassesOwn.never) hc hi hg hb hs) fun D σ H q=>by
  obtain ⟨δ,h,A,μ,E,R,q,L⟩:=q;refine ⟨δ,h,A,μ,_,R,q,fun xs c h1 J H1 A1 μ1 q1 x1 R1 hz hcd it=>?_⟩;refine ⟨fun i m σ' H'=>∃ δ' h' A' μ',m=xs.length - i/\i<=xs.length/\Ext A1 A' μ1 μ' H1 H'/\Ab X.K A' μ' δ' h' σ' H'/\aE7 g tb c xs (xs.drop i) E δ' h',⟨_,δ,h1,A1,μ1,rfl,Nat.zero_le _,.refl,⟨R1,R.2.ext x1 R.1.sub⟩,by simpa using q1⟩,?_⟩;rintro i m σ' H' ⟨δ',h',A',μ',rfl,hi,y,R',q'⟩
  by_cases hlt:i < xs.length
  ·rw [List.drop_eq_getElem_cons hlt] at q';obtain ⟨hcond,q'⟩:=q';obtain ⟨it1,_⟩:=it A' μ' H' h' y R'.1 hcond;obtain ⟨go,yl⟩:=it1 i xs[i] (by simp [hlt]);refine .inr ⟨go,fun σ2 H2=>∃ δ2 h2 A2 μ2,Ext A1 A2 μ1 μ2 H1 H2/\Ab X.K A2 μ2 δ2 h2 σ2 H2/\aE7 g tb c xs (xs.drop (i+1)) E δ2 h2,fun σ2 H2 ⟨δ2,h2,A2,μ2,z1,z2,z3⟩=>⟨xs.length - (i+1),by omega,δ2,h2,A2,μ2,rfl,hlt,z1,z2,z3⟩,fun v H2 hy=>?_⟩;obtain ⟨y2,R2,r2⟩:=yl v H2 hy;refine ⟨.d xs[i],δ',h',A',μ',_,⟨R2,R'.2.ext y2 R'.1.sub⟩,r2,q',fun δ3 h3 σ3 H3 A3 μ3 q3 x3 R3=>?_⟩;have y3:=(y.trans y2).trans x3;refine ⟨δ3,h3,A3,μ3,_,R3,q3,⟨fun δ4 h4 σ4 H4 A4 μ4 q4 x4 R4=>⟨δ4,h4,A4,μ4,y3.trans x4,R4,q4⟩,fun δ4 h4 σ4 H4 A4 μ4 q4 x4 R4=>L.nx δ4 h4 σ4 H4 A4 μ4 q4 (x1.trans (y3.trans x4)) R4,
    fun δ4 h4 σ4 H4 A4 μ4 q4 x4 R4=>⟨δ4,h4,A4,μ4,y3.trans x4,R4,q4⟩,fun w h4 v H4 A4 μ4 q4 x4 R4 r4=>L.rt w h4 v H4 A4 μ4 q4 (x1.trans (y3.trans x4)) R4 r4⟩⟩
  ·have e:i=xs.length:=by omega
   subst e;rw [List.drop_length] at q';obtain ⟨hcond,q'⟩:=q';obtain ⟨_,it2⟩:=it A' μ' H' h' y R'.1 hcond;exact .inl ⟨it2 _ (Nat.le_refl _),L.nx δ' h' σ' H' A' μ' q' (x1.trans y) R'⟩
def zJ {σ:L2.St} {H:Hp} {Q:VK} (q:upF X.K (aO9 ixs ti g tt te) σ H Q):aN3 ixs (upI X.K ti) (upG X.K g) (upT X.K tt) (up X.K te) σ H Q:=by
 obtain ⟨δ,h,A,μ,k,R,q,c⟩:=q;refine ⟨δ,h,A,μ,_,R,q,fun xs cc h1 J H2 A1 μ1 q1 x1 R1 hz hcd it=>?_⟩;intro acc hacc;have nA:=R1.notA hacc;have E1:=aE8 (ixs:=ixs) (R.2.ext x1 R.1.sub);refine ⟨fun i m ys σ' H'=>∃ δ' h' A' μ' ac,m=xs.length - i/\i<=xs.length/\H' acc=some (.lst ys)/\acc∈A'/\acc∉μ'/\Ext A1 A' μ1 μ' H2 H'/\Ab X.K A' μ' δ' h' σ' H'/\Reps X.K A' H' ac ys/\ys.length<=i/\uY g tt te cc xs (xs.drop i) δ' h' ac k,
  ⟨_,bS ixs δ,h1,acc::A1,μ1,[],rfl,Nat.zero_le _,bH,List.mem_cons_self,fun z=>nA (R1.sub _ z),jD hacc,⟨uZ R1 hacc,E1.ext (jD hacc) R1.sub⟩,.nil,Nat.le_refl _,by simpa using q1⟩,?_⟩
 rintro i m ys σ' H' ⟨δ',h',A',μ',ac,rfl,hi,a1,a2,a3,y,R',rr,hyl,q'⟩
 by_cases hlt:i < xs.length
 ·rw [List.drop_eq_getElem_cons hlt] at q';obtain ⟨hcond,q'⟩:=q';obtain ⟨it1,_⟩:=it A' μ' H' h' y R'.1 hcond;obtain ⟨go,yl⟩:=it1 i xs[i] (by simp [hlt]);refine .inr ⟨go,fun v H3 hy=>?_⟩;obtain ⟨y2,R2,r2⟩:=yl v H3 hy;refine ⟨.d xs[i],δ',h',A',μ',_,⟨R2,R'.2.ext y2 R'.1.sub⟩,r2,q',fun δ4 h4 σ4 H4 A4 μ4 q4 x4 R4=>?_⟩;refine ⟨δ4,h4,A4,μ4,_,R4,q4,fun b h5 H5 A5 μ5 q5 x5 R5=>?_⟩;have z5:=(y2.trans x4).trans x5;obtain ⟨b1,b2,b3⟩:=vA z5 a1 a2 a3;dsimp only at q5 ⊢;cases b with
  | false =>
   rw [if_neg Bool.false_ne_true] at q5;rw [if_neg Bool.false_ne_true];exact ⟨xs.length - (i+1),by omega,δ4,h5,A5,μ5,ac,rfl,hlt,b1,b2,b3,y.trans z5,⟨R5,R4.2.ext x5 R4.1.sub⟩,rr.ext z5 R'.1.sub,by omega,q5⟩
  | true =>
   rw [if_pos rfl] at q5;rw [if_pos rfl];refine ⟨δ4,h5,A5,μ5,_,⟨R5,R4.2.ext x5 R4.1.sub⟩,q5,fun w h6 v6 H6 A6 μ6 q6 x6 R6 r6=>?_⟩;have z6:=z5.trans x6;obtain ⟨c1,c2,c3⟩:=vA z6 a1 a2 a3;cases w with
   | c j=>exact q6.elim
   | v u=>exact q6.elim
   | d d6 =>
    have hl6:ys.length < sizeLine:=by omega
    refine ⟨c1,hl6,xs.length - (i+1),by omega,δ4,h6,A6,μ6,ac++[d6],rfl,hlt,bH,c2,c3,(y.trans z6).aside hacc,⟨xE R6 c2 c3,((R4.2.ext x5 R4.1.sub).ext x6 R5.sub).upd c2⟩,?_,?_,q6⟩
    ·exact ((Reps.one r6).append (rr.ext z6 R'.1.sub)).upd c2
    ·rw [List.length_append,List.length_singleton];omega
 ·have e:i=xs.length:=by omega
  subst e;rw [List.drop_length] at q';obtain ⟨hcond,q'⟩:=q';obtain ⟨_,it2⟩:=it A' μ' H' h' y R'.1 hcond;have x2:=x1.trans y;obtain ⟨ν,e1,_⟩:=x2.pre;exact .inl ⟨it2 _ (Nat.le_refl _),a1,c _ h' acc H' A' μ' q' (x2.addc (x1.back hacc)) ⟨ν,e1⟩ (x1.back hacc) (aE9 R'.1 a1 a2 a3 rr)⟩
def bG3 {N:List Str} (hxe:X.xe=fun _ _=>False) (hc:X.calm=true) (hS:X.env.scope=S) (hXN:X.N=N) (SC:CompSc N N' ixs S sc) (hi:DI X tg iter ti)
  (hg:∀ cl C s H fp,DG (blk X N' sc cl C s H fp) tg g) (ht:∀ cl C s H fp,DIf (blk X N' sc cl C s H fp) ifs tt) (he:∀ cl C s H fp,DE (blk X N' sc cl C s H fp) elt te)
  (hs:autoParam (∀ x,foldedSetIterable iter X.env x=pure x) ZI):DF X (.ListComp elt [⟨tg,iter,ifs,0⟩] sc pos) (aO9 ixs ti g tt te) :=
 aI (bD6 (N':=N') (ixs:=ixs) (g:=upG X.K g) (tt:=upT X.K tt) (te:=up X.K te) hxe hc hS (by rw [hXN];exact SC) hi hg ht he hs) fun _ _ _ q=>zJ q
def aP0 {y:Str} {i:Nat} {py spos:Pos} {N:List Str} (hN:X.N.Nodup) (hxe:X.xe=fun _ _=>False) (hc:X.calm=true) (hS:X.env.scope=S) (hXN:X.N=N) (SC:CompSc N N' ixs S sc) (hi:DI X tg iter ti)
  (hg:∀ cl C s H fp,DG (blk X N' sc cl C s H fp) tg g) (ht:∀ cl C s H fp,DIf (blk X N' sc cl C s H fp) ifs tt) (he:∀ cl C s H fp,DE (blk X N' sc cl C s H fp) elt te)
  (hiN:autoParam (X.N[i]?=some y) ZR) (hy:autoParam (X.env.scope.names.lookup y=some .local) ZR) (hsw:autoParam (swapsWith (.ListComp elt [⟨tg,iter,ifs,0⟩] sc pos) (some (.Name y py)) spos.line X.env=pure true) ZR)
  (hs:autoParam (∀ x,foldedSetIterable iter X.env x=pure x) ZI):DFS X i (.Assign [.Name y py] (.ListComp elt [⟨tg,iter,ifs,0⟩] sc pos) spos) (aO9 ixs ti g tt te) :=
 bN (xC (N':=N') (ixs:=ixs) (g:=upG X.K g) (tt:=upT X.K tt) (te:=up X.K te) hxe hc hS (by rw [hXN];exact SC) hi hg ht he hN hiN hy hsw hs) fun _ _ _ q=>zJ q
end
noncomputable def cM (N:List Str) (ws:List W):DSt:=ws.map some++List.replicate (N.length - ws.length) none
noncomputable def bR0 (h0:aA) (k:PyData->aA->Prop):DEnds where
 nx:=fun _ h=>okP h0 h/\k .none (h.take h0.length)
 rt:=fun w h=>okP h0 h/\(match w with
  | .d x=>k x (h.take h0.length)
  | .c i=>(match h[i]? with
   | some (.l xs)=>h0.length<=i/\k (.list xs) (h.take h0.length)
   | some (.k kvs)=>h0.length<=i/\k (.dict kvs) (h.take h0.length)
   | _=>False)
  | .v _=>False)
theorem dZ {K:Frag} {A μ:List Addr} {H:Hp}:∀ {ws:List W} {vs:List V},iB K A μ H ws vs->vs.length=ws.length
 | [],_,h=>by have e:_=[]:=h;subst e;rfl
 | w::ws,_,h=>by
  obtain ⟨v,r,rfl,_,h⟩:=h;rw [List.length_cons,List.length_cons,dZ h]
theorem qM {K:Frag} {A μ:List Addr} {H:Hp}:∀ {ws:List W} {vs:List V} {i:Nat} {w:W},iB K A μ H ws vs->ws[i]?=some w->∃ v,vs[i]?=some v/\RepW K A μ H w v
 | [],_,_,_,_,e=>by simp at e
 | y::ws,_,0,w,h,e=>by
  obtain ⟨v,r,rfl,hv,_⟩:=h;simp at e;subst e;exact ⟨v,rfl,hv⟩
 | y::ws,_,i+1,w,h,e=>by
  obtain ⟨v,r,rfl,_,h⟩:=h;obtain ⟨u,e1,e2⟩:=qM (i:=i) h (by simpa using e);exact ⟨u,by simpa using e1,e2⟩
def iS {K:Frag} {A μ:List Addr} {H:Hp} {N:List Str} {ws:List W} {vs:List V} (r:iB K A μ H ws vs):EnvRep K A μ H (cM N ws) (L2.start N vs):=by
 have hl:=dZ r;refine ⟨by unfold cM L2.start;simp [hl],fun i w e=>?_⟩;unfold cM at e
 by_cases hi:i < ws.length
 ·rw [List.getElem?_append_left (by simpa using hi),List.getElem?_map] at e;cases q:ws[i]? with
  | none=>rw [q] at e;cases e
  | some w' =>
   rw [q] at e;cases e;obtain ⟨v,e1,r1⟩:=qM r q;refine ⟨v,?_,r1⟩;unfold L2.start;rw [List.getElem?_append_left (by simp;omega),List.getElem?_map,e1];rfl
 ·rw [List.getElem?_append_right (by simpa using hi),List.getElem?_replicate] at e;split at e<;>cases e
def iT {K:Frag} {A A1 μ μ1:List Addr} {h h1:aA} {H H1:Hp} (R:HeapRep K A μ h H) (R1:HeapRep K A1 μ1 h1 H1) (x:Ext A A1 μ μ1 H H1) (ok:okP h h1):Ext A A μ μ H H1/\HeapRep K A μ (h1.take h.length) H1:=by
 obtain ⟨ν,e,n⟩:=x.pre;have hle:μ.length<=h1.length:=by
  rw [<- R1.len,e,List.length_append];omega
 refine ⟨⟨fun _ z=>z,fun _ z=>.inl z,⟨[],by simp,fun _ z=>(nomatch z)⟩,x.keep,x.trk⟩,⟨by rw [List.length_take,<- R.len];omega,R.nd,R.sub,fun a z=>?_,fun i a xs e1 e2=>?_⟩⟩
 ·obtain ⟨o,q⟩:=R.trk a z;exact x.trk a o q
 ·have hi:i < μ.length:=(List.getElem?_eq_some_iff.mp e1).1;have e3:h1[i]?=some xs:=by rw [<- R.len] at e2;rw [List.getElem?_take_of_lt hi] at e2;exact e2
  refine (R1.cel i a xs (by rw [e,List.getElem?_append_left hi];exact e1) e3).anti x.sub fun j hj b eb=>?_;have hlt:j < μ.length:=by
   rcases ok i xs (by rw [<- R.len];exact hi) e3 with z | z
   ·rw [R.len];exact z j hj
   ·exact (R.cel i a xs e1 z).lt j hj
  rw [e,List.getElem?_append_left hlt] at eb;exact eb
section
variable {P:Program} {w:World} {K:Frag} {mg:Str->Option Value} {base:Heap}
def cU6 {x qual:Str} {st:Stmt} {f:Addr} {fd:FuncData} {N ps:List Str} {k:Nat} {sp:Sp} (F:Fun K x qual st f fd) (S:FnScope N ps (aF st)) (len:∀ vs H Q E,sp vs H Q E->vs.length=ps.length)
  (hbody:∀ (cdv:Value) (A:Around) (outer:List Env) (s:Shared) (H:Hp) (vs:List V) (Q:VK) (E:XK),fd.code=cdv->Room k (A.deeper (envOfC qual (aF st) s.heap.objs.size f cdv))->sp vs H Q E ->
   ∃ t,PSs (lY CX0 P w K mg base N qual (aF st) f cdv A outer s H E).nox (bI st) t/\t { nx:=fun _ H'=>Q .non H',rt:=Q } (start N vs) H):FnOk P w K mg base CX0 (k+1) f fd ps sp:=by
 obtain ⟨oc,od,kV,doc,pm,an,cdv,ct,osl,rfl,lk,hcd⟩:=F.ex;refine aM3 lk hcd S len fun A outer s H vs Q E hr hsp=>?_;obtain ⟨t,h,q⟩:=hbody cdv A outer s H vs Q E rfl hr hsp;exact ⟨t,h.nox,q⟩
def dfn {x qual:Str} {st:Stmt} {f:Addr} {fd:FuncData} {N ps:List Str} {k:Nat} {d:DSp} (F:Fun K x qual st f fd) (S:FnScope N ps (aF st)) (len:∀ ws h k,d ws h k->ws.length=ps.length)
  (hbody:∀ (cdv:Value) (A:Around) (outer:List Env) (s:Shared) (H:Hp) (E:XK),fd.code=cdv->Room k (A.deeper (envOfC qual (aF st) s.heap.objs.size f cdv)) ->
   ∃ t,DSs (lY CX0 P w K mg base N qual (aF st) f cdv A outer s H E).nox (bI st) t/\∀ ws h kk,d ws h kk->t (bR0 h kk) (cM N ws) h):FnOk P w K mg base CX0 (k+1) f fd ps (mB K d):=by
 refine cU6 F S (fun vs H Q E ⟨ws,h,A,μ,kk,R,r,q,c⟩=>by rw [dZ r];exact len _ _ _ q) fun cdv A outer s H vs Q E hcd hr hsp=>?_;obtain ⟨ws,h,B,μ,kk,R,r,q,c⟩:=hsp;obtain ⟨t,ht,hq⟩:=hbody cdv A outer s H E hcd hr;refine ⟨_,ht,cM N ws,h,B,μ,bR0 h kk,⟨R,iS r⟩,hq ws h kk q,⟨fun δ' h' σ' H' A' μ' q' x' R'=>?_,fun δ' h' σ' H' A' μ' q' x' R'=>q'.elim,fun δ' h' σ' H' A' μ' q' x' R'=>q'.elim,fun z h' v H' A' μ' q' x' R' r'=>?_⟩⟩
 ·obtain ⟨y,R2⟩:=iT R R'.1 x' q'.1;exact c _ _ _ _ B q'.2 y R2 (by rw [Rep])
 ·obtain ⟨ok,q'⟩:=q';obtain ⟨y,R2⟩:=iT R R' x' ok;cases z with
  | d z=>exact c _ _ _ _ B q' y R2 (Rep.anti x'.sub r')
  | v u=>exact q'.elim
  | c i =>
   obtain ⟨a,ea,rfl⟩:=r';have q2:(match h'[i]? with | some (.l xs)=>h.length<=i/\kk (.list xs) (h'.take h.length) | some (.k kvs)=>h.length<=i/\kk (.dict kvs) (h'.take h.length) | _=>False):=q';cases e:h'[i]? with
   | none=>rw [e] at q2;exact q2.elim
   | some cc =>
    cases cc with
    | t _ _ _=>rw [e] at q2;exact q2.elim
    | o _ _=>rw [e] at q2;exact q2.elim
    | r _=>rw [e] at q2;exact q2.elim
    | l xs =>
     rw [e] at q2;obtain ⟨hi,q3⟩:=q2;obtain ⟨vs,hv,rr⟩:=R'.val i a xs ea e;refine c _ _ _ _ B q3 y R2 ?_;rw [Rep];refine ⟨a,vs,rfl,.inl ⟨fun z=>?_,.inl hv⟩,rr.anti x'.sub⟩;obtain ⟨ν,e1,n⟩:=x'.pre;rw [e1,List.getElem?_append_right (by rw [R.len];exact hi)] at ea;have:=n a (List.mem_of_getElem? ea);obtain ⟨o,q⟩:=R.trk a z;rw [this] at q;cases q
    | k kvs =>
     rw [e] at q2;obtain ⟨hi,q3⟩:=q2;obtain ⟨vs,hv,rr⟩:=R'.vad i a kvs ea e;refine c _ _ _ _ B q3 y R2 ?_;rw [Rep];refine ⟨a,vs,rfl,⟨fun z=>?_,.inl hv⟩,rr.anti x'.sub⟩;obtain ⟨ν,e1,n⟩:=x'.pre;rw [e1,List.getElem?_append_right (by rw [R.len];exact hi)] at ea;have:=n a (List.mem_of_getElem? ea);obtain ⟨o,q⟩:=R.trk a z;rw [this] at q;cases q
def aP1 {x qual:Str} {st:Stmt} {f:Addr} {fd:FuncData} {ps:List Str} {k:Nat} {d:DSp} (h:FnOk P w K mg base CX0 k f fd ps (mB K d)) (hm:mg x=some (.ref f)) (F:Fun K x qual st f fd) (b:Binds K fd ps []):DFn P w K mg base k x d:=⟨f,fd,ps,h,hm,F.kp,b⟩
end
section
variable {X:Cx} {a b e:Expr} {es:List Expr} {ta tb te:DTE} {t:DTA} {pos p p2:Pos} {x:Str}
def zK:OpR X (binaryOp .Add) (fun x y H Q=>∃ a b xs ys,x=.ref a/\y=.ref b/\SqL X.K H a xs/\SqL X.K H b ys/\xs.length+ys.length<=sizeLine/\∀ p,H p=none->Q (.ref p) (upd H p (.lst (xs++ys)))):=by
 intro pins s σ H x y v u Q I rx ry h;obtain ⟨a,b,xs,ys,rfl,rfl,ha,hb,hz,q⟩:=h;cases rx;cases ry;obtain ⟨its,r1,p1,_⟩:=I.list ha;obtain ⟨its2,r2,p2,_⟩:=I.list hb;obtain ⟨⟨cls,dd,data,sl⟩,n,ho,hc,_,hd⟩:=id p1;obtain ⟨⟨cls2,dd2,data2,sl2⟩,n2,ho2,hc2,_,hd2⟩:=id p2;simp only at hc hd hc2 hd2;subst hc hd hc2 hd2;have l1:=r1.length;have l2:=r2.length;have ea:its.toArray++its2.toArray=(its++its2).toArray:=by simp
 refine concat_meets ⟨_,ho,rfl⟩ ⟨_,ho2,rfl⟩ noFill_list_add seq_list_add PySem.F.slot_list_add PySem.F.entry_list_add (PySem.F.args_list_add_2 _ _) (list_addW a b its.toArray its2.toArray n n2 dd dd2 sl sl2 (by rw [List.size_toArray,List.size_toArray];omega)) ⟨ho,ho2,?_⟩;rw [ea];exact ⟨.ref _,_,I.lnew (t':=s.toks) (r1.append r2) (by rw [List.length_append];exact hz),rfl,q _ I.fresh⟩
noncomputable def dH:List PyData->Option (List Bool)
 | []=>some []
 | .bool b::r=>(dH r).map (b::·)
 | _::_=>none
theorem jE {K:Frag} {A:List Addr} {H:Hp}:∀ {xs:List PyData} {bs:List Bool} {vs:List V},dH xs=some bs->Reps K A H xs vs->vs=bs.map V.bl
 | [],_,_,e,h=>by rw [Reps] at h;cases e;exact h
 | x::r,bs,vs,e,h=>by
  rw [Reps] at h;obtain ⟨v,rr,rfl,hv,h⟩:=h;cases x with
  | bool b =>
   unfold dH at e;cases q:dH r with
   | none=>rw [q] at e;cases e
   | some cs =>
    rw [q] at e;have e':b::cs=bs:=Option.some.inj e;subst e';rw [Rep] at hv;rw [hv,jE q h];rfl
  | _=>cases e
def aF0 {f:Nat->Bool} (bs:List Bool) (h:∀ i b,bs[i]?=some b->f i=b):(List.range bs.length).all f=bs.all id:=by
 rw [Bool.eq_iff_iff,List.all_eq_true,List.all_eq_true];constructor
 ·intro z b hb;obtain ⟨i,hi,e⟩:=List.mem_iff_getElem.mp hb;have:=z i (by simpa using hi);rw [h i b (by simp [hi,e])] at this;exact this
 ·intro z i hi;have hi':i < bs.length:=by simpa using hi
  rw [h i bs[i] (by simp [hi'])];exact z _ (List.getElem_mem hi')
def aF1 (hc:X.calm=true):cU X (.builtin "all") (fun xs H Q=>∃ (p:Addr) (bs:List Bool),xs=[.ref p]/\SqL X.K H p (bs.map V.bl)/\Q (.bl (bs.all id)) H):=by
 intro pins s σ H xs us Q I r h;obtain ⟨p,bs,rfl,sq,q⟩:=h;obtain ⟨u,rfl,ru⟩:=lK r;cases ru;obtain ⟨its,rv,pl,hz⟩:=I.list sq;have hl:=rv.length;rw [List.length_map] at hl;have hlt:p < s.heap.objs.size:=by obtain ⟨o,n,e,_⟩:=pl;exact Heap.lt_size e
 refine call_all_walk (wpAny_pyIter_list pl.isList ?_);refine ⟨s.heap.objs.size,_,_,its.toArray.size,_,_,fun i=>(bs[i]?).getD true,rfl,Walks.list (A:=X.A.in1) (I.ok.hd hc) s.heap.objs.size p (Nat.ne_of_lt hlt) its.toArray,⟨⟨_,Heap.get?_push_size _ rfl,rfl,rfl⟩,?_⟩,fun i v s' Q' E' hP hQ=>?_,fun h' tk hk=>?_⟩
 ·obtain ⟨o,ho,r⟩:=pl.isList;exact ⟨o,Heap.get?_push_of_some _ ho,r⟩
 ·have hi:i < its.length:=by
   have:=(Array.getElem?_eq_some_iff.mp hP).1
   simpa using this
  have eb:bs[i]?=some (bs[i]'(by omega)):=by simp
  obtain ⟨u',e1,e2⟩:=rv.get (i:=i) (x:=V.bl (bs[i]'(by omega))) (by rw [List.getElem?_map,eb];rfl);have e3:v=u':=by
   have hP':its[i]?=some v:=by simpa using hP
   rw [hP'] at e1;exact Option.some.inj e1
  subst e3;cases e2;dsimp only at hQ;rw [eb] at hQ;exact wpAny_truthy_bool hQ
 ·have e:(List.range its.toArray.size).all (fun i=>(bs[i]?).getD true)=bs.all id:=by
   have:=aF0 (f:=fun i=>(bs[i]?).getD true) bs (fun i b e=>by simp [e]);rw [List.size_toArray,<- hl];exact this
  refine ⟨.bl (bs.all id),H,I.kept fun b o eo=>hk b o ?_ (Heap.get?_push_of_some _ eo),by rw [e];rfl,q⟩;intro z;rw [List.mem_singleton.mp z] at eo;exact absurd (Heap.lt_size eo) (Nat.lt_irrefl _)
noncomputable def cD1:DC
 | [w],h,Q=>match ref h w with
  | some (.list xs)=>(match dH xs with
   | some bs=>Q (.d (.bool (bs.all id))) h
   | none=>False)
  | _=>False
 | _,_,_=>False
def aF2 (hc:X.calm=true):cU X (.builtin "all") (upC X.K cD1):=by
 intro pins s σ H xs us Q I r h;obtain ⟨ws,h,A,μ,k,R,rw',q,c⟩:=h;unfold cD1 at q;split at q
 ·rename_i w h0 k0;obtain ⟨v,rfl,rv⟩:=dY rw';split at q
  ·rename_i ys ey;split at q
   ·rename_i bs eb;obtain ⟨p,vs,rfl,sq,rr⟩:=bZ R rv ey;have ev:=jE eb rr;subst ev;exact aF1 hc pins s σ H _ us Q I r ⟨p,bs,rfl,sq,c _ _ _ _ _ _ q .refl R bB⟩
   ·exact q.elim
  ·exact q.elim
 ·exact q.elim
noncomputable def eU:PyData->String
 | .none=>"NoneType"
 | .bool _=>"bool"
 | .int _=>"int"
 | .str _=>"str"
 | .list _=>"list"
 | .tuple _=>"tuple"
 | .dict _=>"dict"
noncomputable def isi (d:PyData) (T:String):Bool:=eU d==T||(eU d=="bool"&&T=="int")
def lN (T:String):Prop:=∀ (K:Frag) (d:PyData),PySem.W.kitOne K (.type (eU d)) (.type T)=some (isi d T)
def bG4:lN "int":=fun K d=>by cases d<;>kernel_rfl
def aP2:lN "bool":=fun K d=>by cases d<;>kernel_rfl
def bG5:lN "str":=fun K d=>by cases d<;>kernel_rfl
def aF3:lN "tuple":=fun K d=>by cases d<;>kernel_rfl
def aP3:lN "list":=fun K d=>by cases d<;>kernel_rfl
def dO9 (T:String) (te:DTE):DTE:=fun δ h Q=>te δ h fun w h1=>match ref h1 w with
 | some d=>Q (.d (.bool (isi d T))) h1
 | none=>False
def aP4 {pins:List (Addr×Obj)} {σ:L2.St} {H:Hp} {s:Shared} {A μ:List Addr} {h:aA} {w:W} {d:PyData} {v:V} {u:Value} {T:String} {Q:Value->Shared->Prop} {Ar:Around} {E:Value->Shared->Prop}
  (I:Inv X pins σ H s) (R:HeapRep X.K A μ h H) (r:RepW X.K A μ H w v) (e:ref h w=some d) (rv:RelV v u) (hk:lN T) (q:∀ tk,Q (.bool (isi d T)) { s with toks:=tk }) :
  wpAny (model X.prog X.w) Ar (call (.builtin "isinstance") [u,.type T]) Q E s:=by
 have ek:=hk X.K d;cases d with
 | none =>
  have z:=bO R r e;rw [See] at z;subst z;cases rv;exact PySem.W.kia_one PySem.W.kitx_none I.kIn True.intro ek (fun z=>nomatch z) q
 | bool b =>
  have z:=bO R r e;rw [See] at z;subst z;cases rv;exact PySem.W.kia_one PySem.W.kitx_bool I.kIn True.intro ek (fun z=>nomatch z) q
 | int b =>
  have z:=bO R r e;rw [See] at z;subst z;obtain ⟨t,rfl⟩:=rv;exact PySem.W.kia_one PySem.W.kitx_int I.kIn True.intro ek (fun z=>nomatch z) q
 | str b =>
  have z:=bO R r e;rw [See] at z;subst z;obtain ⟨t,rfl⟩:=rv;exact PySem.W.kia_one PySem.W.kitx_str I.kIn True.intro ek (fun z=>nomatch z) q
 | list xs =>
  obtain ⟨p,vs,rfl,sq,_⟩:=bZ R r e;cases rv;obtain ⟨its,_,⟨o,n,ho,hc,_⟩,_⟩:=I.list sq;exact PySem.W.kia_one PySem.W.kitx_list I.kIn ⟨o,ho,hc⟩ ek (fun z=>nomatch z) q
 | tuple xs =>
  obtain ⟨p,vs,rfl,sq,_⟩:=bE r e;cases rv;obtain ⟨its,_,⟨o,ho,hc,_⟩,_⟩:=I.tuple sq.sq;exact PySem.W.kia_one PySem.W.kitx_tuple I.kIn ⟨o,ho,hc⟩ ek (fun z=>nomatch z) q
 | dict kvs =>
  cases w with
  | v u=>cases e
  | c i =>
   obtain ⟨p,ep,rfl⟩:=r;dsimp only [DL.ref] at e;cases q0:h[i]? with
   | none=>rw [q0] at e;cases e
   | some cc =>
    cases cc with
    | t _ _ _=>rw [q0] at e;cases e
    | o _ _=>rw [q0] at e;cases e
    | r _=>rw [q0] at e;cases e
    | l ys=>rw [q0] at e;cases e
    | k ys =>
     obtain ⟨rr,hp,_⟩:=R.vad i p ys ep q0;cases rv;obtain ⟨_,_,vs,_,o,es,ep',h1,h2,_⟩:=nM I.hok (.inl hp);exact PySem.W.kia_one PySem.W.kitx_dict I.kIn ⟨o,h1,h2.1⟩ ek (fun z=>nomatch z) q
  | d y =>
   cases e;have z:Rep X.K A H (.dict kvs) v:=r;rw [Rep] at z;obtain ⟨p,kv',rfl,⟨_,hp⟩,_⟩:=z;cases rv;obtain ⟨_,_,vs,_,o,es,ep,h1,h2,_⟩:=nM I.hok hp;exact PySem.W.kia_one PySem.W.kitx_dict I.kIn ⟨o,h1,h2.1⟩ ek (fun z=>nomatch z) q
def cD2 {T:Str} {Ts:String} (hk:lN Ts) (hm:X.mg "isinstance"=none) (hT:X.mg T=none) (he:DE X e te) (hv:autoParam (bootBuiltins T=some (.type Ts)) ZR) (hg:autoParam (Gl X "isinstance") ZR) (hgT:autoParam (Gl X T) ZR) (hTn:autoParam (T≠"__name__") ZD) (hTd:autoParam ((T==("__debug__":Str))=false) ZD)
  (hs:autoParam (starEach (e::[.Name T p2]) X.env=(false,eval e X.env)::starEach [.Name T p2] X.env) ZR) (hs2:autoParam (starEach ([.Name T p2]:List Expr) X.env=(false,eval (.Name T p2) X.env)::starEach [] X.env) ZR)
  (hpl:autoParam ((backTo pos (starEach ([.Name T p2]:List Expr) X.env)).any (·.1)=false) ZR):DE X (.Call (.Name "isinstance" p) [e,.Name T p2] [] pos) (dO9 Ts te):=by
 have hT':PE X (.Name T p2) (tC (.ty Ts)):=yZ hgT hT hv rfl hTn hTd;have ha:PA X [e,.Name T p2] (uF (up X.K te) (uF (tC (.ty Ts)) bC2)):=iQ he (iQ hT' nG hs2) hs;have hc:cU X (.builtin "isinstance") (fun xs H Q=>∃ x h A μ w d,xs=[x,.ty Ts]/\HeapRep X.K A μ h H/\RepW X.K A μ H w x/\ref h w=some d/\Q (.bl (isi d Ts)) H):=by
  intro pins s σ H xs us Q I r h;obtain ⟨x,h,A,μ,w,d,rfl,R,rx,e,q⟩:=h;cases r with
  | cons r1 r2 =>
   cases r2 with
   | cons r3 r4 =>
    cases r4;cases r3;exact aP4 I R rx e r1 hk fun tk=>⟨.bl _,H,I.tok tk,rfl,q⟩
 refine aI (nJ hc hg hm (by rfl) ha (by decide) (by decide) hs hpl) fun σ H Q q=>?_;obtain ⟨δ,h,A,μ,k,R,q,c⟩:=q;refine ⟨δ,h,A,μ,_,R,q,fun w h1 v H1 A1 μ1 q1 x1 R1 r1=>?_⟩;split at q1
 ·rename_i d ed;exact ⟨v,h1,A1,μ1,w,d,rfl,R1,r1,ed,c _ h1 _ H1 A1 μ1 q1 x1 R1 bB⟩
 ·exact q1.elim
end
end DL
namespace SJ
open PySem
set_option genInjectivity true in
inductive One where
 | read (k:Nat) | write (k:Nat) (v:Int) | add (k:Nat) (n:Int) | swap (k:Nat) (o n:Int)
set_option genInjectivity true in
inductive Call where
 | one (c:One) | span (lo hi:Nat) | deal (cs:List One)
set_option genInjectivity true in
inductive Stp where
 | call (c:Call) | look (c:Call) | lay (ps:List (Nat×Int))
noncomputable def One.dat:One->PyData
 | .read k=>.tuple [.str "read",.int k]
 | .write k v=>.tuple [.str "write",.int k,.int v]
 | .add k n=>.tuple [.str "add",.int k,.int n]
 | .swap k o n=>.tuple [.str "swap",.int k,.int o,.int n]
noncomputable def One.key:One->Nat
 | .read k=>k | .write k _=>k | .add k _=>k | .swap k _ _=>k
noncomputable def Call.dat:Call->PyData
 | .one c=>c.dat
 | .span lo hi=>.tuple [.str "span",.int lo,.int hi]
 | .deal cs=>.tuple [.str "deal",.tuple (cs.map One.dat)]
noncomputable def Stp.dat:Stp->PyData
 | .call c=>c.dat
 | .look c=>.tuple [.str "look",c.dat]
 | .lay ps=>.tuple [.str "lay",.tuple (ps.map fun p=>.tuple [.int p.1,.int p.2])]
def One.ok (c:One):Prop:=c.key < 8
noncomputable def Call.ok:Call->Prop
 | .one c=>c.ok
 | .span lo hi=>lo < hi/\hi<=8
 | .deal cs=>cs.length<=4/\1<=cs.length/\∀ c∈cs,c.ok
noncomputable def got (v:Int):PyData:=.tuple [.str "got",.int v]
noncomputable def dn:PyData:=.tuple [.str "done"]
noncomputable def yes:PyData:=.tuple [.str "yes"]
noncomputable def no:PyData:=.tuple [.str "no"]
end SJ
namespace DL
open PySem PySem.Spec PyProof.Rows L2
@[simp] theorem dP0 (i:Int):SeqAt.shaped (.int i)=true:=by simp [SeqAt.shaped,PyData.canLay0,PyData.depth]
@[simp] theorem dJ3 (i:Bool):SeqAt.shaped (.bool i)=true:=by simp [SeqAt.shaped,PyData.canLay0,PyData.depth]
@[simp] theorem dJ4:SeqAt.shaped .none=true:=by simp [SeqAt.shaped,PyData.canLay0,PyData.depth]
@[simp] theorem dP1 (i j:Int):PyData.eqv (.int i) (.int j)=decide (i=j):=by rw [PyData.eqv];exact Bool.beq_eq_decide_eq i j
@[simp] theorem dP2 (i j:Str):PyData.eqv (.str i) (.str j)=(i==j):=by rw [PyData.eqv]
@[simp] theorem bG6:((Str.ofString "read")==(Str.ofString "write"))=false:=by decide +kernel
@[simp] theorem cD3:((Str.ofString "read")==(Str.ofString "add"))=false:=by decide +kernel
@[simp] theorem bR1:((Str.ofString "read")==(Str.ofString "swap"))=false:=by decide +kernel
@[simp] theorem bR2:((Str.ofString "read")==(Str.ofString "span"))=false:=by decide +kernel
@[simp] theorem bR3:((Str.ofString "read")==(Str.ofString "deal"))=false:=by decide +kernel
@[simp] theorem bR4:((Str.ofString "read")==(Str.ofString "look"))=false:=by decide +kernel
@[simp] theorem cD4:((Str.ofString "read")==(Str.ofString "lay"))=false:=by decide +kernel
@[simp] theorem bG7:((Str.ofString "write")==(Str.ofString "read"))=false:=by decide +kernel
@[simp] theorem bR5:((Str.ofString "write")==(Str.ofString "add"))=false:=by decide +kernel
@[simp] theorem bG8:((Str.ofString "write")==(Str.ofString "swap"))=false:=by decide +kernel
@[simp] theorem bG9:((Str.ofString "write")==(Str.ofString "span"))=false:=by decide +kernel
@[simp] theorem bH0:((Str.ofString "write")==(Str.ofString "deal"))=false:=by decide +kernel
@[simp] theorem bH1:((Str.ofString "write")==(Str.ofString "look"))=false:=by decide +kernel
@[simp] theorem bR6:((Str.ofString "write")==(Str.ofString "lay"))=false:=by decide +kernel
@[simp] theorem cD5:((Str.ofString "add")==(Str.ofString "read"))=false:=by decide +kernel
@[simp] theorem bR7:((Str.ofString "add")==(Str.ofString "write"))=false:=by decide +kernel
@[simp] theorem cD6:((Str.ofString "add")==(Str.ofString "swap"))=false:=by decide +kernel
@[simp] theorem cD7:((Str.ofString "add")==(Str.ofString "span"))=false:=by decide +kernel
@[simp] theorem cD8:((Str.ofString "add")==(Str.ofString "deal"))=false:=by decide +kernel
@[simp] theorem cD9:((Str.ofString "add")==(Str.ofString "look"))=false:=by decide +kernel
@[simp] theorem cP5:((Str.ofString "add")==(Str.ofString "lay"))=false:=by decide +kernel
@[simp] theorem bR8:((Str.ofString "swap")==(Str.ofString "read"))=false:=by decide +kernel
@[simp] theorem bH2:((Str.ofString "swap")==(Str.ofString "write"))=false:=by decide +kernel
@[simp] theorem cE0:((Str.ofString "swap")==(Str.ofString "add"))=false:=by decide +kernel
@[simp] theorem bR9:((Str.ofString "swap")==(Str.ofString "span"))=false:=by decide +kernel
@[simp] theorem bS0:((Str.ofString "swap")==(Str.ofString "deal"))=false:=by decide +kernel
@[simp] theorem bS1:((Str.ofString "swap")==(Str.ofString "look"))=false:=by decide +kernel
@[simp] theorem cE1:((Str.ofString "swap")==(Str.ofString "lay"))=false:=by decide +kernel
@[simp] theorem bS2:((Str.ofString "span")==(Str.ofString "read"))=false:=by decide +kernel
@[simp] theorem bH3:((Str.ofString "span")==(Str.ofString "write"))=false:=by decide +kernel
@[simp] theorem cE2:((Str.ofString "span")==(Str.ofString "add"))=false:=by decide +kernel
@[simp] theorem bS3:((Str.ofString "span")==(Str.ofString "swap"))=false:=by decide +kernel
@[simp] theorem bS4:((Str.ofString "span")==(Str.ofString "deal"))=false:=by decide +kernel
@[simp] theorem bS5:((Str.ofString "span")==(Str.ofString "look"))=false:=by decide +kernel
@[simp] theorem cE3:((Str.ofString "span")==(Str.ofString "lay"))=false:=by decide +kernel
@[simp] theorem bS6:((Str.ofString "deal")==(Str.ofString "read"))=false:=by decide +kernel
@[simp] theorem bH4:((Str.ofString "deal")==(Str.ofString "write"))=false:=by decide +kernel
@[simp] theorem cE4:((Str.ofString "deal")==(Str.ofString "add"))=false:=by decide +kernel
@[simp] theorem bS7:((Str.ofString "deal")==(Str.ofString "swap"))=false:=by decide +kernel
@[simp] theorem bS8:((Str.ofString "deal")==(Str.ofString "span"))=false:=by decide +kernel
@[simp] theorem bS9:((Str.ofString "deal")==(Str.ofString "look"))=false:=by decide +kernel
@[simp] theorem cE5:((Str.ofString "deal")==(Str.ofString "lay"))=false:=by decide +kernel
@[simp] theorem bT0:((Str.ofString "look")==(Str.ofString "read"))=false:=by decide +kernel
@[simp] theorem bH5:((Str.ofString "look")==(Str.ofString "write"))=false:=by decide +kernel
@[simp] theorem cE6:((Str.ofString "look")==(Str.ofString "add"))=false:=by decide +kernel
@[simp] theorem bT1:((Str.ofString "look")==(Str.ofString "swap"))=false:=by decide +kernel
@[simp] theorem bT2:((Str.ofString "look")==(Str.ofString "span"))=false:=by decide +kernel
@[simp] theorem bT3:((Str.ofString "look")==(Str.ofString "deal"))=false:=by decide +kernel
@[simp] theorem cE7:((Str.ofString "look")==(Str.ofString "lay"))=false:=by decide +kernel
@[simp] theorem cE8:((Str.ofString "lay")==(Str.ofString "read"))=false:=by decide +kernel
@[simp] theorem bT4:((Str.ofString "lay")==(Str.ofString "write"))=false:=by decide +kernel
@[simp] theorem cP6:((Str.ofString "lay")==(Str.ofString "add"))=false:=by decide +kernel
@[simp] theorem cE9:((Str.ofString "lay")==(Str.ofString "swap"))=false:=by decide +kernel
@[simp] theorem cF0:((Str.ofString "lay")==(Str.ofString "span"))=false:=by decide +kernel
@[simp] theorem cF1:((Str.ofString "lay")==(Str.ofString "deal"))=false:=by decide +kernel
@[simp] theorem cF2:((Str.ofString "lay")==(Str.ofString "look"))=false:=by decide +kernel
@[simp] theorem at0 {a:PyData} {r:List PyData}:atI (a::r) 0=some a:=by simp [atI,ixN]
@[simp] theorem at1 {a b:PyData} {r:List PyData}:atI (a::b::r) 1=some b:=by
 have:(1:Int) < (r.length:Int)+1+1:=by omega
 simp [atI,ixN,this]
@[simp] theorem at2 {a b c:PyData} {r:List PyData}:atI (a::b::c::r) 2=some c:=by
 have:(2:Int) < (r.length:Int)+1+1+1:=by omega
 simp [atI,ixN,this]
@[simp] theorem at3 {a b c d:PyData} {r:List PyData}:atI (a::b::c::d::r) 3=some d:=by
 have:(3:Int) < (r.length:Int)+1+1+1+1:=by omega
 simp [atI,ixN,this]
@[simp] theorem ix0 (n:Nat):ixN (n+1) 0=some 0:=by
 have:(0:Int) < ((n+1:Nat):Int):=by omega
 simp only [ixN,this,Int.le_refl,if_true];rfl
def cF3 {n i:Nat} (h:i < n):ixN n (i:Int)=some i:=by
 have h1:(i:Int) < (n:Int):=by omega
 have h2:(0:Int)<=(i:Int):=by omega
 simp [ixN,h1,h2]
@[simp] theorem cU7 (h:aA) (i:Nat) (a:Cell):(h.set i a).take h.length=h.set i a:=by
 rw [List.take_of_length_le (by simp)]
@[simp] theorem dW1:ixN 3 2=some 2:=rfl
@[simp] theorem dW2:ixN 3 0=some 0:=rfl
def szl:sizeLine=16777216:=rfl
section
variable {X:Cx} {a b c e tg:Expr} {st:Stmt} {ta tb tc te:DTE} {pos:Pos}
def dNo:DTE:=fun _ _ _=>False
def dP3:DTF:=fun _ _ _=>False
def dP4:DTI:=fun _ _ _=>False
def dP5:DTS:=fun _ _ _=>False
def gF:DE X e dNo:=fun pins s σ H Q I ⟨_,_,_,_,_,_,q,_⟩=>q.elim
def bT5:DF X e dP3:=fun pins s σ H Q I ⟨_,_,_,_,_,_,q,_⟩=>q.elim
def cU8:DI X tg e dP4:=fun pins s σ H R I ⟨_,_,_,_,_,_,q,_⟩=>q.elim
def cU9:DS X st dP5:=fun pins s σ H D I ⟨_,_,_,_,_,_,q,_⟩=>q.elim
def aF4 (neg:Bool):D2:=fun x y h Q=>match ref h x,ref h y with
 | some d,some (.list xs)=>SeqAt.shaped (.list xs)=true/\SeqAt.shaped d=true/\Q (.d (.bool (neg ^^ xs.any fun z=>PyData.eqv z d))) h
 | some d,some (.tuple xs)=>SeqAt.shaped (.tuple xs)=true/\SeqAt.shaped d=true/\Q (.d (.bool (neg ^^ xs.any fun z=>PyData.eqv z d))) h
 | _,_=>False
def Room.units65 {k:Nat} {A:Around} (r:Room k A):A.units+65 < cLine:=by have:=r.un;omega
def cF4 {n:Nat} (hr:Room n X.A):OpR X (compareOp .In) (upR X.K (aF4 false)):=by
 intro pins s σ H x y v u Q I rx ry h;obtain ⟨a,b,h,A,μ,k,R,ra,rb,q,c⟩:=h;unfold aF4 at q;split at q
 ·rename_i d xs ea eb;obtain ⟨as,z1⟩:=(bO R ra ea).reads I (SeqAt.canLay_of_shaped q.2.1) rx;obtain ⟨bs,z2⟩:=(bO R rb eb).reads I (SeqAt.canLay_of_shaped q.1) ry;exact SeqAt.in_list_reads z2 z1 (SeqAt.canLay_of_shaped q.1) (SeqAt.canLay_of_shaped q.2.1) (room_in_shaped q.2.1 (Room.units65 hr)) ⟨.bl _,H,I,rfl,c _ _ _ _ _ _ q.2.2 .refl R (by simpa using bB)⟩
 ·rename_i d xs ea eb;obtain ⟨as,z1⟩:=(bO R ra ea).reads I (SeqAt.canLay_of_shaped q.2.1) rx;obtain ⟨bs,z2⟩:=(bO R rb eb).reads I (SeqAt.canLay_of_shaped q.1) ry;exact SeqAt.in_tuple_reads z2 z1 (SeqAt.canLay_of_shaped q.1) (SeqAt.canLay_of_shaped q.2.1) (room_in_shaped q.2.1 (Room.units65 hr)) ⟨.bl _,H,I,rfl,c _ _ _ _ _ _ q.2.2 .refl R (by simpa using bB)⟩
 ·exact q.elim
def aF5 {n:Nat} (hr:Room n X.A):OpR X (compareOp .NotIn) (upR X.K (aF4 true)):=by
 intro pins s σ H x y v u Q I rx ry h;obtain ⟨a,b,h,A,μ,k,R,ra,rb,q,c⟩:=h;unfold aF4 at q;split at q
 ·rename_i d xs ea eb;obtain ⟨as,z1⟩:=(bO R ra ea).reads I (SeqAt.canLay_of_shaped q.2.1) rx;obtain ⟨bs,z2⟩:=(bO R rb eb).reads I (SeqAt.canLay_of_shaped q.1) ry;exact SeqAt.notIn_list_reads z2 z1 (SeqAt.canLay_of_shaped q.1) (SeqAt.canLay_of_shaped q.2.1) (room_in_shaped q.2.1 (Room.units65 hr)) ⟨.bl _,H,I,rfl,c _ _ _ _ _ _ q.2.2 .refl R (by simpa using bB)⟩
 ·rename_i d xs ea eb;obtain ⟨as,z1⟩:=(bO R ra ea).reads I (SeqAt.canLay_of_shaped q.2.1) rx;obtain ⟨bs,z2⟩:=(bO R rb eb).reads I (SeqAt.canLay_of_shaped q.1) ry;exact SeqAt.notIn_tuple_reads z2 z1 (SeqAt.canLay_of_shaped q.1) (SeqAt.canLay_of_shaped q.2.1) (room_in_shaped q.2.1 (Room.units65 hr)) ⟨.bl _,H,I,rfl,c _ _ _ _ _ _ q.2.2 .refl R (by simpa using bB)⟩
 ·exact q.elim
def kU (r r':D2) (ta tb tc:DTE):DTE:=fun δ h Q=>ta δ h fun x h1=>tb δ h1 fun y h2=>r x y h2 fun z h3=>match z with
 | .d (.bool k)=>if k=true then tc δ h3 fun u h4=>r' y u h4 Q else Q (.d (.bool false)) h3
 | _=>False
def vB {K:Frag} {r r':D2} {σ:L2.St} {H:Hp} {Q:VK} (q:up K (kU r r' ta tb tc) σ H Q):wX (upR K r) (upR K r') (up K ta) (up K tb) (up K tc) σ H Q:=by
 obtain ⟨δ,h,A,μ,k,R,q,c⟩:=q;refine ⟨δ,h,A,μ,_,R,q,fun u h1 v H1 A1 μ1 q1 x1 R1 r1=>?_⟩;refine ⟨δ,h1,A1,μ1,_,⟨R1,R.2.ext x1 R.1.sub⟩,q1,fun w h2 v2 H2 A2 μ2 q2 x2 R2 r2=>?_⟩;refine ⟨u,w,h2,A2,μ2,_,R2,r1.ext x2 R1.sub,r2,q2,fun z h3 v3 H3 A3 μ3 q3 x3 R3 r3=>?_⟩;have x13:=(x1.trans x2).trans x3;split at q3
 ·rename_i kk;refine ⟨kk,fE r3,?_⟩;cases kk with
  | true =>
   rw [if_pos rfl] at q3 ⊢;refine ⟨δ,h3,A3,μ3,_,⟨R3,R.2.ext x13 R.1.sub⟩,q3,fun u4 h4 v4 H4 A4 μ4 q4 x4 R4 r4=>?_⟩;exact ⟨w,u4,h4,A4,μ4,k,R4,(r2.ext x3 R2.sub).ext x4 R3.sub,r4,q4,fun z h5 v5 H5 A5 μ5 q5 x5 R5 r5=>c z h5 v5 H5 A5 μ5 q5 ((x13.trans x4).trans x5) R5 r5⟩
  | false =>
   rw [if_neg Bool.false_ne_true] at q3 ⊢;exact c _ h3 _ H3 A3 μ3 q3 x13 R3 bB
 ·exact q3.elim
def aP5 {op op':CmpOp} {r r':D2} (ho:OpR X (compareOp op) (upR X.K r)) (ho':OpR X (compareOp op') (upR X.K r')) (ha:DE X a ta) (hb:DE X b tb) (hc:DE X c tc)
  (hm:autoParam (lastMarks [op,op'] [b,c]=false) ZW):DE X (.Compare a [op,op'] [b,c] pos) (kU r r' ta tb tc):=aI (aL8 ho ho' ha hb hc hm) fun _ _ _ q=>vB q
def aP6 {op op':CmpOp} {r r':D2} (ho:OpR X (compareOp op) (upR X.K r)) (ho':OpR X (compareOp op') (upR X.K r')) (ha:DE X a ta) (hb:DE X b tb) (hc:DE X c tc)
  (hm:autoParam (lastMarks [op,op'] [b,c]=false) ZW):DT X (.Compare a [op,op'] [b,c] pos) (dB (kU r r' ta tb tc)):=iR (aL9 ho ho' ha hb hc hm) fun σ H Q q=>by
  obtain ⟨δ,h,A,μ,k,R,q1,c⟩:=mO q;exact vB ⟨δ,h,A,μ,k,R,q1,c⟩
def dP6 (ta:DTE):DTE:=fun δ h Q=>ta δ h fun w h1=>match w with
 | .d (.int i)=>Q (.d (.int (-i))) h1
 | _=>False
def cF5 (ha:DE X a ta):DE X (.UnaryOp .USub a pos) (dP6 ta):=aI (cS1 bZ4 ha) fun σ H Q q=>by
 obtain ⟨δ,h,A,μ,k,R,q,c⟩:=q;refine ⟨δ,h,A,μ,_,R,q,fun w h1 v H1 A1 μ1 q1 x1 R1 r1=>?_⟩;split at q1
 ·exact ⟨_,bD r1,c _ h1 _ H1 A1 μ1 q1 x1 R1 nT⟩
 ·exact q1.elim
noncomputable def cV0:D2
 | .d (.int i),.d (.int j),h,Q=>0<=j/\Q (.d (.int (i / 2^j.toNat))) h
 | _,_,_,_=>False
noncomputable def bT6:D2
 | .d (.int i),.d (.int j),h,Q=>Q (.d (.int (Builtin.bitAnd i j))) h
 | _,_,_,_=>False
def bH6:OpR X (binaryOp .RShift) (upR X.K cV0):=fJ (f:=fun i j=>.int (i / 2^j.toNat)) bZ2 (fun _ _ _ _=>jR) fun u w h k q=>by
 unfold cV0 at q;split at q
 ·exact ⟨_,_,rfl,rfl,q.1,q.2⟩
 ·exact q.elim
def aP7:OpR X (binaryOp .BitAnd) (upR X.K bT6):=fJ (f:=fun i j=>.int (Builtin.bitAnd i j)) (OpR.i0 bZ3) (fun _ _ _ _=>jR) fun u w h k q=>by
 unfold bT6 at q;split at q
 ·exact ⟨_,_,rfl,rfl,trivial,q⟩
 ·exact q.elim
end
noncomputable def oIs:Option Str->Value->Bool
 | some x,v=>Value.isStrOf x v
 | none,.none=>true
 | none,_=>false
def oIs_shape {k:Option Str} {v:Value} (h:oIs k v=true):(∃ x t,k=some x/\v=.str x t)\/(k=none/\v=.none):=by
 cases k with
 | some x =>
  obtain ⟨t,e⟩:=Value.isStrOf_shape (x:=x) (v:=v) h;exact .inl ⟨x,t,rfl,e⟩
 | none=>cases v<;>first | exact .inr ⟨rfl,rfl⟩ | cases h
def sS (x:Str) (t:Tok):oIs (some x) (.str x t)=true:=by simp [oIs,Value.isStrOf]
noncomputable def cV1 (w:World):Option Str->Int
 | some x=>hashStr w x
 | none=>reduceHash 0xFCA86420
noncomputable def cV2 (prog:Program) (w:World):PySem.KeyKind prog w (Option Str) where
 is:=oIs
 hash:=cV1 w
 inj:=fun v a b ha hb=>by
  rcases oIs_shape ha with ⟨x,t,rfl,rfl⟩ | ⟨rfl,rfl⟩
  ·rcases oIs_shape hb with ⟨y,u,rfl,e⟩ | ⟨rfl,e⟩
   ·injection e with e1 _;rw [e1]
   ·exact nomatch e
  ·rcases oIs_shape hb with ⟨y,u,rfl,e⟩ | ⟨rfl,e⟩
   ·exact nomatch e
   ·rfl
 byValue:=fun k v h=>by
  rcases oIs_shape h with ⟨x,t,rfl,rfl⟩ | ⟨rfl,rfl⟩<;>rfl
 pyHash:=fun {A E s k v Q} hv h=>by
  rcases oIs_shape hv with ⟨x,t,rfl,rfl⟩ | ⟨rfl,rfl⟩
  ·exact wpAny_pyHash_str h
  ·exact PySem.W.pyHash_slot (T:="NoneType") rfl PySem.F.slot_NoneType_hash PySem.F.entry_NoneType_hash (PySem.F.args_NoneType_hash_1 _) (by decide) (.inl rfl) (wpAny_bind (wpAny_pure (wpAny_bind (wpAny_mkInt (wpAny_pure ⟨_,_,rfl,h⟩)))))
 eqBool:=fun {A E s a b u v Q} hu hv h=>by
  rcases oIs_shape hu with ⟨x,t,rfl,rfl⟩ | ⟨rfl,rfl⟩
  ·rcases oIs_shape hv with ⟨y,u,rfl,rfl⟩ | ⟨rfl,rfl⟩
   ·refine wpAny_eqBool_str ?_;have e:decide (some x=some y)=decide (x=y):=by simp
    rwa [e] at h
   ·exact SeqAt.EqAt.str_none x t _ _ _ _ (by simpa using h)
  ·rcases oIs_shape hv with ⟨y,u,rfl,rfl⟩ | ⟨rfl,rfl⟩
   ·exact SeqAt.EqAt.none_str y u _ _ _ _ (by simpa using h)
   ·exact SeqAt.EqAt.same _ _ _ _ _ (by simpa using h)
 «strs»:=fun k x t v h=>by
  rcases oIs_shape h with ⟨y,u,rfl,e⟩ | ⟨rfl,e⟩
  ·injection e with e1 _
   subst e1;cases v<;>rfl
  ·exact nomatch e
structure TabK (w:World) (K:Frag) (p:Addr) (f:Str->Option Int):Prop where
 lk:∃ es n,K.lookup p=some ⟨.type "dict",none,.dict es n,#[]⟩/\PySem.W.KeysLit w.params es.toList/\(∀ x i,f x=some i->∃ t,findBy Value.isStrOf es x=some (.int i t))/\∀ x,f x=none->findBy Value.isStrOf es x=none
 sm:(p==sysModules)=false
def TabK.map {w:World} {K:Frag} {p:Addr} {f:Str->Option Int} {prog:Program} {h:Heap} (T:TabK w K p f) (X:K.In h):∃ g:Option Str->Option Value,h.MapOf (cV2 prog w) p g/\g none=none/\(∀ x i,f x=some i->∃ t,g (some x)=some (.int i t))/\∀ x,f x=none->g (some x)=none:=by
 obtain ⟨es,n,l,hk,h1,h2⟩:=T.lk;refine ⟨fun k=>findBy oIs es k,⟨_,es,n,X _ _ l,⟨rfl,rfl,rfl⟩,rfl,fun e he=>?_,fun _=>rfl⟩,?_,h1,h2⟩
 ·obtain ⟨x,t,e1,e2⟩:=hk.all e (Array.mem_toList_iff.mpr he);exact ⟨some x,by rw [e1];exact sS x t,e2⟩
 ·unfold findBy;have e:es.find? (fun e=>oIs none e.key)=none:=by
   rw [Array.find?_eq_none];intro e he;obtain ⟨x,t,e1,_⟩:=hk.all e (Array.mem_toList_iff.mpr he);rw [e1];exact Bool.false_ne_true
  show Option.map _ (es.find? fun e=>oIs none e.key)=none;rw [e];rfl
section
variable {X:Cx} {a b c d e:Expr} {ta tb tc td:DTE} {pos:Pos}
def qN {p:Addr} {f:Str->Option Int} (T:TabK X.w X.K p f):OpR X (compareOp .NotIn) (fun x y H Q=>y=.ref p/\((∃ s,x=.str s/\Q (.bl (!(f s).isSome)) H)\/(x=.non/\Q (.bl true) H))):=by
 intro pins s σ H x y v u Q I rx ry h;obtain ⟨rfl,h⟩:=h;cases ry;obtain ⟨g,m,g0,g1,g2⟩:=T.map (prog:=X.prog) I.kIn;rcases h with ⟨z,rfl,q⟩ | ⟨rfl,q⟩
 ·obtain ⟨t,rfl⟩:=rx;refine wpAny_notIn_of (k:=some z) (sS z t) T.sm m ⟨.bl _,H,I.tok _,?_,q⟩;cases e:f z with
  | none=>rw [g2 z e];rfl
  | some i=>obtain ⟨t',e'⟩:=g1 z i e;rw [e'];rfl
 ·cases rx;exact wpAny_notIn_of (k:=none) rfl T.sm m ⟨.bl _,H,I.tok _,by rw [g0];rfl,q⟩
def dP7 {p:Addr} {f:Str->Option Int} (T:TabK X.w X.K p f):IxR X (fun x y H Q=>x=.ref p/\∃ s i,y=.str s/\f s=some i/\Q (.int i) H):=by
 intro value slice pins s σ H x y v u Q I rx ry h hs;obtain ⟨rfl,z,i,rfl,e,q⟩:=h;cases rx;obtain ⟨t,rfl⟩:=ry;obtain ⟨g,m,g0,g1,g2⟩:=T.map (prog:=X.prog) I.kIn;obtain ⟨t',e'⟩:=g1 z i e;exact tail_any m.typeIs slot_dict_getitem.lookup (wpAny_getItem_of (k:=some z) (sS z t) m e' ⟨.int i,H,I.tok _,⟨t',rfl⟩,q⟩) hs
def sT (f:Str->Option Int) (ta:DTE):DTE:=fun δ h Q=>ta δ h fun w h1=>match w with
 | .d (.str s)=>Q (.d (.bool (!(f s).isSome))) h1
 | .d .none=>Q (.d (.bool true)) h1
 | _=>False
def vC {K:Frag} {A μ:List Addr} {H:Hp} {x:Str} {v:V} (r:RepW K A μ H (.d (.str x)) v):v=.str x:=by
 have z:Rep K A H (.str x) v:=r;rw [Rep] at z;exact z.1
def aP8 {K:Frag} {A μ:List Addr} {H:Hp} {v:V} (r:RepW K A μ H (.d .none) v):v=.non:=by
 have z:Rep K A H .none v:=r;rw [Rep] at z;exact z
def qO {p:Addr} {f:Str->Option Int} {σ:L2.St} {H:Hp} {Q:VK} (q:up X.K (sT f ta) σ H Q) :
  tOp (fun x y H Q=>y=.ref p/\((∃ s,x=.str s/\Q (.bl (!(f s).isSome)) H)\/(x=.non/\Q (.bl true) H))) (up X.K ta) (tC (.ref p)) σ H Q:=by
 obtain ⟨δ,h,A,μ,k,R,q,c⟩:=q;refine ⟨δ,h,A,μ,_,R,q,fun w h1 v H1 A1 μ1 q1 x1 R1 r1=>?_⟩;show _/\_;refine ⟨rfl,?_⟩;split at q1
 ·exact .inl ⟨_,vC r1,c _ h1 _ H1 A1 μ1 q1 x1 R1 bB⟩
 ·exact .inr ⟨aP8 r1,c _ h1 _ H1 A1 μ1 q1 x1 R1 bB⟩
 ·exact q1.elim
def aF6 {p:Addr} {f:Str->Option Int} {x:Str} {pos':Pos} (T:TabK X.w X.K p f) (hm:X.mg x=some (.ref p)) (ha:DE X a ta) (hg:autoParam (Gl X x) ZR) (hd:autoParam ((x==("__debug__":Str))=false) ZD) (hb:autoParam (behindInMarks .NotIn (.Name x pos')=false) ZR) :
  DE X (.Compare a [.NotIn] [.Name x pos'] pos) (sT f ta):=aI (zB (qN T) ha (dP (v:=.ref p) hg hm rfl hd) hb) fun _ _ _ q=>qO q
def aF7 {p:Addr} {f:Str->Option Int} {x:Str} {pos':Pos} (T:TabK X.w X.K p f) (hm:X.mg x=some (.ref p)) (ha:DE X a ta) (hg:autoParam (Gl X x) ZR) (hd:autoParam ((x==("__debug__":Str))=false) ZD) (hb:autoParam (behindInMarks .NotIn (.Name x pos')=false) ZR) :
  DT X (.Compare a [.NotIn] [.Name x pos'] pos) (dB (sT f ta)):=iR (mM (qN T) ha (dP (v:=.ref p) hg hm rfl hd) hb) fun σ H Q q=>by
  obtain ⟨δ,h,A,μ,k,R,q1,c⟩:=mO q;exact qO ⟨δ,h,A,μ,k,R,q1,c⟩
def dP8 (f:Str->Option Int) (ta:DTE):DTE:=fun δ h Q=>ta δ h fun w h1=>match w with
 | .d (.str s)=>(match f s with
  | some i=>Q (.d (.int i)) h1
  | none=>False)
 | _=>False
def cF6 {p:Addr} {f:Str->Option Int} {x:Str} {pos':Pos} (T:TabK X.w X.K p f) (hm:X.mg x=some (.ref p)) (ha:DE X a ta) (hg:autoParam (Gl X x) ZR) (hd:autoParam ((x==("__debug__":Str))=false) ZD) (hs:jN a:=by intro _ _;rfl) :
  DE X (.Subscript (.Name x pos') a pos) (dP8 f ta):=aI (aM5 (dP7 T) (dP (v:=.ref p) hg hm rfl hd) ha hs) fun σ H Q q=>by
 obtain ⟨δ,h,A,μ,k,R,q,c⟩:=q;show up X.K ta σ H _;refine ⟨δ,h,A,μ,_,R,q,fun w h1 v H1 A1 μ1 q1 x1 R1 r1=>?_⟩;refine ⟨rfl,?_⟩;split at q1
 ·split at q1
  ·rename_i e;exact ⟨_,_,vC r1,e,c _ h1 _ H1 A1 μ1 q1 x1 R1 nT⟩
  ·exact q1.elim
 ·exact q1.elim
def mU (r r' r'':D2) (ta tb tc td:DTE):DTE:=fun δ h Q=>ta δ h fun x h1=>tb δ h1 fun y h2=>r x y h2 fun z h3=>match z with
 | .d (.bool k)=>if k=true then tc δ h3 fun u h4=>r' y u h4 fun z' h5=>(match z' with
   | .d (.bool k')=>if k'=true then td δ h5 fun u' h6=>r'' u u' h6 Q else Q (.d (.bool false)) h5
   | _=>False) else Q (.d (.bool false)) h3
 | _=>False
def bH7 (r r' r'':R2) (ta tb tc td:TE):TE:=fun σ H Q=>ta σ H fun x H1=>tb σ H1 fun y H2=>r x y H2 fun z H3=>∃ k,z=.bl k /\
 (if k=true then tc σ H3 fun u H4=>r' y u H4 fun z' H5=>∃ k',z'=.bl k'/\(if k'=true then td σ H5 fun u' H6=>r'' u u' H6 Q else Q (.bl false) H5) else Q (.bl false) H3)
def aF8 {ta tb tc td:TE} {op op' op'':CmpOp} {r r' r'':R2} (ho:OpR X (compareOp op) r) (ho':OpR X (compareOp op') r') (ho'':OpR X (compareOp op'') r'') (ha:PE X a ta) (hb:PE X b tb) (hc:PE X c tc) (hd:PE X d td)
  (hm:autoParam (lastMarks [op,op',op''] [b,c,d]=false) ZW):PE X (.Compare a [op,op',op''] [b,c,d] pos) (bH7 r r' r'' ta tb tc td):=by
 intro pins s σ H Q I h;refine Compare_chain (thn (ha pins s σ H _ I h) fun v s1 ⟨x,H1,I1,r1,q1⟩=>chain_link (thn (hb pins s1 σ H1 _ I1 q1) fun u s2 ⟨y,H2,I2,r2,q2⟩ =>
  thn (ho pins s2 σ H2 x y v u _ I2 r1 r2 q2) fun d' s3 ⟨z,H3,I3,r3,k,e,q3⟩=>?_)) hm
 subst e;cases r3;refine wpAny_truthy_bool ?_;cases k with
 | false=>exact ite_ff ⟨.bl false,H3,I3,rfl,q3⟩
 | true =>
  refine ite_tt (chain_link (thn (hc pins s3 σ H3 _ I3 q3) fun w' s4 ⟨z',H4,I4,r4,q4⟩=>thn (ho' pins s4 σ H4 y z' u w' _ I4 r2 r4 q4) fun d2 s5 ⟨z2,H5,I5,r5,k2,e2,q5⟩=>?_));subst e2;cases r5;refine wpAny_truthy_bool ?_;cases k2 with
  | false=>exact ite_ff ⟨.bl false,H5,I5,rfl,q5⟩
  | true=>exact ite_tt (chain_last (thn (hd pins s5 σ H5 _ I5 q5) fun w6 s6 ⟨z6,H6,I6,r6,q6⟩=>ho'' pins s6 σ H6 z' z6 w' w6 Q I6 r4 r6 q6))
def aF9 {op op' op'':CmpOp} {r r' r'':D2} (ho:OpR X (compareOp op) (upR X.K r)) (ho':OpR X (compareOp op') (upR X.K r')) (ho'':OpR X (compareOp op'') (upR X.K r'')) (ha:DE X a ta) (hb:DE X b tb) (hc:DE X c tc) (hd:DE X d td)
  (hm:autoParam (lastMarks [op,op',op''] [b,c,d]=false) ZW):DE X (.Compare a [op,op',op''] [b,c,d] pos) (mU r r' r'' ta tb tc td):=aI (aF8 ho ho' ho'' ha hb hc hd hm) fun σ H Q q=>by
 obtain ⟨δ,h,A,μ,k,R,q,c⟩:=q;refine ⟨δ,h,A,μ,_,R,q,fun u h1 v H1 A1 μ1 q1 x1 R1 r1=>?_⟩;refine ⟨δ,h1,A1,μ1,_,⟨R1,R.2.ext x1 R.1.sub⟩,q1,fun w h2 v2 H2 A2 μ2 q2 x2 R2 r2=>?_⟩;refine ⟨u,w,h2,A2,μ2,_,R2,r1.ext x2 R1.sub,r2,q2,fun z h3 v3 H3 A3 μ3 q3 x3 R3 r3=>?_⟩;have x13:=(x1.trans x2).trans x3;split at q3
 ·rename_i kk;refine ⟨kk,fE r3,?_⟩;cases kk with
  | true =>
   rw [if_pos rfl] at q3 ⊢;refine ⟨δ,h3,A3,μ3,_,⟨R3,R.2.ext x13 R.1.sub⟩,q3,fun u4 h4 v4 H4 A4 μ4 q4 x4 R4 r4=>?_⟩;refine ⟨w,u4,h4,A4,μ4,_,R4,(r2.ext x3 R2.sub).ext x4 R3.sub,r4,q4,fun z h5 v5 H5 A5 μ5 q5 x5 R5 r5=>?_⟩;have x15:=(x13.trans x4).trans x5;split at q5
   ·rename_i k5;refine ⟨k5,fE r5,?_⟩;cases k5 with
    | true =>
     rw [if_pos rfl] at q5 ⊢;refine ⟨δ,h5,A5,μ5,_,⟨R5,R.2.ext x15 R.1.sub⟩,q5,fun u6 h6 v6 H6 A6 μ6 q6 x6 R6 r6=>?_⟩;exact ⟨u4,u6,h6,A6,μ6,k,R6,(r4.ext x5 R4.sub).ext x6 R5.sub,r6,q6,fun z h7 v7 H7 A7 μ7 q7 x7 R7 r7=>c z h7 v7 H7 A7 μ7 q7 ((x15.trans x6).trans x7) R7 r7⟩
    | false =>
     rw [if_neg Bool.false_ne_true] at q5 ⊢;exact c _ h5 _ H5 A5 μ5 q5 x15 R5 bB
   ·exact q5.elim
  | false =>
   rw [if_neg Bool.false_ne_true] at q3 ⊢;exact c _ h3 _ H3 A3 μ3 q3 x13 R3 bB
 ·exact q3.elim
end
end DL
namespace SJ
open PySem
mutual
noncomputable def sok:PyData->Bool
 | .str x=>PyData.strOk x
 | .list xs=>decide (xs.length<=1000)&&soks xs
 | .tuple xs=>decide (xs.length<=1000)&&soks xs
 | _=>true
noncomputable def soks:List PyData->Bool
 | []=>true
 | x::r=>sok x&&soks r
end
def qP {x:PyData} {xs:List PyData}:soks (x::xs)=true ↔ sok x=true/\soks xs=true:=by rw [soks,Bool.and_eq_true]
noncomputable def fV:PyData->Bool
 | .int _=>true
 | _=>false
noncomputable def bP (x:PyData) (lo hi:Int):Bool:=match x with
 | .int i=>decide (lo<=i)&&decide (i<=hi)
 | _=>false
noncomputable def jU (x:PyData):Bool:=bP x 0 7
noncomputable def bL:PyData->Int->Bool
 | .tuple xs,n=>decide ((xs.length:Int)=n)
 | _,_=>false
noncomputable def gM:PyData->PyData
 | .tuple (.str s::_)=>.str s
 | _=>.none
noncomputable def aG (x:PyData) (s:Str) (n:Int):Bool:=match x with
 | .tuple (.str t::r)=>(t==s)&&decide ((r.length:Int)+1=n)
 | _=>false
noncomputable def nb (s:Str):Option Int:=if s=Str.ofString "read" then some 0 else if s=Str.ofString "write" then some 1 else if s=Str.ofString "add" then some 1 else if s=Str.ofString "swap" then some 2 else none
noncomputable def bT:PyData->Bool
 | .tuple (.str s::r)=>match nb s with
  | some n=>(decide ((r.length:Int)+1=2+n))&&(match r with
   | k::vs=>jU k&&vs.all fV
   | []=>false)
  | none=>false
 | _=>false
noncomputable def fW:PyData->Bool
 | .tuple [.str s,.int a,.int b]=>(s==Str.ofString "span")&&decide (0<=a)&&decide (a < b)&&decide (b<=8)
 | _=>false
noncomputable def fK:PyData->Bool
 | .tuple [.str s,.tuple ps]=>(s==Str.ofString "deal")&&decide (1<=ps.length)&&decide (ps.length<=4)&&ps.all bT
 | _=>false
noncomputable def cN (x:PyData):Bool:=bT x||fW x||fK x
noncomputable def jF:PyData->Bool
 | .tuple [.str s,c]=>(s==Str.ofString "look")&&cN c
 | _=>false
noncomputable def eY:PyData->Bool
 | .tuple [k,v]=>jU k&&fV v
 | _=>false
noncomputable def sU:PyData->Int
 | .int i=>i
 | _=>0
noncomputable def qQ:PyData->PyData
 | .tuple (k::_)=>k
 | _=>.none
noncomputable def bH8 (ns:List Int):Bool:=(List.range (ns.length - 1)).all fun k=>decide (ns.getD k 0 < ns.getD (k+1) 0)
noncomputable def lO:PyData->Bool
 | .tuple [.str s,.tuple ps]=>(s==Str.ofString "lay")&&!ps.isEmpty&&ps.all eY&&bH8 (ps.map fun p=>sU (qQ p))
 | _=>false
noncomputable def fX (x:PyData):Bool:=cN x||jF x||lO x
end SJ
namespace SJ
open PySem PySem.Spec PyProof.Rows L2 DL
def bH9:nb "read"=some 0:=by decide +kernel
def aP9:nb "write"=some 1:=by decide +kernel
def cF7:nb "add"=some 1:=by decide +kernel
def bI0:nb "swap"=some 2:=by decide +kernel
def bI1:nb "look"=none:=by decide +kernel
def cF8:nb "lay"=none:=by decide +kernel
def bI2:PyData.strOk "read"=true:=by decide +kernel
def aQ0:PyData.strOk "write"=true:=by decide +kernel
def cF9:PyData.strOk "add"=true:=by decide +kernel
def bI3:PyData.strOk "swap"=true:=by decide +kernel
def bI4:PyData.strOk "span"=true:=by decide +kernel
def bI5:PyData.strOk "deal"=true:=by decide +kernel
def bI6:PyData.strOk "look"=true:=by decide +kernel
def cG0:PyData.strOk "lay"=true:=by decide +kernel
def aQ1 {k:Nat} (h:k < 8):jU (.int k)=true:=by
 simp [jU,bP];omega
def nW {o:One} (h:o.ok):bT o.dat=true/\sok o.dat=true:=by
 have h':o.key < 8:=h;cases o<;>simp [One.key] at h'<;>simp [One.dat,bT,bH9,aP9,cF7,bI0,aQ1 h',fV,sok,soks,bI2,aQ0,cF9,bI3]
theorem vD:∀ {cs:List One},(∀ c∈cs,c.ok)->(cs.map One.dat).all bT=true/\soks (cs.map One.dat)=true
 | [],_=>⟨rfl,rfl⟩
 | c::r,h=>by
  obtain ⟨h1,h2⟩:=nW (h c List.mem_cons_self);obtain ⟨h3,h4⟩:=vD fun z hz=>h z (List.mem_cons_of_mem _ hz);rw [List.map_cons,List.all_cons,h1,h3,qP];exact ⟨rfl,h2,h4⟩
def gG {o:SJ.Call} (h:o.ok):cN o.dat=true/\fX o.dat=true/\sok o.dat=true:=by
 have hc:cN o.dat=true/\sok o.dat=true:=by
  cases o with
  | one c =>
   obtain ⟨h1,h2⟩:=nW (o:=c) h;exact ⟨by simp [cN,Call.dat,h1],h2⟩
  | span lo hi =>
   obtain ⟨h1,h2⟩:=h;refine ⟨?_,by simp [Call.dat,sok,soks,bI4]⟩;have e1:(0:Int)<=lo:=by omega
   have e2:(lo:Int) < hi:=by omega
   have e3:(hi:Int)<=8:=by omega
   simp [cN,Call.dat,fW,e2,e3]
  | deal cs =>
   obtain ⟨h1,h2,h3⟩:=h;obtain ⟨h4,h5⟩:=vD h3;refine ⟨?_,by simp [Call.dat,sok,soks,bI5,h5];omega⟩;simp only [cN,Call.dat,fK,h4,List.length_map];simp [h1,h2]
 exact ⟨hc.1,by simp [fX,hc.1],hc.2⟩
def iU {o:SJ.Call} (h:o.ok):cN (.tuple [.str "look",o.dat])=false/\fX (.tuple [.str "look",o.dat])=true/\sok (.tuple [.str "look",o.dat])=true:=by
 obtain ⟨h1,h2,h3⟩:=gG h;have hs:fW (.tuple [.str "look",o.dat])=false:=by
  unfold fW;split
  ·simp_all
  ·rfl
 have hd:fK (.tuple [.str "look",o.dat])=false:=by
  unfold fK;split
  ·rename_i e;injection e with e
   injection e with e1 e2
   injection e1 with e1
   subst e1;simp
  ·rfl
 have hi:bT (.tuple [.str "look",o.dat])=false:=by simp [bT,bI1]
 have hc:cN (.tuple [.str "look",o.dat])=false:=by simp [cN,hs,hd,hi]
 refine ⟨hc,?_,by simp [sok,soks,bI6,h3]⟩;simp only [fX,hc,jF,h1];simp
noncomputable def prP (p:Nat×Int):PyData:=.tuple [.int p.1,.int p.2]
theorem kW:∀ {ps:List (Nat×Int)},(∀ p∈ps,p.1 < 8)->(ps.map prP).all eY=true/\soks (ps.map prP)=true/\((ps.map prP).map fun p=>sU (qQ p))=ps.map fun p=>(p.1:Int)
 | [],_=>⟨rfl,rfl,rfl⟩
 | p::r,h=>by
  obtain ⟨h3,h4,h5⟩:=kW fun z hz=>h z (List.mem_cons_of_mem _ hz);have hk:=aQ1 (h p List.mem_cons_self);rw [List.map_cons,List.all_cons,h3,qP,List.map_cons,h5];refine ⟨by simp [prP,eY,hk,fV],⟨by simp [prP,sok,soks],h4⟩,?_⟩;rfl
def zL {ks:List Nat} (h:ks.Pairwise (· < ·)):bH8 (ks.map fun (k:Nat)=>(k:Int))=true:=by
 unfold bH8;rw [List.all_eq_true];intro i hi;have hi':i+1 < ks.length:=by
  have:=List.mem_range.mp hi;simp at this;omega
 have:=List.pairwise_iff_getElem.mp h i (i+1) (by omega) hi' (by omega);simp [List.getD,hi',show i < ks.length by omega];omega
def aQ4 {ps:List (Nat×Int)} (h0:ps≠[]) (h1:(ps.map (·.1)).Pairwise (· < ·)) (h2:∀ p∈ps,p.1 < 8) (h3:ps.length<=8) :
  cN (.tuple [.str "lay",.tuple (ps.map prP)])=false/\fX (.tuple [.str "lay",.tuple (ps.map prP)])=true/\sok (.tuple [.str "lay",.tuple (ps.map prP)])=true:=by
 obtain ⟨q1,q2,q3⟩:=kW h2;have hd:fK (.tuple [.str "lay",.tuple (ps.map prP)])=false:=by
  unfold fK;simp
 have hc:cN (.tuple [.str "lay",.tuple (ps.map prP)])=false:=by simp [cN,hd,bT,cF8,fW]
 refine ⟨hc,?_,by simp [sok,soks,cG0,q2];omega⟩;have hr:=zL h1;rw [List.map_map] at hr;have he:(ps.map prP).isEmpty=false:=by simpa using h0
 simp only [fX,hc,lO,q1,q3,he];have e:(List.map (fun p:Nat×Int=>(p.1:Int)) ps)=List.map ((fun k:Nat=>(k:Int)) ∘ fun x=>x.1) ps:=rfl;rw [e,hr];simp
end SJ
namespace SJ
open PySem
set_option genInjectivity true in
inductive An1 where
 | got (v:Int) | dn | yes | no
noncomputable def An1.dat:An1->PyData
 | .got v=>.tuple [.str "got",.int v]
 | .dn=>.tuple [.str "done"]
 | .yes=>.tuple [.str "yes"]
 | .no=>.tuple [.str "no"]
noncomputable def An1.fits:One->An1->Prop
 | .read _,.got _=>True
 | .add _ _,.got _=>True
 | .write _ _,.dn=>True
 | .swap _ _ _,.yes=>True
 | .swap _ _ _,.no=>True
 | _,_=>False
set_option genInjectivity true in
inductive Ans where
 | one (a:An1) | all (ns:List Int) | each (as:List An1)
noncomputable def Ans.dat:Ans->PyData
 | .one a=>a.dat
 | .all ns=>.tuple [.str "all",.tuple (ns.map .int)]
 | .each as=>.tuple [.str "each",.tuple (as.map An1.dat)]
set_option genInjectivity true in
inductive Fit2:List One->List An1->Prop
 | nil:Fit2 [] []
 | cons {o:One} {a:An1} {os:List One} {as:List An1} (h:An1.fits o a) (t:Fit2 os as):Fit2 (o::os) (a::as)
noncomputable def Ans.fits:Call->Ans->Prop
 | .one o,.one a=>An1.fits o a
 | .span lo hi,.all ns=>ns.length=hi - lo
 | .deal cs,.each as=>Fit2 cs as
 | _,_=>False
noncomputable def cD (o:One) (t:PyData):Bool:=match o with
 | .read _=>(match t with
  | .tuple [.str s,v]=>(s==Str.ofString "got")&&fV v
  | _=>false)
 | .add _ _=>(match t with
  | .tuple [.str s,v]=>(s==Str.ofString "got")&&fV v
  | _=>false)
 | .write _ _=>aG t "done" 1
 | .swap _ _ _=>aG t "yes" 1||aG t "no" 1
noncomputable def fR:List One->List PyData->Bool
 | o::os,t::ts=>cD o t&&fR os ts
 | _,_=>true
noncomputable def bJ (c:Call) (t:PyData):Bool:=match c with
 | .one o=>cD o t
 | .span lo hi=>(match t with
  | .tuple [.str s,.tuple xs]=>(s==Str.ofString "all")&&decide ((xs.length:Int)=(hi:Int) - lo)&&xs.all fV
  | _=>false)
 | .deal cs=>(match t with
  | .tuple [.str s,.tuple xs]=>(s==Str.ofString "each")&&decide (xs.length=cs.length)&&fR cs xs
  | _=>false)
theorem Fit2.length:∀ {os:List One} {as:List An1},Fit2 os as->as.length=os.length
 | _,_,.nil=>rfl
 | _,_,.cons _ t=>by simp [t.length]
def vE {o:One} {a:An1} (h:An1.fits o a):cD o a.dat=true:=by
 cases o<;>cases a<;>simp [An1.fits] at h<;>simp [cD,An1.dat,fV,aG]
theorem qR:∀ {os:List One} {as:List An1},Fit2 os as->fR os (as.map An1.dat)=true
 | _,_,.nil=>rfl
 | _,_,.cons h t=>by simp [fR,vE h,qR t]
def aG0 {c:Call} {a:Ans} (h:Ans.fits c a) (hc:c.ok):bJ c a.dat=true:=by
 cases c<;>cases a<;>simp only [Ans.fits] at h<;>first | exact h.elim | skip
 ·exact vE h
 ·rename_i lo hi ns;have:=hc.1;simp [bJ,Ans.dat,h,fV];omega
 ·rename_i cs as;simp [bJ,Ans.dat,qR h,h.length]
end SJ
namespace DL
open PySem PySem.Spec PyProof.Rows L2
section
variable {X:Cx} {a b c d e:Expr} {ta tb tc td te:DTE} {tl th:DTO} {pos:Pos}
def vG:PE X (.Dict [] [] pos) (fun _ H Q=>∀ p,H p=none->Q (.ref p) (upd H p (.dK []))):=by
 intro pins s σ H Q I q;refine wpAny_Dict_empty ?_;have hn:(s.heap.objs.size==sysModules)=false:=by
  have h:mainGlobals < s.heap.objs.size:=(I.mod.glob.keeps I.bk).lt;have:sysModules < s.heap.objs.size:=Nat.lt_trans (by decide) h;exact beq_eq_false_iff_ne.mpr (Nat.ne_of_gt this)
 refine ⟨.ref s.heap.objs.size,_,I.laid (t':=s.toks) (o:=.dK []) (fun b ob q=>Heap.get?_push_of_some _ q) (Nat.le_refl _) ?_,rfl,q _ (I.hok.fresh (Nat.le_refl _))⟩;exact ⟨Nat.zero_le _,hn,[],.nil,Heap.DictOf.new s.heap⟩
def aQ5:DE X (.Dict [] [] pos) (dC (.dict [])):=aI vG fun σ H Q q=>by
 obtain ⟨δ,h,A,μ,k,R,q,c⟩:=q;intro p hp;refine c _ h _ _ A μ q (bR hp) (R.1.fresh hp) ?_;show Rep _ _ _ _ _;rw [Rep];exact ⟨p,[],rfl,⟨R.1.notA hp,.inl bH⟩,by rw [RepKs]⟩
theorem nX {K:Frag} {A:List Addr} {H:Hp} {xs:List PyData} {vs:List V} (r:Reps K A H xs vs):∀ n:Nat,Reps K A H (List.replicate n xs).flatten (List.replicate n vs).flatten
 | 0=>.nil
 | n+1=>by
  rw [List.replicate_succ,List.replicate_succ,List.flatten_cons,List.flatten_cons];exact (nX r n).append r
def cV3 (ta tb:DTE):DTF:=fun δ h Q=>ta δ h fun u h1=>tb δ h1 fun w h2=>match u,w with
 | .c i,.d (.int k)=>(match h2[i]? with
  | some (.l xs)=>(-(2^63)<=k/\k < 2^63/\xs.length*k.toNat<=sizeLine)/\Q (List.replicate k.toNat xs).flatten h2
  | _=>False)
 | _,_=>False
def cG1 (ha:DE X a ta) (hb:DE X b tb):DF X (.BinOp a .Mult b pos) (cV3 ta tb):=aI (aL7 cA1 ha hb) fun σ H Q q=>by
 obtain ⟨δ,h,A,μ,k,R,q,c⟩:=q;refine ⟨δ,h,A,μ,_,R,q,fun u h1 v H1 A1 μ1 q1 x1 R1 r1=>?_⟩;refine ⟨δ,h1,A1,μ1,_,⟨R1,R.2.ext x1 R.1.sub⟩,q1,fun w h2 v2 H2 A2 μ2 q2 x2 R2 r2=>?_⟩;split at q2
 ·rename_i i n;split at q2
  ·rename_i xs ex;obtain ⟨p,ep,rfl⟩:=r1.ext x2 R1.sub;obtain ⟨vs,hv,rr⟩:=R2.val i p xs ep ex;obtain ⟨⟨n1,n2,n3⟩,q2⟩:=q2;refine ⟨p,n,vs,rfl,bD r2,hv,n1,n2,by rw [rr.length];exact n3,fun l hl=>?_⟩;have x12:=x1.trans x2;obtain ⟨ν,e1,_⟩:=x12.pre;exact c _ _ _ _ _ _ q2 (x12.trans (cC hl)) ⟨ν,e1⟩ (x12.back hl) (dX R2 hl (nX rr _))
  ·exact q2.elim
 ·exact q2.elim
end
section
variable {X:Cx} {a b c d e:Expr} {ta tb tc td te:DTE} {pos:Pos}
end
def iF:fillsNumberSlot (.type "tuple") "mul"=pure false :=
 PySem.fillsNumberSlot_seq (id:="tuple.__mul__") (r:=some (.builtin "tuple.__rmul__")) PySem.F.slot_tuple_mul.lookup (by decide +kernel) PySem.F.slot_tuple_rmul.lookup (by decide +kernel)
def iZ:seqRepeat? (.type "tuple")=pure (some (.builtin "tuple.__mul__")):=by
 unfold seqRepeat?;rw [PySem.seqSlot_of (T:="tuple") (name:="__mul__") (id:="tuple.__mul__") PySem.F.slot_tuple_mul.lookup (by decide +kernel),PySem.seqSlot_of (T:="tuple") (name:="__rmul__") (id:="tuple.__rmul__") PySem.F.slot_tuple_rmul.lookup (by decide +kernel)];rfl
def iG (a:Int) (t:Tok) (l:Addr) (items:Array Value) (n:Nat) (dd:Option Addr) (sl:Array (Option Value)) :
  Meets (Builtin.«int.__rmul__» ⟨[.int a t,.ref l],[]⟩) (fun _ R s=>s.heap.get? l=some { cls:=.type "tuple",dict:=dd,data:=.seq items n,slots:=sl }/\R (.ok (.ret Value.notImplemented)) s) :=
 .of_wp fun prog w A R s h=>by
  obtain ⟨hp,g,d,tk,os⟩:=s;obtain ⟨hl,h⟩:=h
  wp_walk
  exact ⟨_,rfl,h⟩
def vH (l:Addr) (items:Array Value) (n:Nat) (dd:Option Addr) (sl:Array (Option Value)) (k:Int) (u:Tok) (h1:¬ (k < -(2^63)||k ≥ 2^63)=true) (h2:¬ (items.isEmpty||k==1)=true) (h3:¬ (decide (k<=0)||items.isEmpty)=true)
  (h4:¬ (items.size*k > (2^63 - 1) / 8)) (h6:¬ Builtin.Tuple.tupleTooMany (items.size*k)=true) (h5:¬ ((List.replicate k.toNat items).foldl (·++·) #[]).size > sizeLine) :
  Meets (Builtin.«tuple.__mul__» ⟨[.ref l,.int k u],[]⟩) (fun _ R s=>s.heap.get? l=some { cls:=.type "tuple",dict:=dd,data:=.seq items n,slots:=sl } /\
   R (.ok (.ret (.ref s.heap.objs.size))) { s with heap:=s.heap.push { cls:=.type "tuple",data:=.seq ((List.replicate k.toNat items).foldl (·++·) #[]) 0 } }) :=
 .of_wp fun prog w A R s h=>by
  obtain ⟨hp,g,d,tk,os⟩:=s;obtain ⟨hl,h⟩:=h;have f2:=AutoSeq1.sub_tuple_tuple
  wp_walk
  refine wpAny_ite_false (decide_eq_false h1) ?_
  wp_walk using wpAny_loadPart' hl
  refine wpAny_ite_false (decide_eq_false h4) ?_
  wp_walk
  exact ⟨_,rfl,h⟩
section
variable {X:Cx} {a b c d e:Expr} {ta tb tc td te:DTE} {pos:Pos}
def bI7:OpR X (binaryOp .Mult) (fun x y H Q=>∃ l k xs,x=.ref l/\y=.int k/\SqT X.K H l xs/\xs≠[]/\1 < k/\k < 2^63/\xs.length*k.toNat<=sizeLine/\∀ p,H p=none->Q (.ref p) (upd H p (.tup (List.replicate k.toNat xs).flatten))):=by
 intro pins s σ H x y v u Q I rx ry h;obtain ⟨l,k,xs,rfl,rfl,sq,hne,k1,k2,hz,q⟩:=h;cases rx;obtain ⟨t,rfl⟩:=ry;obtain ⟨its,r,p,hz0⟩:=I.tuple sq;obtain ⟨⟨cls,dd,data,sl⟩,ho,hc,n,hd⟩:=id p;simp only at hc hd;subst hc hd;have hl:=r.length;have hn:its≠[]:=fun z=>hne (r.nil_iff.mp z);have he:its.toArray.isEmpty=false:=by
  cases its with
  | nil=>exact absurd rfl hn
  | cons=>rfl
 have hf:(List.replicate k.toNat its.toArray).foldl (·++·) #[]=(List.replicate k.toNat its).flatten.toArray:=by
  have:=kR its k.toNat [];rw [List.nil_append] at this;exact this
 have hm:(its.length:Int)*k=((its.length*k.toNat:Nat):Int):=by
  rw [Int.natCast_mul,Int.toNat_of_nonneg (by omega)]
 have hz':its.length*k.toNat<=sizeLine:=by rw [<- hl];exact hz
 have hsl:(sizeLine:Int)<=(2^63 - 1) / 8:=by decide
 refine wpAny_binaryOp_repeat_ref (T:="tuple") (U:="int") (by decide) ⟨_,ho,rfl⟩ (fun s'=>typeIs_int s' k t) iF PySem.F.fills_int_mul PySem.F.slot_int_rmul iZ PySem.F.slot_int_index.lookup
  (call_meets PySem.F.slot_int_rmul (typeIs_int s k t) PySem.F.entry_int_rmul (PySem.F.args_int_rmul_2 _ _) (iG k t l its.toArray n dd sl)
   ⟨ho,rfl,⟨_,ho,rfl⟩,call_meets PySem.F.slot_tuple_mul ⟨_,ho,rfl⟩ PySem.F.entry_tuple_mul (PySem.F.args_tuple_mul_2 _ _) (vH l its.toArray n dd sl k t ?_ ?_ ?_ ?_ ?_ ?_) ⟨ho,?_⟩⟩)
 ·simp;omega
 ·rw [he];simp;omega
 ·rw [he];simp;omega
 ·rw [List.size_toArray,hm];omega
 ·unfold Builtin.Tuple.tupleTooMany;rw [List.size_toArray,hm,decide_eq_true_eq];omega
 ·rw [hf,List.size_toArray,sH,Nat.mul_comm];omega
 ·rw [hf];refine ⟨.ref s.heap.objs.size,_,I.laid (t':=s.toks) (o:=.tup (List.replicate k.toNat xs).flatten) (fun b ob q=>Heap.get?_push_of_some _ q) (Nat.le_refl _) ?_,rfl,q _ (I.hok.fresh (Nat.le_refl _))⟩;exact ⟨by rw [sH,Nat.mul_comm];exact hz,_,r.rep k.toNat,IsTupD.new _ _⟩
noncomputable def bT7:D2
 | .d (.tuple xs),.d (.int k),h,Q=>(xs≠[]/\1 < k/\k < 2^63/\xs.length*k.toNat<=sizeLine)/\Q (.d (.tuple (List.replicate k.toNat xs).flatten)) h
 | _,_,_,_=>False
def aQ6:OpR X (binaryOp .Mult) (upR X.K bT7):=by
 intro pins s σ H x y v u Q I rx ry h;obtain ⟨a,b,h,A,μ,k,R,ra,rb,q,c⟩:=h;unfold bT7 at q;split at q
 ·rename_i xs n;obtain ⟨p,vs,rfl,ta,sa⟩:=bE (h:=h) ra rfl;have eb:=bD rb;subst eb;obtain ⟨⟨n0,n1,n2,n3⟩,q⟩:=q;refine bI7 pins s σ H _ _ v u Q I rx ry ⟨p,n,vs,rfl,rfl,ta.sq,fun z=>n0 (List.eq_nil_of_length_eq_zero (by rw [<- sa.length,z];rfl)),n1,n2,by rw [sa.length];exact n3,fun p' hp=>?_⟩;exact c _ _ _ _ _ _ q (bR hp) (R.fresh hp) (fD R hp (nX sa _))
 ·exact q.elim
end
section
variable {X:Cx} {a b:Expr} {ta tb:DTE} {pos:Pos}
def cV4 (ta tb:DTE):DTF:=fun δ h Q=>ta δ h fun u h1=>tb δ h1 fun w h2=>match ref h2 u,ref h2 w with
 | some (.list xs),some (.list ys)=>xs.length+ys.length<=sizeLine/\Q (xs++ys) h2
 | _,_=>False
def bI8 (ha:DE X a ta) (hb:DE X b tb):DF X (.BinOp a .Add b pos) (cV4 ta tb):=aI (aL7 zK ha hb) fun σ H Q q=>by
 obtain ⟨δ,h,A,μ,k,R,q,c⟩:=q;refine ⟨δ,h,A,μ,_,R,q,fun u h1 v H1 A1 μ1 q1 x1 R1 r1=>?_⟩;refine ⟨δ,h1,A1,μ1,_,⟨R1,R.2.ext x1 R.1.sub⟩,q1,fun w h2 v2 H2 A2 μ2 q2 x2 R2 r2=>?_⟩;split at q2
 ·rename_i xs ys ex ey;obtain ⟨p,vs,rfl,s1,rr1⟩:=bZ R2 (r1.ext x2 R1.sub) ex;obtain ⟨p',vs',rfl,s2,rr2⟩:=bZ R2 r2 ey;refine ⟨p,p',vs,vs',rfl,rfl,s1,s2,by rw [rr1.length,rr2.length];exact q2.1,fun l hl=>?_⟩;have x12:=x1.trans x2;obtain ⟨ν,e1,_⟩:=x12.pre;exact c _ _ _ _ _ _ q2.2 (x12.trans (cC hl)) ⟨ν,e1⟩ (x12.back hl) (dX R2 hl (rr2.append rr1))
 ·exact q2.elim
end
end DL
namespace L2
open PySem PySem.Spec PyProof.Rows
section
variable {prog:Program} {w:World} {A:Around} {R:Result->Shared->Prop} {I:Addr} {fp wr:List Addr} {n:Nat} {P:Nat->Value->Prop} {St:Nat->Heap->Prop}
end
section
variable {prog:Program} {w:World} {A:Around} {E:Value->Shared->Prop} {s:Shared}
end
end L2
namespace DL
open PySem PySem.Spec PyProof.Rows L2
noncomputable def sV (kvs:List (PyData×PyData)) (k v:PyData):List (PyData×PyData) :=
 if (kvs.any fun p=>decide (bF p.1=bF k))=true then kvs.map (fun p=>if bF p.1=bF k then (p.1,v) else p) else kvs++[(k,v)]
section
variable {K:Frag} {A μ:List Addr} {H:Hp} {h:aA}
def repKs_cons {p:PyData×PyData} {kvs:List (PyData×PyData)} {r:List (Key×V)}:RepKs K A H (p::kvs) r ↔ ∃ q r',r=q::r'/\(bF p.1=some q.1/\Rep K A H p.2 q.2)/\RepKs K A H kvs r':=by
 obtain ⟨a,b⟩:=p;rw [RepKs];constructor
 ·rintro ⟨q,r',e,h1,h2⟩;rw [RepP] at h1;exact ⟨q,r',e,h1,h2⟩
 ·rintro ⟨q,r',e,h1,h2⟩;exact ⟨q,r',e,by rw [RepP];exact h1,h2⟩
def repKs_nil {r:List (Key×V)}:RepKs K A H [] r ↔ r=[]:=by rw [RepKs]
theorem qS {k:PyData} {q:Key} (hk:bF k=some q):∀ {kvs:List (PyData×PyData)} {r:List (Key×V)},RepKs K A H kvs r->(kvs.any fun p=>decide (bF p.1=bF k))=r.any fun kv=>decide (kv.1=q)
 | [],r,h=>by rw [repKs_nil.mp h];rfl
 | p::kvs,r,h=>by
  obtain ⟨q',r',rfl,⟨h1,h2⟩,h3⟩:=repKs_cons.mp h;rw [List.any_cons,List.any_cons,qS hk h3,h1,hk];simp
theorem qT:∀ {kvs more:List (PyData×PyData)} {r r2:List (Key×V)},RepKs K A H kvs r->RepKs K A H more r2->RepKs K A H (kvs++more) (r++r2)
 | [],_,r,r2,h,h2=>by rw [repKs_nil.mp h];exact h2
 | p::kvs,more,r,r2,h,h2=>by
  obtain ⟨q',r',rfl,h1,h3⟩:=repKs_cons.mp h;exact repKs_cons.mpr ⟨q',r'++r2,rfl,h1,qT h3 h2⟩
theorem nY {k:PyData} {q:Key} {x:PyData} {y:V} (hk:bF k=some q) (rx:Rep K A H x y):∀ {kvs:List (PyData×PyData)} {r:List (Key×V)},RepKs K A H kvs r ->
  RepKs K A H (kvs.map fun p=>if bF p.1=bF k then (p.1,x) else p) (r.map fun kv=>if kv.1=q then (kv.1,y) else kv)
 | [],r,h=>by rw [repKs_nil.mp h];exact repKs_nil.mpr rfl
 | p::kvs,r,h=>by
  obtain ⟨q',r',rfl,⟨h1,h2⟩,h3⟩:=repKs_cons.mp h;rw [List.map_cons,List.map_cons];refine repKs_cons.mpr ⟨_,_,rfl,?_,nY hk rx h3⟩;rw [h1,hk]
  by_cases e:q'.1=q
  ·rw [if_pos e,if_pos (by rw [e])];exact ⟨h1,rx⟩
  ·rw [if_neg e,if_neg (fun z=>e (Option.some.inj z))];exact ⟨h1,h2⟩
def aG1 {k:PyData} {q:Key} {x:PyData} {y:V} (hk:bF k=some q) (rx:Rep K A H x y) {kvs:List (PyData×PyData)} {r:List (Key×V)} (h:RepKs K A H kvs r):RepKs K A H (sV kvs k x) (sI r q y):=by
 unfold sV sI;rw [qS hk h];split
 ·exact nY hk rx h
 ·exact qT h (repKs_cons.mpr ⟨_,_,rfl,⟨hk,rx⟩,repKs_nil.mpr rfl⟩)
end
variable {X:Cx}
end DL
namespace PySem
open PyProof.Rows
section
variable {prog:Program} {w:World} {A:Around} {E:Value->Shared->Prop} {s:Shared}
def jV {it t:Addr} {i:Nat} {items:Array Value} {x:Value} {Q:Value->Shared->Prop} (hit:s.heap.IsTupleIter it t i) (hl:s.heap.IsTuple t items) (hx:items[i]?=some x)
  (hQ:∀ h',h'.IsTupleIter it t (i+1)->Heap.SameBut it s.heap h'->Q x { s with heap:=h' }):wpAny (model prog w) A (Builtin.SmallTypes.nextOf (.ref it)) Q E s:=by
 obtain ⟨o,ho,hc,hd⟩:=id hit;obtain ⟨ol,hol,hlc,nl,hdl⟩:=hl;unfold Builtin.SmallTypes.nextOf;refine wpAny_bind (wpAny_callSpecial?_slot (hit.typeIs) F.slot_tuple_iterator_next (wpAny_call_entry F.slot_tuple_iterator_next hit.typeIs F.entry_tuple_iterator_next ?_ (F.args_tuple_iterator_next_1 _)));refine wpAny_bind (wpAny_pure (a:=(Value.ref it,[])) ?_);refine wpAny_bind (wpAny_field ho hd rfl ?_);rw [if_neg (by exact Bool.false_ne_true)];refine wpAny_bind (wpAny_field ho hd rfl ?_);refine wpAny_bind (wpAny_seqItems hol hdl ?_);show wpAny _ _ (match items[((i:Int)).toNat]? with | some x=>_ | none=>_) _ _ _;rw [Int.toNat_natCast,hx];refine wpAny_bind (wpAny_setField ho hd (by simp) ?_);refine wpAny_pure ⟨x,rfl,wpAny_pure (hQ _ ⟨_,Heap.get?_update_self _ ho (Obj.isFreed_of_fields (Obj.data_mapFields hd _)),(Obj.cls_mapFields o _).trans hc,?_⟩ (Heap.SameBut.update _ _ _))⟩;rw [Obj.data_mapFields hd];rfl
def kX {it t:Addr} {i:Nat} {items:Array Value} {Q:Value->Shared->Prop} (hh:A.handled=none) (hit:s.heap.IsTupleIter it t i) (hl:s.heap.IsTuple t items) (hx:items[i]?=none)
  (hE:∀ h' e,Heap.ExtBut it s.heap h'->(∃ o,h'.get? e=some o/\o.cls=.type "StopIteration")->E (.ref e) { s with heap:=h' }):wpAny (model prog w) A (Builtin.SmallTypes.nextOf (.ref it)) Q E s:=by
 obtain ⟨o,ho,hc,hd⟩:=id hit;obtain ⟨ol,hol,hlc,nl,hdl⟩:=hl;unfold Builtin.SmallTypes.nextOf;refine wpAny_bind (wpAny_callSpecial?_slot (hit.typeIs) F.slot_tuple_iterator_next (wpAny_call_entry F.slot_tuple_iterator_next hit.typeIs F.entry_tuple_iterator_next ?_ (F.args_tuple_iterator_next_1 _)));refine wpAny_bind (wpAny_pure (a:=(Value.ref it,[])) ?_);refine wpAny_bind (wpAny_field ho hd rfl ?_);rw [if_neg (by exact Bool.false_ne_true)];refine wpAny_bind (wpAny_field ho hd rfl ?_);refine wpAny_bind (wpAny_seqItems hol hdl ?_);show wpAny _ _ (match items[((i:Int)).toNat]? with | some x=>_ | none=>_) _ _ _;rw [Int.toNat_natCast,hx];refine wpAny_bind (wpAny_rule ?_);refine wpAny_bind (wpAny_setField ho hd (by simp) ?_);unfold Builtin.SmallTypes.stopIteration newExc;refine wpAny_bind (wpAny_bind (wpAny_newObj_type ?_ (by show (([]:List Value).toArray.size<=sizeLine);simp)));refine wpAny_bind (wpAny_pure (a:=Value.none) ?_);refine wpAny_newObj_type ?_ (sizeOk_excFields ..);unfold raiseNew;refine wpAny_bind (wpAny_handled ?_);rw [show A.in1.handled=none from hh];refine wpAny_throw (hE _ _ (fun b o' hb e=>?_) ⟨_,Heap.get?_push_size _ rfl,rfl⟩);refine Heap.get?_push_of_some _ (Heap.get?_push_of_some _ ?_);rw [(Heap.SameBut.update s.heap it _).2 b hb];exact e
noncomputable def SqAt:Bool->Heap->Addr->Array Value->Prop
 | true,h,l,xs=>h.IsTuple l xs
 | false,h,l,xs=>h.IsList l xs
noncomputable def ItAt:Bool->Heap->Addr->Addr->Nat->Prop
 | true,h,it,l,k=>h.IsTupleIter it l k
 | false,h,it,l,k=>h.IsListIter it l k
noncomputable def bI9 (b:Bool) (l:Addr):Obj:={ cls:=.type (if b=true then "tuple_iterator" else "list_iterator"),data:=.fields #[.ref l,.int 0 0] }
def SqAt.keep {b:Bool} {h h':Heap} {l:Addr} {xs:Array Value} (x:SqAt b h l xs) (k:∀ o,h.get? l=some o->h'.get? l=some o):SqAt b h' l xs:=by
 cases b<;>exact let ⟨o,h1,h2⟩:=x;⟨o,k o h1,h2⟩
def ItAt.keep {b:Bool} {h h':Heap} {it l:Addr} {i:Nat} (x:ItAt b h it l i) (k:∀ o,h.get? it=some o->h'.get? it=some o):ItAt b h' it l i:=by
 cases b<;>exact let ⟨o,h1,h2⟩:=x;⟨o,k o h1,h2⟩
def ItAt.new {b:Bool} {h:Heap} {it l:Addr} (e:h.get? it=some (bI9 b l)):ItAt b h it l 0:=by
 cases b<;>exact ⟨_,e,rfl,rfl⟩
def qU {b:Bool} {l:Addr} {xs:Array Value} {Q:Value->Shared->Prop} (hl:SqAt b s.heap l xs) (h:Q (.ref s.heap.objs.size) { s with heap:=s.heap.push (bI9 b l) }):wpAny (model prog w) A (pyIter (.ref l)) Q E s:=by
 cases b
 ·exact wpAny_pyIter_list hl h
 ·exact wpAny_pyIter_tuple hl h
def iH {b:Bool} {it l:Addr} {i:Nat} {items:Array Value} {x:Value} {Q:Value->Shared->Prop} (hit:ItAt b s.heap it l i) (hl:SqAt b s.heap l items) (hx:items[i]?=some x)
  (hQ:∀ h',ItAt b h' it l (i+1)->Heap.SameBut it s.heap h'->Q x { s with heap:=h' }):wpAny (model prog w) A (Builtin.SmallTypes.nextOf (.ref it)) Q E s:=by
 cases b
 ·exact wpAny_nextOf_list_item hit hl hx hQ
 ·exact jV hit hl hx hQ
def nZ {b:Bool} {it l:Addr} {i:Nat} {items:Array Value} {Q:Value->Shared->Prop} (hh:A.handled=none) (hit:ItAt b s.heap it l i) (hl:SqAt b s.heap l items) (hx:items[i]?=none)
  (hE:∀ h' e,Heap.ExtBut it s.heap h'->(∃ o,h'.get? e=some o/\o.cls=.type "StopIteration")->E (.ref e) { s with heap:=h' }):wpAny (model prog w) A (Builtin.SmallTypes.nextOf (.ref it)) Q E s:=by
 cases b
 ·exact wpAny_nextOf_list_end hh hit hl hx hE
 ·exact kX hh hit hl hx hE
noncomputable abbrev zH1 (b:Bool) (h:Heap) (l1:Addr):Heap:=h.push (bI9 b l1)
noncomputable abbrev zH2 (b c:Bool) (h:Heap) (l1 l2:Addr):Heap:=(zH1 b h l1).push (bI9 c l2)
noncomputable abbrev zH3 (b c:Bool) (h:Heap) (l1 l2:Addr):Heap:=(zH2 b c h l1 l2).push { cls:=.type "tuple",data:=.seq #[.ref h.objs.size,.ref (zH1 b h l1).objs.size] }
noncomputable abbrev zH4 (b c:Bool) (h:Heap) (l1 l2:Addr):Heap:=(zH3 b c h l1 l2).push { cls:=.type "tuple",data:=.seq #[.none,.none] }
noncomputable abbrev zH5 (b c:Bool) (h:Heap) (l1 l2:Addr):Heap:=(zH4 b c h l1 l2).push { cls:=.type "zip",data:=.fields #[.none,.bool false,.bool false,.ref (zH2 b c h l1 l2).objs.size,.ref (zH3 b c h l1 l2).objs.size] }
def bJ0 (b c:Bool) (l1 l2:Addr) (xs ys:Array Value):Meets (Builtin.«zip.__new__» { pos:=[.type "zip",.ref l1,.ref l2] }) fun _ R s=>SqAt b s.heap l1 xs/\SqAt c s.heap l2 ys /\
  R (.ok (.ret (.ref (zH4 b c s.heap l1 l2).objs.size))) { s with heap:=zH5 b c s.heap l1 l2 }:=by
 refine Meets.of_wp fun prog w A R s h=>?_;obtain ⟨h1,h2,h⟩:=h;unfold Builtin.«zip.__new__»;refine wpAny_bind (wpAny_pure (a:=(Value.type "zip",[Value.ref l1,Value.ref l2])) ?_);dsimp only;rw [if_neg (by decide)];refine wpAny_bind ?_;unfold Builtin.SmallTypes.iterAll;refine wpAny_bind ?_;rw [List.forIn_cons];refine wpAny_bind (wpAny_bind (wpAny_holding (qU h1 (wpAny_pure ?_))));dsimp only;rw [List.forIn_cons];refine wpAny_bind (wpAny_bind (wpAny_holding (qU (h2.keep fun o e=>Heap.get?_push_of_some _ e) (wpAny_pure ?_))));dsimp only;rw [List.forIn_nil];refine wpAny_pure (wpAny_pure ?_);refine wpAny_bind (wpAny_newObj_type ?_ (by show (_:Array Value).size<=sizeLine;simp [sizeLine_eq]));refine wpAny_bind (wpAny_newObj_type ?_ (by show (_:Array Value).size<=sizeLine;simp [sizeLine_eq]));refine wpAny_bind ?_;unfold Builtin.SmallTypes.newRecord;refine wpAny_newObj_type (wpAny_pure ⟨_,rfl,h⟩) ?_;simp [sizeOk,Builtin.SmallTypes.ownedTupleFields,sizeLine_eq]
def aQ7 {b c:Bool} {l1 l2:Addr} {xs ys:Array Value} {Q:Value->Shared->Prop} (h1:SqAt b s.heap l1 xs) (h2:SqAt c s.heap l2 ys)
  (h:∀ h',IsZip h' (s.heap.objs.size+4) (s.heap.objs.size+2) (s.heap.objs.size+3) .none->IsPair h' (s.heap.objs.size+2) (.ref s.heap.objs.size) (.ref (s.heap.objs.size+1))->IsPair h' (s.heap.objs.size+3) .none .none ->
   ItAt b h' s.heap.objs.size l1 0->ItAt c h' (s.heap.objs.size+1) l2 0->h'.objs.size=s.heap.objs.size+5->(∀ a o,s.heap.get? a=some o->h'.get? a=some o)->Q (.ref (s.heap.objs.size+4)) { s with heap:=h' }) :
  wpAny (model prog w) A (call (.type "zip") [.ref l1,.ref l2]) Q E s:=by
 have z1:(zH1 b s.heap l1).objs.size=s.heap.objs.size+1:=Heap.size_push ..;have z2:(zH2 b c s.heap l1 l2).objs.size=s.heap.objs.size+2:=by rw [zH2,Heap.size_push,z1]
 have z3:(zH3 b c s.heap l1 l2).objs.size=s.heap.objs.size+3:=by rw [zH3,Heap.size_push,z2]
 have z4:(zH4 b c s.heap l1 l2).objs.size=s.heap.objs.size+4:=by rw [zH4,Heap.size_push,z3]
 have z5:(zH5 b c s.heap l1 l2).objs.size=s.heap.objs.size+5:=by rw [zH5,Heap.size_push,z4]
 have g5:(zH5 b c s.heap l1 l2).get? (zH4 b c s.heap l1 l2).objs.size=_:=Heap.get?_push_size _ rfl;have g4:(zH5 b c s.heap l1 l2).get? (zH3 b c s.heap l1 l2).objs.size=_:=Heap.get?_push_of_some _ (Heap.get?_push_size _ rfl);have g3:(zH5 b c s.heap l1 l2).get? (zH2 b c s.heap l1 l2).objs.size=_:=Heap.get?_push_of_some _ (Heap.get?_push_of_some _ (Heap.get?_push_size _ rfl));have g2:(zH5 b c s.heap l1 l2).get? (zH1 b s.heap l1).objs.size=_:=Heap.get?_push_of_some _ (Heap.get?_push_of_some _ (Heap.get?_push_of_some _ (Heap.get?_push_size _ rfl)));have g1:(zH5 b c s.heap l1 l2).get? s.heap.objs.size=_:=Heap.get?_push_of_some _ (Heap.get?_push_of_some _ (Heap.get?_push_of_some _ (Heap.get?_push_of_some _ (Heap.get?_push_size _ rfl))));refine callType_new F.called_zip (by decide) (F.typeCall_zip_2 _ _) (F.newCall_zip_2 _ _) (fun obj=>F.args_object_init_3 obj _ _) F.entry_zip_new (bJ0 b c l1 l2 xs ys) ⟨h1,h2,?_⟩;have q:=h (zH5 b c s.heap l1 l2) (by rw [z4,z3,z2] at g5;exact g5) (by rw [z2,z1] at g3;exact g3) (by rw [z3] at g4;exact g4) (.new g1) (.new (by rw [z1] at g2;exact g2)) z5
  (fun a o e=>Heap.get?_push_of_some _ (Heap.get?_push_of_some _ (Heap.get?_push_of_some _ (Heap.get?_push_of_some _ (Heap.get?_push_of_some _ e)))))
 rw [<- z4] at q;exact ⟨⟨_,g5,rfl⟩,q⟩
def sX {h:Heap} {z TI TO:Addr} {f0 x:Value} (hz:IsZip h z TI TO f0):IsZip (h.update z (Obj.mapFields fun a=>a.setIfInBounds 0 x)) z TI TO x:=by
 refine (Heap.get?_update_self _ hz (Obj.isFreed_of_fields (Obj.data_mapFields rfl _))).trans ?_;rfl
def aQ8 {h:Heap} {z TI TO:Addr} {f0:Value} (hz:IsZip h z TI TO f0):IsZip (h.update z (Obj.mapFields fun a=>a.setIfInBounds 1 (.bool false))) z TI TO f0:=by
 refine (Heap.get?_update_self _ hz (Obj.isFreed_of_fields (Obj.data_mapFields rfl _))).trans ?_;rfl
structure ZApart (z TI TO i1 i2:Addr):Prop where
 TIz:TI≠z
 TOz:TO≠z
 i1z:i1≠z
 i2z:i2≠z
 TITO:TI≠TO
 TOi1:TO≠i1
 TOi2:TO≠i2
 TIi1:TI≠i1
 TIi2:TI≠i2
 i12:i1≠i2
def aG2 {b c:Bool} {z TI TO i1 i2 l1 l2:Addr} {k:Nat} {xs ys:Array Value} {x y u v:Value} {Q:Value->Shared->Prop} (D:ZApart z TI TO i1 i2) (hz:IsZip s.heap z TI TO .none) (hTI:IsPair s.heap TI (.ref i1) (.ref i2)) (hTO:IsPair s.heap TO u v)
  (h1:ItAt b s.heap i1 l1 k) (h2:ItAt c s.heap i2 l2 k) (q1:SqAt b s.heap l1 xs) (q2:SqAt c s.heap l2 ys) (nz1:l1≠z) (nz2:l2≠z) (nT2:l2≠TO) (n21:l2≠i1) (hx:xs[k]?=some x) (hy:ys[k]?=some y)
  (hQ:∀ h',IsZip h' z TI TO (rawInt s.heap.objs.size)->IsPair h' TO x y->ItAt b h' i1 l1 (k+1)->ItAt c h' i2 l2 (k+1)->IsPair h' s.heap.objs.size x y->h'.objs.size=s.heap.objs.size+1 ->
   (∀ a o,a≠z->a≠TO->a≠i1->a≠i2->s.heap.get? a=some o->h'.get? a=some o)->Q (.ref s.heap.objs.size) { s with heap:=h' }) :
  wpAny (model prog w) A (Builtin.«zip.__next__» { pos:=[.ref z] }) (fun fin s'=>∃ v,fin=Fin.done (.ret v)/\Q v s') E s:=by
 unfold Builtin.«zip.__next__»;refine wpAny_bind (wpAny_pure (a:=(Value.ref z,[])) ?_);refine wpAny_bind (wpAny_field hz rfl rfl ?_);refine wpAny_bind (wpAny_field hz rfl rfl ?_);refine wpAny_bind (wpAny_seqItems hTI rfl ?_);dsimp only;rw [if_neg (by simp)];refine wpAny_bind ?_;unfold Builtin.SmallTypes.ownedTupleIsFree;refine wpAny_bind (wpAny_field hz rfl rfl ?_);refine wpAny_pure ?_;rw [if_pos rfl];refine wpAny_bind (wpAny_rule ?_);refine wpAny_bind (wpAny_field hz rfl rfl ?_);refine wpAny_bind (wpAny_setField hz rfl (by simp) ?_);have e1:=Heap.SameBut.update s.heap z (Obj.mapFields fun a=>a.setIfInBounds 0 Value.ellipsis);have hz1:=sX (x:=Value.ellipsis) hz;generalize s.heap.update z (Obj.mapFields fun a=>a.setIfInBounds 0 Value.ellipsis)=H1 at e1 hz1 ⊢;have h11:ItAt b H1 i1 l1 k:=h1.keep fun o e=>(e1.2 _ D.i1z).trans e;have q11:SqAt b H1 l1 xs:=q1.keep fun o e=>(e1.2 _ nz1).trans e;have hTO1:IsPair H1 TO u v:=(e1.2 _ D.TOz).trans hTO;refine wpAny_bind ?_;rw [show [Value.ref i1,Value.ref i2].zipIdx=[(Value.ref i1,0),(Value.ref i2,1)] from rfl,List.forIn_cons];refine wpAny_bind (wpAny_bind (wpAny_onRaise ?_))
 change wpAny _ _ (Builtin.SmallTypes.nextOf (Value.ref i1) >>= fun v=>pure (some v)) _ _ _
 refine wpAny_bind (iH h11 q11 hx fun H2 h12 e2=>wpAny_pure ?_);have hz2:IsZip H2 z TI TO .ellipsis:=(e2.2 _ D.i1z.symm).trans hz1;have hTO2:IsPair H2 TO u v:=(e2.2 _ D.TOi1).trans hTO1;refine wpAny_bind (wpAny_seqItems hTO2 rfl (wpAny_bind (wpAny_updateSeq_pair hTO2 fun H3 hTO3 e3=>wpAny_bind (wpAny_letGo (wpAny_pure ?_)))));have hTO3:IsPair H3 TO x v:=hTO3;have hz3:IsZip H3 z TI TO .ellipsis:=(e3.2 _ D.TOz.symm).trans hz2;have h23:ItAt c H3 i2 l2 k:=h2.keep fun o e=>(e3.2 _ D.TOi2.symm).trans ((e2.2 _ D.i12.symm).trans ((e1.2 _ D.i2z).trans e));have q23:SqAt c H3 l2 ys:=q2.keep fun o e=>(e3.2 _ nT2).trans ((e2.2 _ n21).trans ((e1.2 _ nz2).trans e));dsimp only;rw [List.forIn_cons];refine wpAny_bind (wpAny_bind (wpAny_onRaise ?_))
 change wpAny _ _ (Builtin.SmallTypes.nextOf (Value.ref i2) >>= fun v=>pure (some v)) _ _ _
 refine wpAny_bind (iH h23 q23 hy fun H4 h24 e4=>wpAny_pure ?_);have hz4:IsZip H4 z TI TO .ellipsis:=(e4.2 _ D.i2z.symm).trans hz3;have hTO4:IsPair H4 TO x v:=(e4.2 _ D.TOi2).trans hTO3;refine wpAny_bind (wpAny_seqItems hTO4 rfl (wpAny_bind (wpAny_updateSeq_pair hTO4 fun H5 hTO5 e5=>wpAny_bind (wpAny_letGo (wpAny_pure ?_)))));have hTO5:IsPair H5 TO x y:=hTO5;have hz5:IsZip H5 z TI TO .ellipsis:=(e5.2 _ D.TOz.symm).trans hz4;dsimp only;rw [List.forIn_nil];refine wpAny_pure ?_;refine wpAny_bind (wpAny_seqItems hTO5 rfl ?_);refine wpAny_bind (wpAny_newObj_type ?_ (by simp [sizeOk,sizeLine_eq]));have es:H5.objs.size=s.heap.objs.size:=by rw [e5.1,e4.1,e3.1,e2.1,e1.1]
 have g6:IsPair (H5.push { cls:=.type "tuple",data:=.seq #[x,y] }) H5.objs.size x y:=Heap.get?_push_size _ rfl;have k6:∀ a o,H5.get? a=some o->(H5.push { cls:=.type "tuple",data:=.seq #[x,y] }).get? a=some o:=fun a o e=>Heap.get?_push_of_some _ e;have s6:(H5.push { cls:=.type "tuple",data:=.seq #[x,y] }).objs.size=s.heap.objs.size+1:=by rw [Heap.size_push,es]
 have hz6:=k6 _ _ hz5;refine wpAny_bind ?_;unfold Builtin.SmallTypes.ownedTupleHandOut;refine wpAny_bind (wpAny_setField hz6 rfl (by simp) ?_);have hz7:=sX (x:=rawInt H5.objs.size) hz6;refine wpAny_setField hz7 rfl (by simp) ?_;have hz8:=aQ8 hz7;have e7:=Heap.SameBut.update (H5.push { cls:=.type "tuple",data:=.seq #[x,y] }) z (Obj.mapFields fun a=>a.setIfInBounds 0 (rawInt H5.objs.size));have e8:=Heap.SameBut.update ((H5.push { cls:=.type "tuple",data:=.seq #[x,y] }).update z (Obj.mapFields fun a=>a.setIfInBounds 0 (rawInt H5.objs.size))) z (Obj.mapFields fun a=>a.setIfInBounds 1 (.bool false));have kk:∀ a o,a≠z->H5.get? a=some o->(((H5.push { cls:=.type "tuple",data:=.seq #[x,y] }).update z (Obj.mapFields fun a=>a.setIfInBounds 0 (rawInt H5.objs.size))).update z (Obj.mapFields fun a=>a.setIfInBounds 1 (.bool false))).get? a=some o :=
  fun a o n e=>(e8.2 a n).trans ((e7.2 a n).trans (k6 a o e))
 have nsz:H5.objs.size≠z:=fun e=>by
  have:=Heap.lt_size hz5;rw [<- e] at this;exact Nat.lt_irrefl _ this
 have g8:=(e8.2 _ nsz).trans ((e7.2 _ nsz).trans g6);have hs8:=e8.1.trans (e7.1.trans s6);have h15:ItAt b H5 i1 l1 (k+1):=h12.keep fun o e=>(e5.2 _ D.TOi1.symm).trans ((e4.2 _ D.i12).trans ((e3.2 _ D.TOi1.symm).trans e));have h25:ItAt c H5 i2 l2 (k+1):=h24.keep fun o e=>(e5.2 _ D.TOi2.symm).trans e;have q:=hQ _ (by rw [es] at hz8;rw [es];exact hz8) (kk _ _ D.TOz hTO5) (h15.keep fun o e=>kk _ _ D.i1z e) (h25.keep fun o e=>kk _ _ D.i2z e) (by rw [<- es];exact g8) hs8
  (fun a o n1 n2 n3 n4 e=>kk _ _ n1 ((e5.2 _ n2).trans ((e4.2 _ n4).trans ((e3.2 _ n2).trans ((e2.2 _ n3).trans ((e1.2 _ n1).trans e))))))
 refine wpAny_pure ⟨_,rfl,?_⟩;rw [<- es] at q;exact q
def aQ9 {b c:Bool} {z TI TO i1 i2 l1 l2:Addr} {k:Nat} {xs ys:Array Value} {u v:Value} {Q:Fin->Shared->Prop} (hh:A.handled=none) (D:ZApart z TI TO i1 i2) (hz:IsZip s.heap z TI TO .none) (hTI:IsPair s.heap TI (.ref i1) (.ref i2)) (hTO:IsPair s.heap TO u v)
  (h1:ItAt b s.heap i1 l1 k) (h2:ItAt c s.heap i2 l2 k) (q1:SqAt b s.heap l1 xs) (q2:SqAt c s.heap l2 ys) (nz1:l1≠z) (nz2:l2≠z) (nT2:l2≠TO) (n21:l2≠i1) (hn:xs[k]?=none\/ys[k]?=none)
  (hE:∀ h' e,(∀ a o,a≠z->a≠TO->a≠i1->a≠i2->s.heap.get? a=some o->h'.get? a=some o)->(∃ o,h'.get? e=some o/\o.cls=.type "StopIteration")->E (.ref e) { s with heap:=h' }) :
  wpAny (model prog w) A (Builtin.«zip.__next__» { pos:=[.ref z] }) Q E s:=by
 unfold Builtin.«zip.__next__»;refine wpAny_bind (wpAny_pure (a:=(Value.ref z,[])) ?_);refine wpAny_bind (wpAny_field hz rfl rfl ?_);refine wpAny_bind (wpAny_field hz rfl rfl ?_);refine wpAny_bind (wpAny_seqItems hTI rfl ?_);dsimp only;rw [if_neg (by simp)];refine wpAny_bind ?_;unfold Builtin.SmallTypes.ownedTupleIsFree;refine wpAny_bind (wpAny_field hz rfl rfl ?_);refine wpAny_pure ?_;rw [if_pos rfl];refine wpAny_bind (wpAny_rule ?_);refine wpAny_bind (wpAny_field hz rfl rfl ?_);refine wpAny_bind (wpAny_setField hz rfl (by simp) ?_);have e1:=Heap.SameBut.update s.heap z (Obj.mapFields fun a=>a.setIfInBounds 0 Value.ellipsis);have hz1:=sX (x:=Value.ellipsis) hz;generalize s.heap.update z (Obj.mapFields fun a=>a.setIfInBounds 0 Value.ellipsis)=H1 at e1 hz1 ⊢;have h11:ItAt b H1 i1 l1 k:=h1.keep fun o e=>(e1.2 _ D.i1z).trans e;have q11:SqAt b H1 l1 xs:=q1.keep fun o e=>(e1.2 _ nz1).trans e;have hTO1:IsPair H1 TO u v:=(e1.2 _ D.TOz).trans hTO;have ends:∀ (H4 H5:Heap) (e:Addr),IsZip H5 z TI TO .ellipsis->(∀ a o,a≠z->a≠TO->a≠i1->a≠i2->s.heap.get? a=some o->H5.get? a=some o)->(∃ o,H5.get? e=some o/\o.cls=.type "StopIteration") ->
   wpAny (model prog w) A (setField (.ref z) 0 .none) (fun _ s''=>E (.ref e) s'') E { s with heap:=H5 }:=fun H4 H5 e hz5 kk ⟨o,ho,hc⟩=>by
  refine wpAny_setField hz5 rfl (by simp) ?_;have e6:=Heap.SameBut.update H5 z (Obj.mapFields fun a=>a.setIfInBounds 0 Value.none);refine hE _ e (fun a o n1 n2 n3 n4 g=>(e6.2 _ n1).trans (kk a o n1 n2 n3 n4 g)) ⟨o,(e6.2 _ fun z'=>?_).trans ho,hc⟩;rw [z'] at ho;have hz5:H5.get? z=_:=hz5;rw [ho] at hz5;cases hz5;simp at hc
 refine wpAny_bind ?_;rw [show [Value.ref i1,Value.ref i2].zipIdx=[(Value.ref i1,0),(Value.ref i2,1)] from rfl,List.forIn_cons];refine wpAny_bind (wpAny_bind (wpAny_onRaise ?_))
 change wpAny _ _ (Builtin.SmallTypes.nextOf (Value.ref i1) >>= fun v=>pure (some v)) _ _ _
 by_cases hx:xs[k]?=none
 ·refine wpAny_bind (nZ hh h11 q11 hx fun H2 e g2 he=>ends H2 H2 e ?_ (fun a o n1 n2 n3 n4 g=>?_) he)
  ·exact g2 _ _ D.i1z.symm hz1
  ·exact g2 _ _ n3 ((e1.2 _ n1).trans g)
 obtain ⟨x,hx⟩:=Option.ne_none_iff_exists'.mp hx;have hy:ys[k]?=none:=hn.resolve_left (by rw [hx];simp);refine wpAny_bind (iH h11 q11 hx fun H2 h12 e2=>wpAny_pure ?_);have hz2:IsZip H2 z TI TO .ellipsis:=(e2.2 _ D.i1z.symm).trans hz1;have hTO2:IsPair H2 TO u v:=(e2.2 _ D.TOi1).trans hTO1;refine wpAny_bind (wpAny_seqItems hTO2 rfl (wpAny_bind (wpAny_updateSeq_pair hTO2 fun H3 hTO3 e3=>wpAny_bind (wpAny_letGo (wpAny_pure ?_)))));have hz3:IsZip H3 z TI TO .ellipsis:=(e3.2 _ D.TOz.symm).trans hz2;have h23:ItAt c H3 i2 l2 k:=h2.keep fun o e=>(e3.2 _ D.TOi2.symm).trans ((e2.2 _ D.i12.symm).trans ((e1.2 _ D.i2z).trans e));have q23:SqAt c H3 l2 ys:=q2.keep fun o e=>(e3.2 _ nT2).trans ((e2.2 _ n21).trans ((e1.2 _ nz2).trans e));dsimp only;rw [List.forIn_cons];refine wpAny_bind (wpAny_bind (wpAny_onRaise ?_))
 change wpAny _ _ (Builtin.SmallTypes.nextOf (Value.ref i2) >>= fun v=>pure (some v)) _ _ _
 refine wpAny_bind (nZ hh h23 q23 hy fun H4 e g4 he=>ends H4 H4 e ?_ (fun a o n1 n2 n3 n4 g=>?_) he)
 ·exact g4 _ _ D.i2z.symm hz3
 ·exact g4 _ _ n4 ((e3.2 _ n2).trans ((e2.2 _ n3).trans ((e1.2 _ n1).trans g)))
end
end PySem
namespace L2
open PySem PySem.Spec PyProof.Rows
section
variable {X:Cx} {pins:List (Addr×Obj)} {σ:List (Option V)} {H:Hp} {s:Shared} {h':Heap}
def Inv.turnedL {t':Nat} {ch:List Addr} (I:Inv X pins σ H s) (k:∀ b o,b∉ch->s.heap.get? b=some o->h'.get? b=some o) (hf:∀ b∈ch,jM X pins H b):Inv X pins σ H { s with heap:=h',toks:=t' }:=by
 have nit:∀ b u,H b=some u->b∉ch:=fun b u e z=>by rw [(hf b z).1] at e;cases e
 have hL:X.env.locals∉ch:=fun z=>(hf _ z).2.1 rfl;refine I.step (g':=s.gens) (d':=s.drawn) (ch:=ch) (fun b hb=>?_) (fun b o _ _ hc e _=>k b o hc e) (fun b o _ _ hc e _=>⟨o.slots,k b o hc e⟩) (fun _ _ _ _ n=>n)
  (fun b o hc e=>⟨o,k b o hc e⟩) (fun _ _ e=>e) (fun _ _ _ e=>e) (fun b ps e=>⟨#[],by rw [e];simp⟩) (fun m hm=>?_) (fun b u e=>?_) I.bare
 ·obtain ⟨_,f1,_,f3,f4,f5⟩:=hf b hb;exact ⟨f3,f1,f4,f5⟩
 ·obtain ⟨o,es,ep,ho,r⟩:=hm;exact ⟨o,es,ep,k _ o hL ho,r⟩
 ·refine (I.hok b u e).stay (fun c v hc q=>k c v ?_ q) (fun _ q=>q) fun _ _ q=>q;rcases hc with z | z
  ·rw [z];exact nit b u e
  ·exact nit c _ z
noncomputable def SqB (K:Frag):Bool->Hp->Addr->List V->Prop
 | true,H,a,xs=>SqT K H a xs
 | false,H,a,xs=>SqL K H a xs
def bT8 {a c:Addr} {u:HO} (h:Rd H a u) (f:H c=none):a≠c:=fun e=>by
 subst e;rcases h with h | ⟨o,h⟩<;>· rw [f] at h;cases h
def cV5 {a c:Addr} {o:Obj} (I:Inv X pins σ H s) (h:X.K.lookup a=some o) (f:jM X pins H c):a≠c:=fun e=>by
 subst e;have b:=I.ok.mod.kin a o h;rcases f.2.2.2.1 with z | z
 ·exact I.ok.noex _ _ b z
 ·exact absurd (Nat.lt_of_lt_of_le (Heap.lt_size (I.ok.bs _ _ b).1) z) (Nat.lt_irrefl _)
def Inv.sq_ne {b:Bool} {a c:Addr} {xs:List V} (I:Inv X pins σ H s) (h:SqB X.K b H a xs) (f:jM X pins H c):a≠c:=by
 cases b
 ·rcases h with h | ⟨o,its,n,hk,_⟩
  ·exact bT8 h f.1
  ·exact cV5 I hk f
 ·rcases h with h | ⟨o,its,n,hk,_⟩
  ·exact bT8 h f.1
  ·exact cV5 I hk f
def Inv.sqB {b:Bool} {a:Addr} {xs:List V} (I:Inv X pins σ H s) (h:SqB X.K b H a xs):∃ its:List Value,Vals xs its/\SqAt b s.heap a its.toArray/\xs.length<=sizeLine:=by
 cases b
 ·obtain ⟨its,rv,p,hz⟩:=I.list h;exact ⟨its,rv,p.isList,hz⟩
 ·obtain ⟨its,rv,p,hz⟩:=I.tuple h;exact ⟨its,rv,p,hz⟩
def Inv.sqB_inj {b:Bool} {a:Addr} {xs ys:List V} (I:Inv X pins σ H s) (h:SqB X.K b H a xs) (h':SqB X.K b H a ys):xs=ys:=by
 cases b
 ·exact I.list_inj h h'
 ·exact I.tuple_inj h h'
def Itz (K:Frag) (b c:Bool) (l1 l2:Addr):It :=
 ⟨fun i H=>∃ xs ys x y,SqB K b H l1 xs/\SqB K c H l2 ys/\xs[i]?=some x/\ys[i]?=some y,
  fun i H v H'=>∃ p x y,v=.ref p/\H p=none/\H'=upd H p (.tup [x,y])/\(∀ xs,SqB K b H l1 xs->xs[i]?=some x)/\(∀ ys,SqB K c H l2 ys->ys[i]?=some y),
  fun i H=>∃ xs ys,SqB K b H l1 xs/\SqB K c H l2 ys/\(xs.length<=i\/ys.length<=i)⟩
end
def ZSt (b c:Bool) (z TI TO i1 i2 l1 l2:Addr) (i:Nat) (h:Heap):Prop :=
 IsZip h z TI TO .none/\IsPair h TI (.ref i1) (.ref i2)/\(∃ u v,IsPair h TO u v)/\ItAt b h i1 l1 i/\ItAt c h i2 l2 i
def aR0 {P:Program} {w:World} {K:Frag} {elts:List Expr} {n:Nat} {pos:Pos} (b c:Bool) (z TI TO i1 i2 l1 l2:Addr) (D:ZApart z TI TO i1 i2) :
  Turn P w K (.Tuple elts n pos) (Itz K b c l1 l2) [z,TI,TO,i1,i2] z (ZSt b c z TI TO i1 i2 l1 l2) where
 mem:=by simp
 obj:=fun i h st a ha=>by
  obtain ⟨s1,s2,⟨u,v,s3⟩,s4,s5⟩:=st;have it:∀ {b:Bool} {i1 l1:Addr},ItAt b h i1 l1 i->∃ o,h.get? i1=some o/\∀ v,o.data≠.cell v:=fun {b i1 l1} q=>by
   cases b<;>· obtain ⟨o,e,_,d⟩:=q;exact ⟨o,e,fun v z=>by rw [d] at z;cases z⟩
  simp only [List.mem_cons,List.not_mem_nil,or_false] at ha;rcases ha with rfl | rfl | rfl | rfl | rfl
  ·exact ⟨_,s1,fun v z=>by cases z⟩
  ·exact ⟨_,s2,fun v z=>by cases z⟩
  ·exact ⟨_,s3,fun v z=>by cases z⟩
  ·exact it s4
  ·exact it s5
 keep:=fun i h h' st k=>by
  obtain ⟨s1,s2,⟨u,v,s3⟩,s4,s5⟩:=st;exact ⟨k z (by simp) _ s1,k TI (by simp) _ s2,⟨u,v,k TO (by simp) _ s3⟩,s4.keep fun o e=>k i1 (by simp) o e,s5.keep fun o e=>k i2 (by simp) o e⟩
 item:=by
  intro X hP hw hK hc i pins s σ H E I hf st hg;subst hP hw hK;obtain ⟨xs,ys,x,y,hq1,hq2,hx,hy⟩:=hg;obtain ⟨s1,s2,⟨u,v,s3⟩,s4,s5⟩:=st;obtain ⟨its1,rv1,p1,hz1⟩:=I.sqB hq1;obtain ⟨its2,rv2,p2,hz2⟩:=I.sqB hq2;obtain ⟨u1,hu1,ru1⟩:=rv1.get hx;obtain ⟨u2,hu2,ru2⟩:=rv2.get hy;have hT:s.TypeIs (.ref z) "zip":=⟨_,s1,rfl⟩;have fz:=hf z (by simp);have fTO:=hf TO (by simp);have fi1:=hf i1 (by simp);refine wpAny_bind (wpAny_attempt (wpAny_callSpecial?_slot hT F.slot_zip_next (wpAny_call_entry F.slot_zip_next hT F.entry_zip_next
   (aG2 D s1 s2 s3 s4 s5 p1 p2 (I.sq_ne hq1 fz) (I.sq_ne hq2 fz) (I.sq_ne hq2 fTO) (I.sq_ne hq2 fi1) (x:=u1) (y:=u2) (by simpa using hu1) (by simpa using hu2)
    fun h' a1 a2 a3 a4 a5 a6 a7=>wpAny_pure ?_) (F.args_zip_next_1 _))))
  refine ⟨_,rfl,wpAny_letOwnedTupleGo_zip (s:={ s with heap:=h' }) a1 fun h'' b1 b2=>?_⟩;have nz:∀ {a o},s.heap.get? a=some o->a≠s.heap.objs.size:=fun e z=>by
   have:=Heap.lt_size e;rw [z] at this;exact Nat.lt_irrefl _ this
  have I1:Inv X pins σ (upd H s.heap.objs.size (.tup [x,y])) { s with heap:=s.heap.push { cls:=.type "tuple",data:=.seq #[u1,u2] } } :=
   I.laid (t':=s.toks) (fun b o e=>Heap.get?_push_of_some _ e) (Nat.le_refl _) (show ObjOk X.prog X.w _ _ _ (.tup [x,y]) from ⟨by simp [sizeLine_eq],[u1,u2],.cons ru1 (.cons ru2 .nil),IsTupD.new _ _⟩)
  have obj:∀ a∈[z,TI,TO,i1,i2],∃ o,s.heap.get? a=some o:=fun a ha=>by
   have it:∀ {b:Bool} {i1 l1:Addr},ItAt b s.heap i1 l1 i->∃ o,s.heap.get? i1=some o:=fun {b i1 l1} q=>by
    cases b<;>· obtain ⟨o,e,_,d⟩:=q;exact ⟨o,e⟩
   simp only [List.mem_cons,List.not_mem_nil,or_false] at ha;rcases ha with rfl | rfl | rfl | rfl | rfl
   ·exact ⟨_,s1⟩
   ·exact ⟨_,s2⟩
   ·exact ⟨_,s3⟩
   ·exact it s4
   ·exact it s5
  have un:∀ a∈[z,TI,TO,i1,i2],upd H s.heap.objs.size (.tup [x,y]) a=none:=fun a ha=>by
   obtain ⟨o,e⟩:=obj a ha;rw [aR (nz e)];exact (hf a ha).1
  have hf1:∀ a∈[z,TI,TO,i1,i2],jM X pins (upd H s.heap.objs.size (.tup [x,y])) a:=fun a ha=>⟨un a ha,(hf a ha).2⟩;have zs:s.heap.objs.size≠z:=fun e=>nz s1 e.symm;have I2:Inv X pins σ (upd H s.heap.objs.size (.tup [x,y])) { s with heap:=h'' }:=Inv.turnedL (s:={ s with heap:=s.heap.push { cls:=.type "tuple",data:=.seq #[u1,u2] } }) I1 (t':=s.toks) (ch:=[z,TI,TO,i1,i2]) (fun a o ha e=>by
   simp only [List.mem_cons,List.not_mem_nil,or_false,not_or] at ha;obtain ⟨n1,n2,n3,n4,n5⟩:=ha;refine (b2.2 a n1).trans ?_
   by_cases hs:a=s.heap.objs.size
   ·subst hs;have e':(s.heap.push { cls:=.type "tuple",data:=.seq #[u1,u2] }).get? s.heap.objs.size=some o:=e;rw [Heap.get?_push_size _ rfl] at e';cases e';exact a5
   ·have e':(s.heap.push { cls:=.type "tuple",data:=.seq #[u1,u2] }).get? a=some o:=e;rw [Heap.get?_push_ne _ _ _ hs] at e';exact a7 a o n1 n3 n4 n5 e') hf1
  refine ⟨.ref s.heap.objs.size,_,I2,rfl,⟨_,x,y,rfl,I.hok.fresh (Nat.le_refl _),rfl,fun zs hz=>?_,fun zs hz=>?_⟩,⟨b1,?_,⟨u1,u2,?_⟩,?_,?_⟩,un⟩
  ·rw [I.sqB_inj hz hq1];exact hx
  ·rw [I.sqB_inj hz hq2];exact hy
  ·exact (b2.2 _ D.TIz).trans (a7 _ _ D.TIz D.TITO D.TIi1 D.TIi2 s2)
  ·exact (b2.2 _ D.TOz).trans a2
  ·exact a3.keep fun o e=>(b2.2 _ D.i1z).trans e
  ·exact a4.keep fun o e=>(b2.2 _ D.i2z).trans e
 done:=by
  intro X hP hw hK hc i pins s σ H E I hf st hg;subst hP hw hK;obtain ⟨xs,ys,hq1,hq2,hl⟩:=hg;obtain ⟨s1,s2,⟨u,v,s3⟩,s4,s5⟩:=st;obtain ⟨its1,rv1,p1,hz1⟩:=I.sqB hq1;obtain ⟨its2,rv2,p2,hz2⟩:=I.sqB hq2;have l1:=rv1.length;have l2:=rv2.length;have hT:s.TypeIs (.ref z) "zip":=⟨_,s1,rfl⟩;have fz:=hf z (by simp);have fTO:=hf TO (by simp);have fi1:=hf i1 (by simp);refine wpAny_bind (wpAny_attempt (wpAny_callSpecial?_slot hT F.slot_zip_next (wpAny_call_entry F.slot_zip_next hT F.entry_zip_next
   (aQ9 (I.ok.hd hc) D s1 s2 s3 s4 s5 p1 p2 (I.sq_ne hq1 fz) (I.sq_ne hq2 fz) (I.sq_ne hq2 fTO) (I.sq_ne hq2 fi1) (by simp;omega)
    fun h' e kk ⟨o,ho,hc⟩=>wpAny_bind (wpAny_isInstance ⟨o,ho,hc⟩ isSubtype_stop (wpAny_pure ⟨rfl,?_⟩))) (F.args_zip_next_1 _))))
  exact I.turnedL (t':=s.toks) (ch:=[z,TI,TO,i1,i2]) (fun a o ha e=>by
   simp only [List.mem_cons,List.not_mem_nil,or_false,not_or] at ha;exact kk a o ha.1 ha.2.2.1 ha.2.2.2.1 ha.2.2.2.2 e) hf
 self:=fun _ _ _ _ _ st h=>wpAny_pyIter_zip st.1 h
section
variable {X:Cx} {elts:List Expr} {n:Nat} {tpos:Pos}
def dP9 (K:Frag) (ta:TA):TI:=fun σ H R=>ta σ H fun vs H1=>∃ p q b c xs ys,vs=[.ref p,.ref q]/\SqB K b H1 p xs/\SqB K c H1 q ys/\(xs.length<=sizeLine->R (Itz K b c p q) H1)
def cG2 {a b:Expr} {ta:TA} {p pos:Pos} (hg:Gl X "zip") (hm:X.mg "zip"=none) (ha:PA X [a,b] ta) (hs:autoParam (starEach [a,b] X.env=[(false,eval a X.env),(false,eval b X.env)]) ZR) (hs2:autoParam (starEach [b] X.env=[(false,eval b X.env)]) ZR) :
  PI X (.Tuple elts n tpos) (.Call (.Name "zip" p) [a,b] [] pos) (dP9 X.K ta):=by
 intro pins s σ H R I h;refine Call_ (fU I hg hm rfl (PyProof.Rows.callWith_type1 (thn (ha pos pins s σ H _ I h) fun us s1 ⟨vs,H1,I1,r1,q1⟩=>?_) (by rw [hs,hs2]) (by rw [hs2];rfl)));obtain ⟨l1,l2,b,c,xs,ys,e,hq1,hq2,q⟩:=q1;subst e;cases r1 with
 | cons r rr =>
  cases rr with
  | cons r' rr =>
   cases rr;cases r;cases r';obtain ⟨its1,rv1,p1,hz1⟩:=I1.sqB hq1;obtain ⟨its2,rv2,p2,hz2⟩:=I1.sqB hq2;refine aQ7 p1 p2 fun h' a1 a2 a3 a4 a5 a6 a7=>?_;have hN:∀ k,s1.heap.objs.size<=s1.heap.objs.size+k:=fun k=>Nat.le_add_right _ _;have D:ZApart (s1.heap.objs.size+4) (s1.heap.objs.size+2) (s1.heap.objs.size+3) s1.heap.objs.size (s1.heap.objs.size+1):=by
    constructor<;>(intro e;exact absurd e (by simp [Addr]<;>omega))
   have I2:Inv X pins σ H1 { s1 with heap:=h' }:=I1.kept (t':=s1.toks) a7;refine wpAny_pyIter_zip a1 ⟨_,_,_,_,H1,rfl,I2,aR0 b c _ _ _ _ _ l1 l2 D,⟨a1,a2,⟨_,_,a3⟩,a4,a5⟩,fun x hx=>?_,q hz1⟩;have hx':s1.heap.objs.size<=x:=by
    simp only [List.mem_cons,List.not_mem_nil,or_false] at hx;rcases hx with rfl | rfl | rfl | rfl | rfl<;>simp
   obtain ⟨f0,f1,f2,f3,f4,f5⟩:=I1.fpOk (H':=H1) hx' (I1.hok.fresh hx');exact ⟨f0,f1,f2,f3,f4,f5⟩
end
end L2
namespace DL
open PySem PySem.Spec PyProof.Rows L2
section
variable {X:Cx} {elts:List Expr} {n:Nat} {tpos:Pos}
noncomputable def mE:W->Option (List PyData)
 | .d (.list xs)=>some xs
 | .d (.tuple xs)=>some xs
 | _=>none
noncomputable def oA (xs ys:List PyData):List PyData:=List.zipWith (fun x y=>.tuple [x,y]) xs ys
def dQ0 (t:DTA):DTI:=fun δ h Q=>t δ h fun ws h1=>∃ u w xs ys,ws=[u,w]/\mE u=some xs/\mE w=some ys/\Q (oA xs ys) none h1
noncomputable def cG3:W->Bool
 | .d (.tuple _)=>true
 | _=>false
def mW {K:Frag} {A μ:List Addr} {H:Hp} {u:W} {v:V} {xs:List PyData} (e:mE u=some xs) (r:RepW K A μ H u v):∃ p vs,v=.ref p/\SqB K (cG3 u) H p vs/\Reps K A H xs vs:=by
 unfold mE at e;split at e
 ·cases e;have z:Rep K A H (.list xs) v:=r;rw [Rep] at z;obtain ⟨p,vs,rfl,la,rr⟩:=z;exact ⟨p,vs,rfl,la.sq,rr⟩
 ·cases e;obtain ⟨p,vs,rfl,ta,rr⟩:=bE (h:=[]) r rfl;exact ⟨p,vs,rfl,ta.sq,rr⟩
 ·cases e
def cG4 {K:Frag} {A μ:List Addr} {H:Hp} {h:aA} {u w:W} {p q:Addr} {xs ys:List PyData} (R:HeapRep K A μ h H) (e1:mE u=some xs) (e2:mE w=some ys) (r1:RepW K A μ H u (.ref p)) (r2:RepW K A μ H w (.ref q)) :
  cC8 K A μ H (Itz K (cG3 u) (cG3 w) p q) (oA xs ys) none:=fun A' μ' H' h' y R' _=>by
 obtain ⟨p',vs,ep,sq1,rr1⟩:=mW e1 (r1.ext y R.sub);obtain ⟨q',ws,eq,sq2,rr2⟩:=mW e2 (r2.ext y R.sub);cases ep;cases eq;have l1:=rr1.length;have l2:=rr2.length;refine ⟨fun i z ez=>?_,fun i hi=>⟨vs,ws,sq1,sq2,?_⟩⟩
 ·unfold oA at ez;rw [List.getElem?_zipWith] at ez;have:∃ x y,xs[i]?=some x/\ys[i]?=some y/\z=.tuple [x,y]:=by
   cases h1:xs[i]?<;>cases h2:ys[i]?<;>rw [h1,h2] at ez<;>cases ez;exact ⟨_,_,rfl,rfl,rfl⟩
  obtain ⟨x,y,ex,ey,rfl⟩:=this;obtain ⟨vx,hvx,rx⟩:=rr1.get ex;obtain ⟨vy,hvy,ry⟩:=rr2.get ey;refine ⟨⟨vs,ws,vx,vy,sq1,sq2,hvx,hvy⟩,fun v H2 hy=>?_⟩;obtain ⟨a,x',y',rfl,ha,rfl,g1,g2⟩:=hy;have c1:=g1 vs sq1;have c2:=g2 ws sq2;rw [hvx] at c1;rw [hvy] at c2;cases c1;cases c2;refine ⟨bR ha,R'.fresh ha,fD R' ha ?_⟩;rw [Reps];exact ⟨_,_,rfl,rx,.one ry⟩
 ·unfold oA at hi;rw [List.length_zipWith] at hi;omega
def cG5 {a b:Expr} {t:DTA} {p pos:Pos} (hm:X.mg "zip"=none) (ha:DA X [a,b] t) (hg:Gl X "zip") (hs:starEach [a,b] X.env=[(false,eval a X.env),(false,eval b X.env)]) (hs2:starEach [b] X.env=[(false,eval b X.env)]) :
  DI X (.Tuple elts n tpos) (.Call (.Name "zip" p) [a,b] [] pos) (dQ0 t) :=
 jT (cG2 hg hm ha hs hs2) fun σ H R q=>by
  obtain ⟨δ,h,A,μ,k,Rr,q,c⟩:=q;refine ⟨δ,h,A,μ,_,Rr,q,fun ws h1 vs H1 A1 μ1 q1 x1 R1 r1=>?_⟩;obtain ⟨u,w,xs,ys,rfl,e1,e2,q1⟩:=q1;obtain ⟨v,r,rfl,rv,r2⟩:=r1;obtain ⟨v',rfl,rv'⟩:=dY r2;obtain ⟨p,vs,rfl,sq1,rr1⟩:=mW e1 rv;obtain ⟨q,ws,rfl,sq2,rr2⟩:=mW e2 rv';refine ⟨p,q,_,_,vs,ws,rfl,sq1,sq2,fun hz=>c _ _ h1 _ H1 A1 μ1 q1 x1 R1 ?_ trivial (cG4 R1 e1 e2 rv rv')⟩;unfold oA;rw [List.length_zipWith];have l1:=rr1.length;omega
end
end DL
namespace ST
open PySem PySem.Spec PyProof.Rows
def Ris (xs:Array Nat):Prop:=xs.toList.Pairwise (· < ·)
def Ris.lt {xs:Array Nat} (h:Ris xs) {i k:Nat} {a b:Nat} (hik:i < k) (ha:xs[i]?=some a) (hb:xs[k]?=some b):a < b:=by
 unfold Ris at h;rw [List.pairwise_iff_getElem] at h;rw [Array.getElem?_eq_some_iff] at ha hb;obtain ⟨h1,rfl⟩:=ha;obtain ⟨h2,rfl⟩:=hb;exact h i k (by simpa using h1) (by simpa using h2) hik
theorem sY {xs:Array Nat} {j:Nat} (hx:Ris xs):∀ (fuel lo hi:Nat),hi - lo<=fuel->lo<=hi->hi<=xs.size->(∀ i a,i < lo->xs[i]?=some a->a < j)->(∀ i a,hi<=i->xs[i]?=some a->j<=a) ->
  (∀ i a,i < SetTable.below.go xs j fuel lo hi->xs[i]?=some a->a < j)/\(∀ i a,SetTable.below.go xs j fuel lo hi<=i->xs[i]?=some a->j<=a)/\SetTable.below.go xs j fuel lo hi<=xs.size
 | 0,lo,hi,h1,h2,h3,h4,h5=>by
  have:lo=hi:=by omega
  subst this;exact ⟨h4,h5,h3⟩
 | fuel+1,lo,hi,h1,h2,h3,h4,h5=>by
  unfold SetTable.below.go;split
  ·rename_i hlt;have hm:(lo+hi) / 2 < xs.size:=by omega
   have em:xs[(lo+hi) / 2]?=some xs[(lo+hi) / 2]:=Array.getElem?_eq_getElem hm;have eg:xs.getD ((lo+hi) / 2) j=xs[(lo+hi) / 2]:=by simp [Array.getD,hm]
   dsimp only;rw [eg];split
   ·rename_i hj;refine sY hx fuel _ _ (by omega) (by omega) h3 (fun i a hi' ha=>?_) h5
    by_cases e:i=(lo+hi) / 2
    ·subst e;rw [em] at ha;cases ha;exact hj
    ·exact Nat.lt_trans (hx.lt (by omega) ha em) hj
   ·rename_i hj;refine sY hx fuel _ _ (by omega) (by omega) (by omega) h4 (fun i a hi' ha=>?_)
    by_cases e:i=(lo+hi) / 2
    ·subst e;rw [em] at ha;cases ha;omega
    ·have:=hx.lt (show (lo+hi) / 2 < i by omega) em ha;omega
  ·have:lo=hi:=by omega
   subst this;exact ⟨h4,h5,h3⟩
def xL {xs:Array Nat} (hx:Ris xs) (j:Nat):(∀ i a,i < SetTable.below xs j->xs[i]?=some a->a < j)/\(∀ i a,SetTable.below xs j<=i->xs[i]?=some a->j<=a)/\SetTable.below xs j<=xs.size :=
 sY hx xs.size 0 xs.size (by omega) (by omega) (Nat.le_refl _) (fun i a h=>by omega) (fun i a h e=>by
  rw [Array.getElem?_eq_none (by omega)] at e;cases e)
def xM {xs:Array Nat} (hx:Ris xs) {j:Nat} (hj:xs[SetTable.below xs j]?≠some j):Ris (SetTable.insertAt xs (SetTable.below xs j) j):=by
 obtain ⟨h1,h2,h3⟩:=xL hx j;have e:(SetTable.insertAt xs (SetTable.below xs j) j).toList=xs.toList.take (SetTable.below xs j)++j::xs.toList.drop (SetTable.below xs j):=by
  simp [SetTable.insertAt,Array.toList_extract,List.extract_eq_take_drop,List.take_of_length_le]
 unfold Ris at hx ⊢;rw [e,List.pairwise_append,List.pairwise_cons];have mt:∀ a∈xs.toList.take (SetTable.below xs j),a < j:=fun a ha=>by
  obtain ⟨i,hi,ea⟩:=List.mem_iff_getElem.mp ha;rw [List.getElem_take] at ea;rw [List.length_take] at hi;refine h1 i a (by omega) ?_;rw [<- ea];exact Array.getElem?_eq_getElem (by simp at hi;omega)
 have md:∀ b∈xs.toList.drop (SetTable.below xs j),j < b:=fun b hb=>by
  obtain ⟨i,hi,eb⟩:=List.mem_iff_getElem.mp hb;rw [List.getElem_drop] at eb;rw [List.length_drop] at hi;have hlt:SetTable.below xs j+i < xs.size:=by simp at hi;omega
  have eg:xs[SetTable.below xs j+i]?=some b:=by rw [<- eb];exact Array.getElem?_eq_getElem hlt
  have q:=h2 _ b (by omega) eg;rcases Nat.lt_or_eq_of_le q with q | q
  ·exact q
  ·subst q;cases i with
   | zero=>exact absurd eg hj
   | succ i =>
    have e0:xs[SetTable.below xs j]?=some xs[SetTable.below xs j]:=Array.getElem?_eq_getElem (by omega);have:=Ris.lt hx (show SetTable.below xs j < SetTable.below xs j+(i+1) by omega) e0 eg;have q0:=h2 _ _ (Nat.le_refl _) e0;omega
 refine ⟨hx.sublist (List.take_sublist _ _),⟨md,hx.sublist (List.drop_sublist _ _)⟩,fun a ha b hb=>?_⟩;rcases List.mem_cons.mp hb with rfl | hb
 ·exact mt a ha
 ·exact Nat.lt_trans (mt a ha) (md b hb)
def aG3 (n:Nat):Ris (Array.range n):=by
 unfold Ris;rw [Array.toList_range];exact List.pairwise_lt_range
def free (t:SetTable) (j:Nat):Prop:=t.place[SetTable.below t.place j]?≠some j
def qV {t:SetTable} {j:Nat} (h:∀ i,t.slot j≠.live i):free t j:=by
 intro e;unfold SetTable.slot at h;dsimp only at h;rw [e] at h;simp at h
theorem jG {t:SetTable} {f:Nat->Int} {h:Int}:∀ (fuel:Nat) (p:SetTable.Probe),(∀ d,p.dummy=some d->free t d)->∀ j d,SetTable.probe.go t f h fuel p=some (.empty j d)->free t j/\∀ d',d=some d'->free t d'
 | 0,p,hp,j,d,e=>by simp [SetTable.probe.go] at e
 | fuel+1,p,hp,j,d,e=>by
  unfold SetTable.probe.go at e;split at e
  ·rename_i es;cases e;exact ⟨qV (fun i z=>by rw [es] at z;cases z),hp⟩
  ·rename_i es;refine jG fuel _ (fun d' ed=>?_) j d e;have:(t.advance { p with dummy:=some p.j }).dummy=some p.j:=by
    unfold SetTable.advance;split<;>rfl
   rw [this] at ed;cases ed;exact qV fun i z=>by rw [es] at z;cases z
  ·split at e
   ·cases e
   ·refine jG fuel _ (fun d' ed=>hp d' ?_) j d e;have:(t.advance p).dummy=p.dummy:=by
     unfold SetTable.advance;split<;>rfl
    rw [<- this];exact ed
def pO {t:SetTable} {h:Int} {j:Nat} {b:Bool} (e:t.freeSlot h=some (j,b)):free t j:=by
 unfold SetTable.freeSlot at e;split at e
 ·rename_i j' d ep;cases e;obtain ⟨f1,f2⟩:=jG _ _ (fun d ed=>by simp [SetTable.probeStart] at ed) _ _ ep;cases d with
  | none=>exact f1
  | some d=>exact f2 d rfl
 ·cases e
def bA (by_:Bool) (t:SetTable):Prop:=Ris t.place/\(by_=false->t.led=true)
def fA {by_:Bool} {t:SetTable} (h:bA by_ t) (n:Nat):bA by_ (t.standIn n):=⟨aG3 n,h.2⟩
def vI {by_:Bool} {t:SetTable} {es:Array (Int×Value)} {h:Int} {x:Value} (g:bA by_ t):bA by_ (layNew t es h x).2.1:=by
 unfold layNew;split
 ·rename_i slot wd e;dsimp only;have gp:bA by_ (t.put slot).1:=⟨xM g.1 (pO e),g.2⟩;unfold SetTable.orStandIn;split
  ·exact gp
  ·exact fA gp _
 ·exact fA g _
def aR1 {owner:Array (Option Nat)} (n:Nat):(((List.range n).filterMap fun j=>(owner.getD j none).map (j,·)).map (·.1)).Pairwise (· < ·):=by
 rw [List.pairwise_map];refine List.Pairwise.filterMap (R:=(· < ·)) _ (fun a a' hlt b hb b' hb'=>?_) (List.pairwise_lt_range (n:=n));obtain ⟨_,_,rfl⟩:=Option.map_eq_some_iff.mp hb;obtain ⟨_,_,rfl⟩:=Option.map_eq_some_iff.mp hb';exact hlt
def xN {by_:Bool} {t:SetTable} {es:Array (Int×Value)} {n:Nat} (g:bA by_ t):bA by_ (relayAll t es n).2.1:=by
 unfold relayAll;split
 ·rename_i t' order e;dsimp only;split
  ·unfold SetTable.relaid SetTable.laid at e;dsimp only at e;obtain ⟨owner,_,e2⟩:=Option.bind_eq_some_iff.mp e;cases e2;refine ⟨?_,g.2⟩;unfold Ris;exact aR1 _
  ·exact fA g _
 ·exact fA g _
noncomputable def aR2:Value->Int
 | .int k _=>k
 | _=>0
section
variable {prog:Program} {w:World} {A:Around} {E:Value->Shared->Prop} {s:Shared}
abbrev txt (w:World):Bool:=w.params.followText "set-order"
structure Parts (prog:Program) (w:World) (o:Obj) (es:Array (Int×Value)) (ep:Nat) (t:SetTable) (ks:List Int):Prop where
 ex:o.ExactSet
 dat:o.data=.set es ep t
 el:ElemsOf (intKind prog w) es.toList
 ks:(es.toList.map fun e=>aR2 e.2).Perm ks
 few:es.size < scanBound
 fit:t.fits es.size=true
 good:bA (txt w) t
def SetI (prog:Program) (w:World) (h:Heap) (a:Addr) (ks:List Int):Prop:=∃ o es ep t,h.get? a=some o/\Parts prog w o es ep t ks
def SetI.keep {h h':Heap} {a:Addr} {ks:List Int} (x:SetI prog w h a ks) (e:∀ o,h.get? a=some o->h'.get? a=some o):SetI prog w h' a ks :=
 let ⟨o,es,ep,t,ho,p⟩:=x;⟨o,es,ep,t,e o ho,p⟩
def xO {k:Int} {v:Value} (h:(intKind prog w).is k v=true):∃ t,v=.int k t:=Value.isInt_shape h
def aR3 {es:List (Int×Value)} (h:ElemsOf (intKind prog w) es) {e:Int×Value} (he:e∈es):∃ t,e.2=.int (aR2 e.2) t:=by
 obtain ⟨⟨k,hk,_⟩,_⟩:=h e he;obtain ⟨t,q⟩:=xO hk;exact ⟨t,by rw [q];rfl⟩
def aG4 {es:List (Int×Value)} (h:ElemsOf (intKind prog w) es) {k:Int} (hf:es.findIdx? (fun e=>(intKind prog w).is k e.2)=none):k∉es.map fun e=>aR2 e.2:=by
 intro z;obtain ⟨e,he,q⟩:=List.mem_map.mp z;obtain ⟨t,e2⟩:=aR3 h he;have:=List.findIdx?_eq_none_iff.mp hf e he;rw [e2,q] at this;rw [intKind_is] at this;cases this
def aG5 {es:List (Int×Value)} {k:Int} {j:Nat} (hf:es.findIdx? (fun e=>(intKind prog w).is k e.2)=some j):k∈es.map fun e=>aR2 e.2:=by
 obtain ⟨hj,hp,_⟩:=List.findIdx?_eq_some_iff_getElem.mp hf;obtain ⟨t,q⟩:=xO hp;exact List.mem_map.mpr ⟨es[j],List.getElem_mem hj,by rw [q];rfl⟩
def lQ {a:Addr} {o:Obj} {es es':Array (Int×Value)} {ep:Nat} {t t':SetTable} {ks':List Int} {h:Heap} (ho:h.get? a=some o) (hd:o.data=.set es ep t) (hx:o.ExactSet)
  (p:Parts prog w { o with data:=.set es' (ep+1) t' } es' (ep+1) t' ks'):(h.update a (Obj.putSet es' t')).get? a=some { o with data:=.set es' (ep+1) t' } :=
 (SetOf_store (knd:=intKind prog w) (S':=fun k=>decide (k∈es'.toList.map fun e=>aR2 e.2)) ho hx hd p.el (fun k=>by
  rw [decide_eq_true_eq,List.mem_map];constructor
  ·rintro ⟨e,he,rfl⟩;obtain ⟨q,e2⟩:=aR3 p.el he;exact ⟨e,he,by rw [e2];exact intKind_is _ _ _ _⟩
  ·rintro ⟨e,he,q⟩;obtain ⟨tk,e2⟩:=xO q;exact ⟨e,he,by rw [e2];rfl⟩) p.few p.fit).1
def zM {g:Bool->Sem Unit} (hg:∀ (b:Bool) (s₁:Shared) (Q':Unit->Shared->Prop),Q' () s₁->wpAny (model prog w) A (g b) Q' E s₁) {a:Addr} {o:Obj} {es es1:Array (Int×Value)} {ep:Nat} {t t2:SetTable} {ks':List Int}
  (ho:s.heap.get? a=some o) (hd:o.data=.set es ep t) (hx:o.ExactSet) (p:Parts prog w { o with data:=.set es1 (ep+1) t2 } es1 (ep+1) t2 ks') {wd:Bool} {R:Option Bool->Shared->Prop}
  (h:∀ h',Heap.SameBut a s.heap h'->SetI prog w h' a ks'->R (some true) { s with heap:=h' }) :
  wpAny (model prog w) A (do
   storeSet a es1 t2
   if (!wd&&t2.tooFull)=true then do
    g (relayAll t2 es1 (SetTable.grown es1.size)).2.2
    storeSet a (relayAll t2 es1 (SetTable.grown es1.size)).1 (relayAll t2 es1 (SetTable.grown es1.size)).2.1
    pure (some true)
   else pure (some true)) R E s:=by
 refine wpAny_bind (wpAny_storeSet_of ho hd ?_ (fits_of_scanBound p.few));have ho1:=lQ ho hd hx p;have sb1:=Heap.SameBut.update s.heap a (Obj.putSet es1 t2);split
 ·have hp:=relayAll_perm t2 es1 (SetTable.grown es1.size);have hf:=relayAll_fits t2 es1 (SetTable.grown es1.size);have hgd:=xN (es:=es1) (n:=SetTable.grown es1.size) p.good;have hz:(relayAll t2 es1 (SetTable.grown es1.size)).1.size=es1.size:=by simpa using hp.length_eq
  have p2:Parts prog w { o with data:=.set (relayAll t2 es1 (SetTable.grown es1.size)).1 (ep+1+1) (relayAll t2 es1 (SetTable.grown es1.size)).2.1 } (relayAll t2 es1 (SetTable.grown es1.size)).1 (ep+1+1) (relayAll t2 es1 (SetTable.grown es1.size)).2.1 ks' :=
   ⟨hx,rfl,p.el.perm hp,(hp.map _).trans p.ks,by rw [hz];exact p.few,hf,hgd⟩
  refine wpAny_bind (hg _ _ _ (wpAny_bind (wpAny_storeSet_of ho1 rfl (wpAny_pure (h _ (sb1.trans (Heap.SameBut.update _ a _)) ⟨_,_,_,_,lQ ho1 rfl hx p2,p2⟩)) (fits_of_scanBound p2.few))))
 ·exact wpAny_pure (h _ sb1 ⟨_,_,_,_,ho1,p⟩)
def zN {ks:List Int} {k:Int}:(ks.any (·==k))=decide (k∈ks):=by
 rw [Bool.eq_iff_iff,List.any_eq_true,decide_eq_true_eq];constructor
 ·rintro ⟨x,hx,e⟩;rw [<- eq_of_beq e];exact hx
 ·exact fun hx=>⟨k,hx,beq_self_eq_true k⟩
def cG6 {ks:List Int} {k:Int} (h:k∈ks):step_dedup ks k=ks:=by unfold step_dedup;rw [zN,if_pos (decide_eq_true h)]
def cG7 {ks:List Int} {k:Int} (h:k∉ks):step_dedup ks k=ks++[k]:=by unfold step_dedup;rw [zN,if_neg (by rw [decide_eq_true_eq];exact h)]
def add_int {a:Addr} {ks:List Int} {k:Int} {tk:Tok} {Q:Bool->Shared->Prop} (hS:SetI prog w s.heap a ks) (room:ks.length+1 < scanBound)
  (h:∀ b h',Heap.SameBut a s.heap h'->SetI prog w h' a (step_dedup ks k)->Q b { s with heap:=h' }):wpAny (model prog w) A (setAddHashed a (.int k tk) ((intKind prog w).hash k)) Q E s:=by
 obtain ⟨o,es,ep,t,ho,p⟩:=hS;have hk:(intKind prog w).is k (.int k tk)=true:=intKind_is _ _ _ _;have hsz:es.size=ks.length:=by have:=p.ks.length_eq;simpa using this
 unfold setAddHashed setAddHashedIn;refine wpAny_holding (wpAny_bind (wpAny_setState_of ho p.dat p.fit ?_));dsimp only;rw [byScan_of (x:=.int k tk) rfl p.few p.el];simp only [if_true];unfold setAddByScan;refine wpAny_bind (wpAny_bind (wpAny_rule (wpAny_bind (wpAny_setScan_of hk ho p.dat p.fit p.el ?_))));cases hr:List.findIdx? (fun e=>(intKind prog w).is k e.2) es.toList with
 | some j =>
  have hm:k∈ks:=p.ks.mem_iff.mp (aG5 hr);refine wpAny_pure (wpAny_pure ?_);have q:=h false s.heap (Heap.SameBut.refl a _) (by rw [cG6 hm];exact ⟨o,es,ep,t,ho,p⟩);cases s;exact q
 | none =>
  have hm:k∉ks:=fun z=>aG4 p.el hr (p.ks.mem_iff.mpr z);dsimp only;have gw:∀ (b:Bool) {s₁:Shared} {Q':Unit->Shared->Prop},Q' () s₁->wpAny (model prog w) A (match b with | true=>rule "set.scan.the-table-gave-way" | false=>pure ()) Q' E s₁:=fun b s₁ Q' q=>by
   cases b
   ·exact wpAny_pure q
   ·exact wpAny_rule q
  have lp:=layNew_perm t es ((intKind prog w).hash k) (.int k tk);have lf:=layNew_fits t es ((intKind prog w).hash k) (.int k tk);have lg:bA (txt w) (layNew t es ((intKind prog w).hash k) (.int k tk)).2.1:=vI p.good;generalize layNew t es ((intKind prog w).hash k) (.int k tk)=L at lp lf lg;obtain ⟨es1,t1,wd,gv⟩:=L;dsimp only at lp lf lg ⊢;rw [Array.toList_push] at lp;have z1:es1.size=ks.length+1:=by have:=lp.length_eq;simp at this;omega
  have mk:∀ t2:SetTable,t2.fits es1.size=true->bA (txt w) t2->Parts prog w { o with data:=.set es1 (ep+1) t2 } es1 (ep+1) t2 (step_dedup ks k):=fun t2 f2 g2 =>
   ⟨p.ex,rfl,(p.el.push hk rfl).perm lp,by
    rw [cG7 hm];refine (lp.map _).trans ?_;rw [List.map_append];exact p.ks.append (List.Perm.refl _),by omega,f2,g2⟩
  refine wpAny_bind (gw _ ?_);have fin:∀ h',Heap.SameBut a s.heap h'->SetI prog w h' a (step_dedup ks k)->wpAny (model prog w) A (pure true) (fun b s'=>Q b s') E { s with heap:=h' }:=fun h' b c=>wpAny_pure (h true h' b c);split
  ·refine wpAny_bind ?_;rw [hashByValue_scannable 8 (x:=.int k tk) rfl];refine wpAny_pure (zM (fun b s₁ Q' q=>?_) ho p.dat p.ex (mk _ ?_ ?_) fun h' b c=>wpAny_pure (h _ h' b c))
   ·cases b
    ·exact wpAny_pure q
    ·exact wpAny_rule q
   ·split
    ·exact lf
    ·exact SetTable.fits_plain_off lf
   ·split
    ·exact lg
    ·exact lg
  ·refine wpAny_bind (wpAny_pure ?_);simp only [if_true];refine zM (fun b s₁ Q' q=>?_) ho p.dat p.ex (mk _ lf lg) fun h' b c=>wpAny_pure (h _ h' b c);cases b
   ·exact wpAny_pure q
   ·exact wpAny_rule q
end
section
variable {prog:Program} {w:World} {A:Around} {E:Value->Shared->Prop} {s:Shared} {R:Result->Shared->Prop}
def aR4 {I:Addr} {fp wr:List Addr} {n:Nat} {P:Nat->Value->Prop} {St:Nat->Heap->Prop} (W:Walks prog w A.in1 I fp wr n P St) (S:Addr) (hS:S∉fp) (val:Nat->Int) (hval:∀ i v,P i v->∃ t,v=.int (val i) t) (hb:n+1 < scanBound) :
  ∀ (k i:Nat) (s:Shared),n - i=k->i<=n->St i s.heap->SetI prog w s.heap S (firstMet val i) ->
   (∀ h' tk,SetI prog w h' S (firstMet val n)->(∀ b o,b≠S->b∉wr->s.heap.get? b=some o->h'.get? b=some o)->R (.ok (.ret .none)) { s with heap:=h',toks:=tk }) ->
   codeAny (model prog w) A (.builtin "set.update.loop" ⟨[.ref S,.ref I],[]⟩) R s:=by
 have hw:S∉wr:=fun z=>hS (W.sub _ z);intro k;induction k with
 | zero =>
  intro i s hk hi st si hR;have e:i=n:=by omega
  subst e;refine codeAny_builtin F.entry_set_update_loop ?_;rw [Around.under_plainId F.plain_set_update_loop _];refine wpAny_bind (W.done s _ _ st fun h' tk hm=>wpAny_pure ?_);exact hR h' tk (si.keep fun o e=>hm S o hw e) fun b o _ hb e=>hm b o hb e
 | succ k ih =>
  intro i s hk hi st si hR;have hlt:i < n:=by omega
  refine codeAny_builtin F.entry_set_update_loop ?_;rw [Around.under_plainId F.plain_set_update_loop _];refine wpAny_bind (W.item i s _ _ hlt st fun v h1 tk1 hP st1 hm=>?_);obtain ⟨t,rfl⟩:=hval i v hP;have s1:SetI prog w h1 S (firstMet val i):=si.keep fun o e=>hm S o hw e;have fl:=firstMet_length_le val i;refine wpAny_bind (wpAny_holding ?_);unfold setAdd;refine wpAny_holding (wpAny_bind ((intKind prog w).pyHash (k:=val i) (intKind_is _ _ _ _) ?_));refine add_int (s:={ s with heap:=h1,toks:=tk1+1 }) s1 (by omega) fun b h2 sb s2=>?_;rw [<- firstMet_succ] at s2;refine wpAny_pure ⟨plainId_quiet F.plain_set_update_loop _,ih (i+1) _ (by omega) hlt (W.frame _ h1 _ st1 fun c hc o e=>?_) s2 fun h3 tk3 s3 k3=>hR h3 tk3 s3 fun c o n1 n2 e=>k3 c o n1 n2 ?_⟩
  ·rw [sb.2 c (fun z=>hS (by rw [<- z];exact hc))];exact e
  ·show h2.get? c=some o;rw [sb.2 c n1];exact hm c o n2 e
abbrev oB (w:World):Obj:={ cls:=.type "set",dict:=none,data:=.set #[] 0 (.fresh 0 0 (!txt w)) }
def aG6:Parts prog w (oB w) #[] 0 (.fresh 0 0 (!txt w)) [] where
 ex:=⟨rfl,rfl,rfl⟩
 dat:=rfl
 el:=fun e he=>by simp at he
 ks:=by simp
 few:=by decide
 fit:=rfl
 good:=⟨by simp [Ris,SetTable.fresh],fun e=>by rw [e];rfl⟩
def aR5 (a:Value) {Q₁:Value->Shared->Prop} (h:Q₁ (.ref s.heap.objs.size) { s with heap:=s.heap.push (oB w) }) :
  codeAny (model prog w) A (.call (.builtin "set.__new__") ⟨[.type "set",a],[]⟩) (wants Q₁ E) s:=by
 refine codeAny_of_tree ?_;show wpAny _ _ (checkBuiltinCall "set.__new__" ⟨[.type "set",a],[]⟩ >>= fun _=>again (.builtin "set.__new__" ⟨[.type "set",a],[]⟩)) _ _ s;refine wpAny_bind (wpAny_of_eq (PySem.F.newCall_set_1 a) (wpAny_pure ⟨plainId_quiet PySem.F.plain_set_new _,codeAny_builtin PySem.F.entry_set_new ?_⟩));rw [Around.under_plainId PySem.F.plain_set_new _];have sub:=sub_set_self;unfold Builtin.«set.__new__» Builtin.Frozenset.newClass;obtain ⟨hp,g,d,tk,os⟩:=s;dsimp only
 wp_walk
 refine wpAny_askSetting (wpAny_pure ?_);dsimp only;simp only [newObj];exact wpAny_bind (wpAny_alloc (wpAny_pure (wpAny_pure h)))
def xP (ns:List Int):(List.range ns.length).map (fun i=>ns.getD i 0)=ns:=by
 apply List.ext_getElem
 ·simp
 ·intro i h1 h2;simp [h2]
noncomputable def dd (ns:List Int):List Int:=ns.foldl step_dedup []
def aR6 (ns:List Int):firstMet (fun i=>ns.getD i 0) ns.length=dd ns:=by
 unfold firstMet dd;rw [xP]
end
section
variable {prog:Program} {w:World} {A:Around} {E:Value->Shared->Prop} {s:Shared} {o:Obj} {es:Array (Int×Value)} {ep:Nat} {t:SetTable} {ks:List Int} {a:Addr}
end
section
variable {prog:Program} {w:World} {A:Around} {E:Value->Shared->Prop} {s:Shared} {o:Obj} {es:Array (Int×Value)} {ep:Nat} {t:SetTable} {ks:List Int} {a:Addr}
end
section
variable {prog:Program} {w:World} {A:Around} {E:Value->Shared->Prop} {s:Shared} {o:Obj} {es:Array (Int×Value)} {ep:Nat} {t:SetTable} {ks:List Int} {a:Addr}
end
end ST
namespace L2
open PySem PySem.Spec PyProof.Rows ST
section
variable {X:Cx}
def zO {e:Expr} {pos:Pos} {P:List Value->Shared->Prop} {E:Value->Shared->Prop} {s:Shared} (hs:starEach [e] X.env=[(false,eval e X.env)]) (h:wpAny (model X.prog X.w) X.A (eval e X.env) (fun v s1=>P [v] s1) E s) :
  wpAny (model X.prog X.w) X.A (spliced (backTo pos (starEach [e] X.env))) P E s:=by
 rw [hs];show wpAny _ _ (spliced ((false,eval e X.env)::backTo pos [])) _ _ s;exact Calls.spliced_cons (thn h fun u s1 q=>wpAny_pure q)
def bJ1 {ns:List Int}:∀ {its:List Value},Vals (ns.map V.int) its->IntsAre its ns:=by
 induction ns with
 | nil=>intro its h;cases h;exact .nil
 | cons k r ih =>
  intro its h;cases h with
  | cons q t =>
   obtain ⟨tk,rfl⟩:=q;exact .cons _ _ (ih t)
def cG8 (ns:List Int):(dd ns).length<=ns.length:=by
 rw [<- aR6];exact firstMet_length_le _ _
end
end L2
namespace ST
open PySem PySem.Spec PyProof.Rows
section
variable {prog:Program} {w:World} {A:Around} {E:Value->Shared->Prop} {s:Shared}
end
section
variable {prog:Program} {w:World} {A:Around} {E:Value->Shared->Prop} {s:Shared}
end
end ST
namespace L2
open PySem PySem.Spec PyProof.Rows ST
section
variable {X:Cx}
end
end L2
namespace PySem
open PySem.Spec PyProof.Rows
section
variable {prog:Program} {w:World} {A:Around} {E:Value->Shared->Prop} {s:Shared}
end
section
variable {prog:Program} {w:World} {A:Around} {E:Value->Shared->Prop} {s:Shared} {R:Result->Shared->Prop} {b c:Bool} {z TI TO i1 i2 l1 l2 S lo:Addr} {xs ys:Array Value} {as bs:List Addr} {cnt:Nat}
end
section
variable {prog:Program} {w:World} {A:Around} {E:Value->Shared->Prop} {s:Shared} {R:Result->Shared->Prop} {b c:Bool} {z TI TO i1 i2 l1 l2 S lo:Addr} {xs ys:Array Value}
end
end PySem
namespace L2
open PySem PySem.Spec PyProof.Rows ST
section
variable {X:Cx} {pins:List (Addr×Obj)} {σ:St} {H:Hp} {s:Shared} {h':Heap} {news:List (Addr×HO)}
end
end L2
namespace DL
open PySem PySem.Spec PyProof.Rows L2 ST
noncomputable def gX:List PyData->Option (List Int)
 | []=>some []
 | .int i::r=>(gX r).map (i::·)
 | _=>none
section
variable {K:Frag} {A μ:List Addr} {H H':Hp} {h:aA}
theorem qW:∀ {xs:List PyData} {ns:List Int} {vs:List V},gX xs=some ns->Reps K A H xs vs->vs=ns.map V.int
 | [],ns,vs,e,r=>by cases e;rw [Reps] at r;exact r
 | x::xs,ns,vs,e,r=>by
  unfold gX at e;split at e
  ·rename_i q;cases q
  ·rename_i i r0 q;cases q;obtain ⟨ms,e2,rfl⟩:=Option.map_eq_some_iff.mp e;rw [Reps] at r;obtain ⟨v,r',rfl,r1,r2⟩:=r;rw [Rep] at r1;subst r1;rw [qW e2 r2];rfl
  ·cases e
theorem qY:∀ ns:List Int,Reps K A H (ns.map .int) (ns.map V.int)
 | []=>.nil
 | n::r=>.cons (by rw [Rep]) (qY r)
end
section
variable {X:Cx}
def aR7 {K:Frag} {A:List Addr} {H:Hp} (i:Int) (n:Nat):Reps K A H (rng i n) ((List.range n).map fun (k:Nat)=>V.int (i+k)):=by
 have e:rng i n=((List.range n).map fun (k:Nat)=>i+k).map PyData.int:=by
  unfold rng;rw [List.map_map];rfl
 rw [e,show ((List.range n).map fun (k:Nat)=>V.int (i+k))=((List.range n).map fun (k:Nat)=>i+k).map V.int by rw [List.map_map];rfl];exact qY _
end
end DL
namespace PySem
open PySem.Spec PyProof.Rows
section
variable {prog:Program} {w:World} {A:Around} {E:Value->Shared->Prop} {s:Shared}
end
end PySem
namespace L2
open PySem PySem.Spec PyProof.Rows ST
section
variable {X:Cx} {elts:List Expr} {n:Nat} {tpos:Pos}
end
end L2
namespace DL
open PySem PySem.Spec PyProof.Rows L2 ST
section
variable {X:Cx} {elts:List Expr} {n:Nat} {tpos:Pos}
end
end DL
namespace L2
open PySem PySem.Spec PyProof.Rows
section
variable {prog:Program} {w:World} {A:Around} {E:Value->Shared->Prop} {s:Shared}
end
end L2
namespace DL
open PySem PySem.Spec PyProof.Rows L2 ST
section
variable {X:Cx}
def aG7 {f:Nat->Bool} (bs:List Bool) (h:∀ i b,bs[i]?=some b->f i=b):(List.range bs.length).any f=bs.any id:=by
 rw [Bool.eq_iff_iff,List.any_eq_true,List.any_eq_true];constructor
 ·rintro ⟨i,hi,e⟩;have hi':i < bs.length:=by simpa using hi
  rw [h i bs[i] (by simp [hi'])] at e;exact ⟨_,List.getElem_mem hi',e⟩
 ·rintro ⟨b,hb,e⟩;obtain ⟨i,hi,rfl⟩:=List.mem_iff_getElem.mp hb;exact ⟨i,by simpa using hi,by rw [h i bs[i] (by simp [hi])];exact e⟩
noncomputable def cG9:List W->aA->Option (W×aA)
 | [w],h=>(match ref h w with
  | some (.list xs)=>(dH xs).map fun bs=>(.d (.bool (bs.any id)),h)
  | _=>none)
 | _,_=>none
abbrev OfX (f:List W->aA->Option (W×aA)):DC:=fun ws h Q=>∃ r h',f ws h=some (r,h')/\Q r h'
end
end DL
namespace ST
open PySem PySem.Spec PyProof.Rows PySem.W
section
variable {prog:Program} {w:World} {A:Around} {E:Value->Shared->Prop} {s:Shared}
end
section
variable {prog:Program} {w:World} {A:Around} {E:Value->Shared->Prop} {s:Shared}
end
end ST
namespace L2
open PySem PySem.Spec PyProof.Rows ST
section
variable {X:Cx}
end
end L2
namespace L2
open PySem PySem.Spec PyProof.Rows
section
variable {X:Cx}
noncomputable def cV6:V->V->V->Hp->(Hp->Prop)->Prop:=fun o i v H Q=>bQ2 o i v H Q\/∃ a k kvs,o=.ref a/\i=kV k/\H a=some (.dK kvs)/\kvs.length < sizeLine/\Q (upd H a (.dK (sI kvs k v)))
def cV7:bY0 X cV6:=by
 intro pins s σ H o i v ov iv u Q I ro ri rv h;rcases h with h | ⟨a,k,kvs,rfl,rfl,e,l,q⟩
 ·exact aM6 pins s σ H o i v ov iv u Q I ro ri rv h
 ·cases ro;obtain ⟨z,hd,vs,rel,dd⟩:=cS8 I.hok e;have hz:vs.length<=sizeLine:=by rw [<- rel.length];exact z
  have hl:(sI kvs k v).length<=sizeLine:=by have:=uM kvs k v;omega
  refine wpAny_setItem_pairs (hsz:=hz) (uN ri) dd fun h' dd' hs=>⟨_,?_,q⟩;have he:∃ q,h'.get? a=some q:=let ⟨q,_,_,hq,_⟩:=dd';⟨q,hq⟩
  exact bD1 I (by rw [e];exact True.intro) hs he (cA3 hl hd (rel.put k rv) dd')
end
end L2
namespace DL
open PySem PySem.Spec PyProof.Rows L2 ST
variable {X:Cx} {e:Expr} {pos:Pos}
def cV8 (to ti:DTE):DTG:=fun v δ h Q=>to δ h fun o h1=>ti δ h1 fun i h2=>match o,i,v with
 | .c j,.d y,.d x=>(match h2[j]?,y with
  | some (.l xs),.int k=>(match ixN xs.length k with
   | some n=>Q δ (h2.set j (.l (xs.set n x)))
   | none=>False)
  | some (.k kvs),_=>(bF y).isSome=true/\kvs.length < sizeLine/\Q δ (h2.set j (.k (sV kvs y x)))
  | _,_=>False)
 | _,_,_=>False
def bJ2 {K:Frag} {A:List Addr} {H:Hp} {y:PyData} {v:V} {q:Key} (r:Rep K A H y v) (hk:bF y=some q):v=kV q:=by
 cases y<;>first | (simp [bF] at hk;done) | skip
 ·rw [Rep] at r;simp only [bF,Option.some.injEq] at hk;subst hk;exact r
 ·rw [Rep] at r;simp only [bF] at hk;rw [if_pos r.2] at hk;cases hk;exact r.1
theorem qZ {K:Frag} {A:List Addr} {H:Hp}:∀ {kvs:List (PyData×PyData)} {r:List (Key×V)},RepKs K A H kvs r->r.length=kvs.length
 | [],r,h=>by rw [repKs_nil.mp h];rfl
 | p::kvs,r,h=>by
  obtain ⟨q',r',rfl,h1,h3⟩:=repKs_cons.mp h;simp [qZ h3]
def bJ3 {o i:Expr} {to ti:DTE} (ho:DE X o to) (hi:DE X i ti)
  (ha:∀ v,assign (.Subscript o i pos) X.env v=(do
   let ov <- holding [v] (eval o X.env)
   let iv <- holding [v,ov] (eval i X.env)
   standAt pos
   holding [v,ov,iv] (setItem ov iv v)
   release [v,ov,iv] []):=by intro _;rfl):DG X (.Subscript o i pos) (cV8 to ti):=mR (bY2 ho hi cV7 ha) fun v σ H Q q=>by
 obtain ⟨w,δ,h,A,μ,k,R,r,q,c⟩:=q;refine ⟨δ,h,A,μ,_,R,q,fun o h1 vo H1 A1 μ1 q1 x1 R1 r1=>?_⟩;refine ⟨δ,h1,A1,μ1,_,⟨R1,R.2.ext x1 R.1.sub⟩,q1,fun i h2 vi H2 A2 μ2 q2 x2 R2 r2=>?_⟩;have x12:=x1.trans x2;split at q2
 ·rename_i j y x;split at q2
  ·rename_i xs kk ex;split at q2
   ·rename_i n en;obtain ⟨a,ea,rfl⟩:=r1.ext x2 R1.sub;have ei:=bD r2;subst ei;obtain ⟨vs,hv,rr⟩:=R2.val j a xs ea ex;refine .inl ⟨a,vs,kk,n,rfl,rfl,hv,by rw [rr.length];exact en,?_⟩;have rx:Rep X.K A2 H2 x v:=r.ext x12 R.1.sub;have hm:=List.mem_of_getElem? ea;have y:=gE (A:=A2) (o:=.lst (vs.set n v)) hm hv;exact c _ _ _ _ A2 μ2 q2 (x12.trans y) ⟨gL R2 ea (rr.set rx n),(R.2.ext x12 R.1.sub).ext y R2.sub⟩
   ·exact q2.elim
  ·rename_i kvs ex;obtain ⟨hk,hl,q2⟩:=q2;obtain ⟨kq,hk⟩:=Option.isSome_iff_exists.mp hk;obtain ⟨a,ea,rfl⟩:=r1.ext x2 R1.sub;have ei:=bJ2 (K:=X.K) (A:=A2) (H:=H2) r2 hk;subst ei;obtain ⟨vs,hv,rr⟩:=R2.vad j a kvs ea ex;refine .inr ⟨a,kq,vs,rfl,rfl,hv,by rw [qZ rr];exact hl,?_⟩;have rx:Rep X.K A2 H2 x v:=r.ext x12 R.1.sub;have hm:=List.mem_of_getElem? ea;have y:=gE (A:=A2) (o:=.dK (sI vs kq v)) hm hv;exact c _ _ _ _ A2 μ2 q2 (x12.trans y) ⟨uQ R2 ea (aG1 hk rx rr),(R.2.ext x12 R.1.sub).ext y R2.sub⟩
  ·exact q2.elim
 ·exact q2.elim
def cV9:DTE:=fun δ h Q=>Q (.c h.length) (h++[Cell.k []])
def bJ4 {i:Nat} {x:Str} {pos' pos2:Pos} (hN:X.N.Nodup) (hi:X.N[i]?=some x) (hx:Loc X.env.scope x) (hs:swapsWith (.Dict [] [] pos2) (some (.Name x pos')) pos.line X.env=pure false)
  (hf:X.fn x=true\/X.env.scope.names.lookup x=some .local):DS X (.Assign [.Name x pos'] (.Dict [] [] pos2) pos) (xJ cV9 (nV i)):=bN (rX hN hi hx vG hs hf) fun D σ H q=>by
 obtain ⟨δ,h,A,μ,E,R,q,L⟩:=q;intro p hp;have hl:μ.length=h.length:=R.1.len;have x:=cC (μ:=μ) (A:=A) (o:=.dK []) hp;exact L.nx _ _ _ _ (p::A) (μ++[p]) q x ⟨xD R.1 hp (repKs_nil.mpr rfl),(R.2.ext x R.1.sub).set i ⟨p,by rw [<- hl];simp,rfl⟩⟩
end DL
namespace DL
open PySem PySem.Spec PyProof.Rows L2 ST
section
variable {X:Cx}
def dQ1 (to:DTE) (t:DTA):DTE:=fun δ h Q=>to δ h fun o h1=>match o with
 | .c j=>(match h1[j]? with
  | some (.l _)=>t δ h1 fun ws h2=>(match ws,h2[j]? with
   | [.d (.int i)],some (.l xs)=>∃ n x,ixN xs.length i=some n/\xs[n]?=some x/\-(2^63)<=i/\i < 2^63/\Q (.d x) (h2.set j (.l (xs.eraseIdx n)))
   | _,_=>False)
  | _=>False)
 | _=>False
theorem oC {K:Frag} {A:List Addr} {H:Hp}:∀ {xs:List PyData} {vs:List V} (n:Nat),Reps K A H xs vs->Reps K A H (xs.eraseIdx n) (vs.eraseIdx n)
 | [],vs,n,r=>by
  rw [Reps] at r;subst r;exact .nil
 | x::xs,vs,0,r=>by
  rw [Reps] at r;obtain ⟨v,vr,rfl,_,r⟩:=r;exact r
 | x::xs,vs,n+1,r=>by
  rw [Reps] at r;obtain ⟨v,vr,rfl,r1,r2⟩:=r;exact .cons r1 (oC n r2)
def cH0 {o e0:Expr} {es:List Expr} {to:DTE} {t:DTA} {apos cpos:Pos} (ho:DE X o to) (ha:DA X (e0::es) t)
  (hbase:autoParam (attributeBase o "pop" X.env (eval o X.env)=eval o X.env) ZR)
  (hfew:((backTo cpos (starEach (e0::es) X.env)).all (fun x=>!x.1)&&(backToKw cpos (keywordEach [] X.env)).all (fun x=>x.1.isSome)
   && decide ((e0::es).length+([]:List Keyword).length+(if ([]:List Keyword).isEmpty then 0 else 1) < 30))=true:=by rfl)
  (hline:autoParam ((apos.endLine==cpos.line)=true) ZR) (hs:autoParam (starEach (e0::es) X.env=(false,eval e0 X.env)::starEach es X.env) ZR) (hplain:autoParam ((backTo cpos (starEach es X.env)).any (·.1)=false) ZR) :
  DE X (.Call (.Attribute o "pop" apos) (e0::es) [] cpos) (dQ1 to t):=aI (aM7 PySem.F.plainAttrs_list PySem.F.slot_list_pop PySem.F.type_list_pop aM8 ho ha hbase hfew hline hs hplain) fun σ H Q q=>by
 obtain ⟨δ,h,A,μ,k,R,q,c⟩:=q;refine ⟨δ,h,A,μ,_,R,q,fun o h1 vo H1 A1 μ1 q1 x1 R1 r1=>?_⟩;split at q1
 ·rename_i j;obtain ⟨a,ea,rfl⟩:=r1;split at q1
  rotate_left
  ·exact q1.elim
  rename_i xs1 ex1;obtain ⟨vs1,hv1,_⟩:=R1.val j a xs1 ea ex1;refine ⟨.inl ⟨rfl,_,SqL.of hv1⟩,δ,h1,A1,μ1,_,⟨R1,R.2.ext x1 R.1.sub⟩,q1,fun ws h2 vs H2 A2 μ2 q2 x2 R2 r2=>?_⟩;split at q2
  ·rename_i i xs ex;obtain ⟨n,x,e1,e2,i1,i2,q2⟩:=q2;obtain ⟨v,rfl,rv⟩:=dY r2;have ei:=bD rv;subst ei;have ea2:μ2[j]?=some a:=by
    obtain ⟨ν,e1,_⟩:=x2.pre;rw [e1,List.getElem?_append_left (List.getElem?_eq_some_iff.mp ea).1];exact ea
   obtain ⟨vs,hv,rr⟩:=R2.val j a xs ea2 ex;obtain ⟨y,ey,ry⟩:=rr.get e2;refine ⟨a,vs,i,n,y,rfl,rfl,hv,i1,i2,by rw [rr.length];exact (sA e1).1,ey,?_⟩;have hm:=List.mem_of_getElem? ea2;exact c _ _ _ _ A2 μ2 q2 ((x1.trans x2).trans (gE hm hv)) (gL R2 ea2 (oC n rr)) (ry.upd (R2.sub a hm))
  ·exact q2.elim
 ·exact q1.elim
def xQ (l:Addr) (items:Array Value) (n:Nat) (dd:Option Addr) (sl:Array (Option Value)) (u:Tok) :
  Meets (Builtin.«tuple.__mul__» ⟨[.ref l,.int 1 u],[]⟩) (fun _ R s=>s.heap.get? l=some { cls:=.type "tuple",dict:=dd,data:=.seq items n,slots:=sl }/\R (.ok (.ret (.ref l))) s) :=
 .of_wp fun prog w A R s h=>by
  obtain ⟨hp,g,d,tk,os⟩:=s;obtain ⟨hl,h⟩:=h;have f2:=AutoSeq1.sub_tuple_tuple
  wp_walk
  exact ⟨_,rfl,h⟩
def aR8:OpR X (binaryOp .Mult) (fun x y H Q=>∃ l xs,x=.ref l/\y=.int 1/\SqT X.K H l xs/\Q (.ref l) H):=by
 intro pins s σ H x y v u Q I rx ry h;obtain ⟨l,xs,rfl,rfl,sq,q⟩:=h;cases rx;obtain ⟨t,rfl⟩:=ry;obtain ⟨its,r,p,hz0⟩:=I.tuple sq;obtain ⟨⟨cls,dd,data,sl⟩,ho,hc,n,hd⟩:=id p;simp only at hc hd;subst hc hd;refine wpAny_binaryOp_repeat_ref (T:="tuple") (U:="int") (by decide) ⟨_,ho,rfl⟩ (fun s'=>typeIs_int s' 1 t) iF PySem.F.fills_int_mul PySem.F.slot_int_rmul iZ PySem.F.slot_int_index.lookup
  (call_meets PySem.F.slot_int_rmul (typeIs_int s 1 t) PySem.F.entry_int_rmul (PySem.F.args_int_rmul_2 _ _) (iG 1 t l its.toArray n dd sl)
   ⟨ho,rfl,⟨_,ho,rfl⟩,call_meets PySem.F.slot_tuple_mul ⟨_,ho,rfl⟩ PySem.F.entry_tuple_mul (PySem.F.args_tuple_mul_2 _ _) (xQ l its.toArray n dd sl t) ⟨ho,?_⟩⟩)
 exact ⟨.ref l,H,I,rfl,q⟩
noncomputable def bT9:D2
 | .d (.tuple xs),.d (.int k),h,Q=>(k=1/\Q (.d (.tuple xs)) h)\/((xs≠[]/\1 < k/\k < 2^63/\xs.length*k.toNat<=sizeLine)/\Q (.d (.tuple (List.replicate k.toNat xs).flatten)) h)
 | _,_,_,_=>False
def aR9:OpR X (binaryOp .Mult) (upR X.K bT9):=by
 intro pins s σ H x y v u Q I rx ry h;obtain ⟨a,b,h,A,μ,k,R,ra,rb,q,c⟩:=h;unfold bT9 at q;split at q
 ·rename_i xs n;rcases q with ⟨e,q⟩ | q
  ·obtain ⟨p,vs,rfl,ta,sa⟩:=bE (h:=h) ra rfl;have eb:=bD rb;subst eb;subst e;exact aR8 pins s σ H _ _ v u Q I rx ry ⟨p,vs,rfl,rfl,ta.sq,c _ _ _ _ _ _ q .refl R ra⟩
  ·exact aQ6 pins s σ H x y v u Q I rx ry ⟨.d (.tuple xs),.d (.int n),h,A,μ,k,R,ra,rb,q,c⟩
 ·exact q.elim
end
end DL
namespace L2
open PySem PySem.Spec PyProof.Rows
section
variable {X:Cx} {CX:CXT} {k:Nat} {f C:Addr} {fd:FuncData} {ps:List Str} {sp:Sp} {dvs:List V} {ds:List Value} {E:XK} {m:Str} {pos apos:Pos} {e o:Expr} {es:List Expr} {ta:TE} {t:TA}
end
end L2
namespace DL
open PySem PySem.Spec PyProof.Rows L2 ST
section
variable {K:Frag} {A A' μ μ':List Addr} {H H':Hp}
def IsOk.at {is:List Nat} {vs:List V}:IsOk μ is vs->∀ {k:Int} {m:Nat},atI is k=some m->∃ a,atI vs k=some (V.ref a)/\μ[m]?=some a:=by
 have len:∀ {is:List Nat} {vs:List V},IsOk μ is vs->vs.length=is.length:=fun {is}=>by
  induction is with
  | nil=>intro vs h;have e:vs=[]:=h;subst e;rfl
  | cons i is ih=>rintro vs ⟨a,vr,e,_,h⟩;subst e;rw [List.length_cons,List.length_cons,ih h]
 have get:∀ {is:List Nat} {vs:List V},IsOk μ is vs->∀ (n m:Nat),is[n]?=some m->∃ a,vs[n]?=some (V.ref a)/\μ[m]?=some a:=fun {is}=>by
  induction is with
  | nil=>intro vs h n m e;simp at e
  | cons i is ih =>
   rintro vs ⟨a,vr,e,r,h⟩ n m em;subst e;cases n with
   | zero=>simp at em;subst em;exact ⟨a,rfl,r⟩
   | succ n=>simp at em;obtain ⟨b,e1,e2⟩:=ih h n m em;exact ⟨b,by simpa using e1,e2⟩
 intro h k m e;unfold atI at e ⊢;rw [len h];cases q:ixN is.length k with
 | none=>rw [q] at e;cases e
 | some n=>rw [q] at e;exact get h n m e
end
section
variable {X:Cx} {o e value:Expr} {f:Str} {pos pos':Pos} {to tv:DTE}
end
abbrev xR:=List W->aA->DK->Prop
noncomputable def gY (K:Frag) (d:xR):Sp:=fun vs H Q _=>∃ (ws:List W) (h:aA) (A μ:List Addr) (k:DK),HeapRep K A μ h H/\iB K A μ H ws vs/\d ws h k /\
 ∀ w h' v H' A' μ',k w h'->Ext A A' μ μ' H H'->HeapRep K A' μ' h' H'->RepW K A' μ' H' w v->Q v H'
structure DFnW (P:Program) (w:World) (K:Frag) (mg:Str->Option Value) (base:Heap) (k:Nat) (x:Str) (d:xR):Prop where
 ok:∃ (f:Addr) (fd:FuncData) (ps:List Str),FnOk P w K mg base CX0 k f fd ps (gY K d)/\mg x=some (.ref f)/\PySem.W.keepIn K (.ref f)=true/\Binds K fd ps []
def aS0 (d:xR) (t:DTA):DTE:=fun δ h Q=>t δ h fun ws h1=>d ws h1 Q
def aS1 {K:Frag} {d:xR} {t:DTA} {σ:L2.St} {H:Hp} {Q:VK} (q:up K (aS0 d t) σ H Q):zC (gY K d) [] E0 (upA K t) σ H Q:=by
 obtain ⟨δ,h,A,μ,k,R,q,c⟩:=q;refine ⟨δ,h,A,μ,_,R,q,fun ws h1 vs H1 A1 μ1 q1 x1 R1 r1=>?_⟩;show gY K d (vs++[]) H1 Q E0;rw [List.append_nil];exact ⟨ws,h1,A1,μ1,_,R1,r1,q1,fun w h2 v H2 A2 μ2 q2 x2 R2 r2=>c w h2 v H2 A2 μ2 q2 (x1.trans x2) R2 r2⟩
section
variable {X:Cx} {x m:Str} {p pos apos:Pos} {e o:Expr} {es:List Expr} {to:DTE} {t:DTA} {d:xR} {k:Nat} {C f:Addr} {fd:FuncData} {ps:List Str}
def aS2 (F:DFnW X.prog X.w X.K X.mg X.base k x d) (hr:Room k X.A) (ha:DA X (e::es) t) (hg:autoParam (Gl X x) ZR) (hdb:autoParam ((x==("__debug__":Str))=false) ZD)
  (he:autoParam (starEach (e::es) X.env=(false,eval e X.env)::starEach es X.env) ZR) (hpl:autoParam ((backTo pos (starEach es X.env)).any (·.1)=false) ZR):DE X (.Call (.Name x p) (e::es) [] pos) (aS0 d t):=by
 obtain ⟨f,fd,ps,h1,h2,h3,h4⟩:=F.ok;exact aI (zD h1 hr hg h2 h3 h4 .nil aN0 ha hdb he hpl) fun _ _ _ q=>aS1 q
end
noncomputable def cW0:W->W->aA->DK->Prop:=fun o i h Q=>match o,i with
 | .c j,.d (.int k)=>(match h[j]? with
  | some (.r is)=>(match atI is k with
   | some m=>Q (.c m) h
   | none=>False)
  | _=>False)
 | _,_=>False
noncomputable def cW1:W->W->aA->DK->Prop:=fun o i h Q=>dIx o i h Q\/cW0 o i h Q
section
variable {X:Cx}
def cW2:IxR X (upR X.K cW1):=by
 intro value slice pins s σ H x y v u Q I rx ry h hs;obtain ⟨a,b,h,A,μ,k,R,ra,rb,q,c⟩:=h;rcases q with q | q
 ·exact dN8 value slice pins s σ H x y v u Q I rx ry ⟨a,b,h,A,μ,k,R,ra,rb,q,c⟩ hs
 ·unfold cW0 at q;split at q
  ·rename_i j i;obtain ⟨p,ep,rfl⟩:=ra;have eb:=bD rb;subst eb;split at q
   ·rename_i is ej;obtain ⟨vs,hv,io⟩:=R.cel j p _ ep ej;split at q
    ·rename_i m em;obtain ⟨b,e1,e2⟩:=io.at em;exact zG value slice pins s σ H _ _ v u Q I rx ry ⟨p,vs,i,.ref b,rfl,rfl,SqL.of hv,e1,c _ _ _ _ _ _ q .refl R ⟨b,e2,rfl⟩⟩ hs
    ·exact q.elim
   ·exact q.elim
  ·exact q.elim
def cH1 {a b:Expr} {pos:Pos} {ta tb:DTE} (ha:DE X a ta) (hb:DE X b tb) (hs:jN b:=by intro _ _;rfl):DE X (.Subscript a b pos) (dOp cW1 ta tb):=aI (aM5 cW2 ha hb hs) fun _ _ _ q=>uR q
end
section
variable {K:Frag} {A A' μ μ':List Addr} {H H':Hp} {h h':aA}
end
section
variable {X:Cx} {tg iter elt:Expr} {ifs:List Expr} {sc S:Scope} {N':List Str} {ixs:List (Option Nat)} {body:List Stmt} {ti:DTI} {g:DTG} {tb:DTS} {tt:DTT} {te:DTE} {pos:Pos}
end
noncomputable def aS3 (k:DK):DEnds where
 nx:=fun _ h=>k (.d .none) h
 rt:=k
section
variable {P:Program} {w:World} {K:Frag} {mg:Str->Option Value} {base:Heap}
def dQ2 {x qual:Str} {st:Stmt} {f:Addr} {fd:FuncData} {N ps:List Str} {k:Nat} {d:xR} (F:Fun K x qual st f fd) (S:FnScope N ps (aF st)) (len:∀ ws h k,d ws h k->ws.length=ps.length)
  (hbody:∀ (cdv:Value) (A:Around) (outer:List Env) (s:Shared) (H:Hp) (E:XK),fd.code=cdv->Room k (A.deeper (envOfC qual (aF st) s.heap.objs.size f cdv)) ->
   ∃ t,DSs (lY CX0 P w K mg base N qual (aF st) f cdv A outer s H E).nox (bI st) t/\∀ ws h kk,d ws h kk->t (aS3 kk) (cM N ws) h):FnOk P w K mg base CX0 (k+1) f fd ps (gY K d):=by
 refine cU6 F S (fun vs H Q E ⟨ws,h,A,μ,kk,R,r,q,c⟩=>by rw [dZ r];exact len _ _ _ q) fun cdv A outer s H vs Q E hcd hr hsp=>?_;obtain ⟨ws,h,B,μ,kk,R,r,q,c⟩:=hsp;obtain ⟨t,ht,hq⟩:=hbody cdv A outer s H E hcd hr;refine ⟨_,ht,cM N ws,h,B,μ,aS3 kk,⟨R,iS r⟩,hq ws h kk q,⟨fun δ' h' σ' H' A' μ' q' x' R'=>?_,fun δ' h' σ' H' A' μ' q' x' R'=>q'.elim,fun δ' h' σ' H' A' μ' q' x' R'=>q'.elim,fun z h' v H' A' μ' q' x' R' r'=>?_⟩⟩
 ·exact c _ h' _ H' A' μ' q' x' R'.1 (show Rep K A' H' .none .non by rw [Rep])
 ·exact c z h' v H' A' μ' q' x' R' r'
end
end DL
namespace ST
open PySem PySem.Spec PyProof.Rows
section
variable {prog:Program} {w:World} {A:Around} {E:Value->Shared->Prop} {s:Shared} {R:Result->Shared->Prop}
def sZ {l:Addr} {items:Array Value} {ns:List Int} {Q:Value->Shared->Prop} (hh:A.handled=none) (hl:s.heap.IsTuple l items) (hi:IntsAre items.toList ns) (hb:items.size+1 < scanBound)
  (h:∀ h' tk,SetI prog w h' s.heap.objs.size (dd ns)->(∀ b o,s.heap.get? b=some o->h'.get? b=some o)->Q (.ref s.heap.objs.size) { s with heap:=h',toks:=tk }) :
  wpAny (model prog w) A (call (.type "set") [.ref l]) Q E s:=by
 have hnz:ns.length=items.size:=by have:=IntsAre.length hi;simpa using this.symm
 obtain ⟨c,tl,mro⟩:=PySem.F.called_set.mro;have made:=PySem.F.called_set.made;have sub:=PySem.F.called_set.sub;refine wpAny_call (codeAny_of_tree (wpAny_pure ⟨Code.quiet_builtin _ (by decide +kernel),codeAny_builtin PySem.F.entry_type_call ?_⟩));rw [Around.under_plain (weight_type_call_type "set" [.ref l] []) rfl];have h1:=PySem.F.called_set.notType;have h2:=PySem.F.called_set.canCreate;have h3:=PySem.F.typeCall_set_1 (.ref l)
 repeat (any_goals (first | assumption | wp_step))
 refine codeAny_mono (aR5 (.ref l) (E:=E) (Q₁:=fun obj s₁=>obj=.ref s.heap.objs.size/\s₁={ s with heap:=s.heap.push (oB w) }) ⟨rfl,rfl⟩) fun r s₁ hr=>?_;cases r with
 | error e=>exact hr
 | ok fl =>
  cases fl with
  | ret obj =>
   obtain ⟨rfl,rfl⟩:=hr;have gS:(s.heap.push (oB w)).get? s.heap.objs.size=some (oB w):=Heap.get?_push_size _ rfl;have hT:Shared.TypeIs { s with heap:=s.heap.push (oB w) } (.ref s.heap.objs.size) "set":=⟨_,gS,rfl⟩;have look:=PySem.F.called_set.init.lookup;have bnd:=PySem.F.called_set.init.bind (.ref s.heap.objs.size)
   repeat (any_goals (first | assumption | wp_step))
   refine codeAny_mono (codeAny_call_builtin (R:=wants (fun r s₂=>r=.none/\∃ h' tk,s₂={ s with heap:=h',toks:=tk }/\SetI prog w h' s.heap.objs.size (dd ns)/\(∀ b o,s.heap.get? b=some o->h'.get? b=some o)) E)
    PySem.F.called_set.init.plain PySem.F.entry_set_init (check_set_init_1 hT ?_)) fun r₂ s₂ hr₂=>?_
   ·obtain ⟨ol,hol,hcl,nl,hdl⟩:=hl;obtain ⟨oc,od,odt,osl⟩:=ol;dsimp only at hcl hdl;subst hcl;subst hdl;have hol2:(s.heap.push (oB w)).get? l=some { cls:=.type "tuple",dict:=od,data:=.seq items nl,slots:=osl }:=Heap.get?_push_of_some _ hol;have f1:=PySem.F.sub_tuple_set;have f2:=PySem.F.sub_tuple_frozenset;have f3:(Value.type "tuple"==Value.type "dict")=false:=by decide
    have il:(s.heap.push (oB w)).IsTuple l items:=⟨_,hol2,rfl,nl,rfl⟩;unfold Builtin.«set.__init__» noKeywords Builtin.Frozenset.updateFrom;generalize hPI:pyIter=PI
    wp_walk
    subst hPI;refine wpAny_pyIter_tuple il (wpAny_bind (wpAny_runValue ?_));have lt:l < s.heap.objs.size:=Heap.lt_size hol;have sz:(s.heap.push (oB w)).objs.size=s.heap.objs.size+1:=by rw [Heap.size_push]
    have hne:l≠(s.heap.push (oB w)).objs.size:=by rw [sz];exact Nat.ne_of_lt (Nat.lt_succ_of_lt lt)
    have hSf:s.heap.objs.size∉[(s.heap.push (oB w)).objs.size,l]:=by
     rw [sz];simp only [List.mem_cons,List.not_mem_nil,or_false,not_or];exact ⟨Nat.ne_of_lt (Nat.lt_succ_self _),Nat.ne_of_gt lt⟩
    refine aR4 (Walks.tuple (A:=A.in1.in1.in1) (by simp [hh]) _ l hne items) s.heap.objs.size hSf (fun i=>ns.getD i 0) (fun i v hv=>IntsAre.int_at hi i v (by rw [Array.getElem?_toList];exact hv)) hb (items.size - 0) 0 _ rfl (Nat.zero_le _)
     ⟨⟨_,Heap.get?_push_size _ rfl,rfl,rfl⟩,il.push _⟩ ⟨_,_,_,_,Heap.get?_push_of_some _ gS,aG6⟩ fun h' tk si kp=>?_
    rw [<- hnz,aR6] at si;refine wpAny_pure (wpAny_pure ⟨rfl,h',tk,rfl,si,fun b o e=>?_⟩);have bl:b < s.heap.objs.size:=Heap.lt_size e;refine kp b o (Nat.ne_of_lt bl) ?_ (Heap.get?_push_of_some _ (Heap.get?_push_of_some _ e));simp only [List.mem_singleton];rw [sz];exact Nat.ne_of_lt (Nat.lt_succ_of_lt bl)
   ·cases r₂ with
    | error e=>exact hr₂
    | ok fl₂ =>
     cases fl₂ with
     | ret r =>
      obtain ⟨rfl,h',tk,rfl,si,kp⟩:=hr₂
      repeat (any_goals (first | assumption | wp_step))
      exact h _ _ si kp
     | _=>exact hr₂.elim
  | _=>exact hr.elim
end
end ST
namespace L2
open PySem PySem.Spec PyProof.Rows ST
section
variable {X:Cx}
def tLS (K:Frag) (t:TA):TE:=fun σ H Q=>t σ H fun vs H1=>∃ (a:Addr) (ns:List Int),vs=[.ref a]/\SqT K H1 a (ns.map V.int)/\ns.length<=62/\Q (.int (dd ns).length) H1
def bJ5 {e:Expr} {t:TA} {p p2 pos pos2:Pos} (hc:X.calm=true) (hg:Gl X "len") (hm:X.mg "len"=none) (hg2:Gl X "set") (hm2:X.mg "set"=none) (ha:PA X [e] t) (hs:starEach [e] X.env=[(false,eval e X.env)]) :
  PE X (.Call (.Name "len" p) [.Call (.Name "set" p2) [e] [] pos2] [] pos) (tLS X.K t):=by
 intro pins s σ H Q I h;refine wpAny_Call_Name_kw (fU (u:=.builtin "len") I hg hm (by decide +kernel) ?_ (by decide) (by decide));refine PyProof.Rows.callWith_builtin1 (zO (by rfl) ?_) rfl rfl;refine wpAny_Call_Name_kw (fU (u:=.type "set") I hg2 hm2 (by decide +kernel) ?_ (by decide) (by decide));refine PyProof.Rows.callWith_type1 (thn (ha pos2 pins s σ H _ I h) fun us s1 ⟨vs,H1,I1,r1,a,ns,e1,sq,hn,q⟩=>?_) hs rfl;subst e1;obtain ⟨u,rfl,ru⟩:=lK r1;cases ru;obtain ⟨its,rv,pl,hz⟩:=I1.tuple sq;have hl:=rv.length;rw [List.length_map] at hl;have sb:scanBound=4096:=rfl;refine sZ (I.ok.hd hc) (show s1.heap.IsTuple a its.toArray from pl) (by simpa using bJ1 rv) (by simp;omega) fun h2 tk2 si k2=>?_;obtain ⟨o,es,ep,tt,ho,pt⟩:=si;have hsz:es.size=(dd ns).length:=by
  have:=pt.ks.length_eq
  simpa using this
 have hd:=cG8 ns;refine call_len_set ho pt.ex pt.dat pt.fit (by omega) ?_;rw [hsz];exact ⟨.int (dd ns).length,H1,I1.kept (t':=_) k2,⟨_,rfl⟩,q⟩
def aG8:cU X (.type "int") (fun xs H Q=>∃ b:Bool,xs=[.bl b]/\Q (.int (if b then 1 else 0)) H):=by
 intro pins s σ H xs us Q I r h;obtain ⟨b,rfl,q⟩:=h;obtain ⟨u,rfl,ru⟩:=lK r;cases (show u=Value.bool b from ru);exact call_int_bool ⟨.int (if b then 1 else 0),H,I.tok _,⟨_,rfl⟩,q⟩
def tLR (t:TA):TE:=fun σ H Q=>t σ H fun vs H1=>∃ j:Int,vs=[.int j]/\(-(2^62)<=j/\j < 2^62/\j<=16000000)/\∀ p,H1 p=none->Q (.ref p) (upd H1 p (.lst ((List.range j.toNat).map fun (k:Nat)=>V.int k)))
def aG9 {e:Expr} {t:TA} {p p2 pos pos2:Pos} (hc:X.calm=true) (hg:Gl X "list") (hm:X.mg "list"=none) (hg2:Gl X "range") (hm2:X.mg "range"=none) (ha:PA X [e] t)
  (hs:starEach [e] X.env=[(false,eval e X.env)]) :
  PE X (.Call (.Name "list" p) [.Call (.Name "range" p2) [e] [] pos2] [] pos) (tLR t):=by
 intro pins s σ H Q I h;refine wpAny_Call_Name_kw (fU (u:=.type "list") I hg hm (by decide +kernel) ?_ (by decide) (by decide));refine PyProof.Rows.callWith_type1 (zO (by rfl) ?_) rfl rfl;refine wpAny_Call_Name_kw (fU (u:=.type "range") I hg2 hm2 boot_range ?_ (by decide) (by decide));refine PyProof.Rows.callWith_type1 (thn (ha pos2 pins s σ H _ I h) fun us s1 ⟨vs,H1,I1,r1,j,e1,⟨b3,b4,b5⟩,q⟩=>?_) hs rfl;subst e1;obtain ⟨u,rfl,ru⟩:=lK r1;obtain ⟨t2,rfl⟩:=ru;refine call_range_1 ?_;refine call_list_range (n:=j.toNat) (I.ok.hd hc) (IsRange.new ..) (small_one (by decide) (by decide) b3 b4) (by rw [rangeSize_one];split<;>omega) (by omega) fun h' tk acc c' k hS hacc=>?_;rw [Heap.size_push] at hS ⊢;have k1:∀ b o,s1.heap.get? b=some o->h'.get? b=some o:=fun b o e=>k b o (Heap.get?_push_of_some _ e);have sz:s1.heap.objs.size<=s1.heap.objs.size+1:=Nat.le_succ _;refine ⟨.ref (s1.heap.objs.size+1),_,I1.laid (t':=tk) k1 sz ?_,rfl,q _ (I1.hok.fresh sz)⟩;refine ⟨by rw [List.length_map,List.length_range,sizeLine_eq];omega,acc.toList,c',?_,by rw [Array.toArray_toList];exact hS⟩;have gen:∀ (l:List Value) (m:List V),l.length=m.length->(∀ (k:Nat) v,l[k]?=some v->∃ x,m[k]?=some x/\RelV x v)->Vals m l:=by
  intro l;induction l with
  | nil=>intro m hm _;rw [List.length_eq_zero_iff.mp hm.symm];exact .nil
  | cons v l ih =>
   intro m hm hv;cases m with
   | nil=>simp at hm
   | cons x m =>
    obtain ⟨x',e1,e2⟩:=hv 0 v rfl;simp at e1;subst e1;exact .cons e2 (ih m (by simpa using hm) fun k v e=>hv (k+1) v (by simpa using e))
 refine gen _ _ (by simp [hacc.1]) fun k v e=>?_;rw [Array.getElem?_toList] at e;obtain ⟨tk,rfl⟩:=hacc.2 k v e;have hk:k < j.toNat:=by have:=(Array.getElem?_eq_some_iff.mp e).1;rw [hacc.1] at this;exact this
 exact ⟨V.int k,by simp [hk],tk,by simp⟩
end
end L2
namespace DL
open PySem PySem.Spec PyProof.Rows L2 ST
section
variable {X:Cx}
def cW3 (t:DTA):DTE:=fun δ h Q=>t δ h fun ws h1=>∃ xs ns,ws=[.d (.tuple xs)]/\gX xs=some ns/\ns.length<=62/\Q (.d (.int (dd ns).length)) h1
def bJ6 {e:Expr} {t:DTA} {p p2 pos pos2:Pos} (hc:X.calm=true) (hg:Gl X "len") (hm:X.mg "len"=none) (hg2:Gl X "set") (hm2:X.mg "set"=none) (ha:DA X [e] t) (hs:starEach [e] X.env=[(false,eval e X.env)]) :
  DE X (.Call (.Name "len" p) [.Call (.Name "set" p2) [e] [] pos2] [] pos) (cW3 t):=aI (bJ5 hc hg hm hg2 hm2 ha hs) fun σ H Q q=>by
 obtain ⟨δ,h,A,μ,k,R,q,c⟩:=q;refine ⟨δ,h,A,μ,_,R,q,fun ws h1 vs H1 A1 μ1 q1 x1 R1 r1=>?_⟩;obtain ⟨xs,ns,rfl,en,hl,q1⟩:=q1;obtain ⟨v,rfl,rv⟩:=dY r1;obtain ⟨a,vs,rfl,sq,rs⟩:=bE (h:=h1) rv rfl;have ev:=qW en rs;subst ev;exact ⟨a,ns,rfl,sq.sq,hl,c _ h1 _ H1 A1 μ1 q1 x1 R1 (show Rep X.K A1 H1 (.int _) _ by rw [Rep])⟩
noncomputable def aS4:List W->aA->Option (W×aA)
 | [.d (.bool b)],h=>some (.d (.int (if b then 1 else 0)),h)
 | _,_=>none
def aH0:cU X (.type "int") (upC X.K (OfX aS4)):=by
 intro pins s σ H xs us Q I r h;obtain ⟨ws,h,A,μ,k,R,rw',⟨rr,h',e,q⟩,c⟩:=h;unfold aS4 at e;split at e
 ·rename_i h0 b;cases e;obtain ⟨v,rfl,rv⟩:=dY rw';have ev:v=.bl b:=by have z:Rep X.K A H (.bool b) v:=rv;rw [Rep] at z;exact z
  subst ev;exact aG8 pins s σ H _ us Q I r ⟨b,rfl,c _ _ _ _ _ _ q .refl R (show Rep X.K A H (.int _) _ by rw [Rep])⟩
 ·cases e
def dQ3 (t:DTA):DTF:=fun δ h Q=>t δ h fun ws h1=>∃ j:Int,ws=[.d (.int j)]/\(-(2^62)<=j/\j < 2^62/\j<=16000000)/\Q (rng 0 j.toNat) h1
def aH1 {e:Expr} {t:DTA} {p p2 pos pos2:Pos} (hc:X.calm=true) (hg:Gl X "list") (hm:X.mg "list"=none) (hg2:Gl X "range") (hm2:X.mg "range"=none) (ha:DA X [e] t)
  (hs:starEach [e] X.env=[(false,eval e X.env)]):DF X (.Call (.Name "list" p) [.Call (.Name "range" p2) [e] [] pos2] [] pos) (dQ3 t):=aI (aG9 hc hg hm hg2 hm2 ha hs) fun σ H Q q=>by
 obtain ⟨δ,h,A,μ,k,R,q,c⟩:=q;refine ⟨δ,h,A,μ,_,R,q,fun ws h1 vs H1 A1 μ1 q1 x1 R1 r1=>?_⟩;obtain ⟨j,rfl,hb,q1⟩:=q1;obtain ⟨v,rfl,rv⟩:=dY r1;have e1:Rep X.K A1 H1 (.int j) v:=rv;rw [Rep] at e1;subst e1;obtain ⟨ν,e2,_⟩:=x1.pre;have rr:=aR7 (K:=X.K) (A:=A1) (H:=H1) 0 j.toNat;simp only [Int.zero_add] at rr;exact ⟨j,rfl,hb,fun b hf=>c _ h1 _ _ _ μ1 q1 (x1.trans (cC hf)) ⟨ν,e2⟩ (x1.back hf) (dX R1 hf rr)⟩
def dQ4 (to:DTE) (tf:DTF):DTE:=fun δ h Q=>to δ h fun o h1=>match o with
 | .c j=>(match h1[j]? with
  | some (.l _)=>tf δ h1 fun ys h2=>(match h2[j]? with
   | some (.l xs)=>xs.length+ys.length<=sizeLine/\Q (.d .none) (h2.set j (.l (xs++ys)))
   | _=>False)
  | _=>False)
 | _=>False
def cH2 {o e0:Expr} {to:DTE} {tf:DTF} {apos cpos:Pos} (ho:DE X o to) (ha:DF X e0 tf)
  (hbase:attributeBase o "extend" X.env (eval o X.env)=eval o X.env)
  (hfew:((backTo cpos (starEach [e0] X.env)).all (fun x=>!x.1)&&(backToKw cpos (keywordEach [] X.env)).all (fun x=>x.1.isSome)&&decide ([e0].length+([]:List Keyword).length+(if ([]:List Keyword).isEmpty then 0 else 1) < 30))=true)
  (hline:(apos.endLine==cpos.line)=true) (hs:starEach [e0] X.env=(false,eval e0 X.env)::starEach [] X.env) :
  DE X (.Call (.Attribute o "extend" apos) [e0] [] cpos) (dQ4 to tf):=aI (aM7 PySem.F.plainAttrs_list PySem.F.slot_list_extend PySem.F.type_list_extend aD4 ho (iQ ha nG hs) hbase hfew hline hs rfl) fun σ H Q q=>by
 obtain ⟨δ,h,A,μ,k,R,q,c⟩:=q;refine ⟨δ,h,A,μ,_,R,q,fun o h1 vo H1 A1 μ1 q1 x1 R1 r1=>?_⟩;try dsimp only at q1
 split at q1
 ·rename_i j;obtain ⟨a,ea,rfl⟩:=r1;split at q1
  ·rename_i xs1 ex1;obtain ⟨vs1,hv1,_⟩:=R1.val j a xs1 ea ex1;refine ⟨.inl ⟨rfl,_,SqL.of hv1⟩,?_⟩;refine ⟨δ,h1,A1,μ1,_,⟨R1,R.2.ext x1 R.1.sub⟩,q1,fun ys h2 p H2 A2 μ2 q2 x2 hm hp R2=>?_⟩;split at q2
   ·rename_i xs ex;have ea2:μ2[j]?=some a:=by
     obtain ⟨ν,e1⟩:=hm;rw [e1,List.getElem?_append_left (List.getElem?_eq_some_iff.mp ea).1];exact ea
    have hl2:μ2.length=h2.length:=by simpa using R2.1.len
    obtain ⟨vy,hvy,ry⟩:=R2.1.val μ2.length p ys (by simp) (by rw [hl2];simp);obtain ⟨F1,_⟩:=iA R2.1 R2.2;have xf:=jC R1 hp x2 hm;obtain ⟨vx,hvx,rx⟩:=F1.val j a xs ea2 ex;obtain ⟨hz,q2⟩:=q2;have an:∀ b∈A2.filter (fun b=>decide (b≠p)),b∈A2:=fun b z=>(List.mem_filter.mp z).1;have ry':=ry.anti an;refine ⟨a,p,vx,vy,rfl,rfl,hvx,hvy,by rw [rx.length,ry.length];exact hz,?_⟩;have hA:a∈A2.filter (fun b=>decide (b≠p)):=F1.sub a (List.mem_of_getElem? ea2);refine c (.d .none) _ .non (upd H2 a (.lst (vx++vy))) (A2.filter fun b=>decide (b≠p)) μ2 q2 (x1.trans (xf.trans (gE (List.mem_of_getElem? ea2) hvx))) (gL F1 ea2 (ry'.append rx)) ?_;show Rep X.K (A2.filter fun b=>decide (b≠p)) (upd H2 a (.lst (vx++vy))) .none .non;rw [Rep]
   ·exact q2.elim
  ·exact q1.elim
 ·exact q1.elim
end
end DL
namespace DL
open PySem PySem.Spec PyProof.Rows L2
section
variable {X:Cx} {e k:Expr} {p2 pos apos cpos:Pos}
end
def cH3 (d:DSp):DTE:=fun _ h Q=>d [] h fun z h2=>Q (.d z) h2
def aS5 {X:Cx} {x:Str} {p pos:Pos} {d:DSp} {k:Nat} (F:DFn X.prog X.w X.K X.mg X.base k x d) (hr:Room k X.A) (hg:Gl X x) (hdb:(x==("__debug__":Str))=false):DE X (.Call (.Name x p) [] [] pos) (cH3 d):=by
 obtain ⟨f,fd,ps,h1,h2,h3,h4⟩:=F.ok;refine aI (aM2 h1 hr hg h2 h3 h4 .nil aN0 hdb) fun σ H Q q=>?_;obtain ⟨δ,h,A,μ,k,R,q,c⟩:=q;exact ⟨[],h,A,μ,_,R.1,rfl,q,fun z h2 v H2 A2 q2 x2 R2 r2=>c _ h2 v H2 A2 μ q2 x2 R2 r2⟩
end DL
namespace L2
open PySem PySem.Spec PyProof.Rows
section
variable {X:Cx} {pos:Pos}
def cW4 (i j k:Nat) (ta:TA):TS:=fun D σ H=>ta σ H fun vs H1=>∃ u v w,vs=[u,v,w]/\D.nx (((σ.set i (some u)).set j (some v)).set k (some w)) H1
def bJ7 {i j k:Nat} {x y z:Str} {a b c:Expr} {ta:TA} {px py pz pt:Pos} {kt k2 pt2} (hc:X.calm=true) (hN:X.N.Nodup) (hi:X.N[i]?=some x) (hj:X.N[j]?=some y) (hk:X.N[k]?=some z) (hij:i≠j) (hik:i≠k) (hjk:j≠k)
  (hx:X.env.scope.names.lookup x=some .local) (hy:X.env.scope.names.lookup y=some .local) (hz:X.env.scope.names.lookup z=some .local) (ha:PA X [a,b,c] ta)
  (hw:swappedStores [.Tuple [.Name x px,.Name y py,.Name z pz] kt pt] (.Tuple [a,b,c] k2 pt2) X.env=pure (some [x,y,z]))
  (hs:swapsWithSole [.Tuple [.Name x px,.Name y py,.Name z pz] kt pt] (.Tuple [a,b,c] k2 pt2) pos.line X.env=pure false) :
  PS X (.Assign [.Tuple [.Name x px,.Name y py,.Name z pz] kt pt] (.Tuple [a,b,c] k2 pt2) pos) (cW4 i j k ta):=by
 intro pins s σ H D I h;rw [exec_Assign_arm];refine wpAny_bind (wpAny_standAt ?_);rw [hs];refine wpAny_bind (wpAny_pure ?_);rw [if_neg (by decide)];refine wpAny_bind (Tuple_ (thn (ha _ pins s σ H _ I h) fun us s1 ⟨vs,H1,I1,r1,q1⟩=>?_));obtain ⟨u,v,w,e1,q1⟩:=q1;subst e1;obtain ⟨u1,u2,u3,rfl,ru,rv,rw'⟩:∃ u1 u2 u3,us=[u1,u2,u3]/\RelV u u1/\RelV v u2/\RelV w u3:=by
  cases r1 with
  | cons p q =>
   cases q with
   | cons p' q' =>
    cases q' with
    | cons p'' q'' =>
     cases q'';exact ⟨_,_,_,rfl,p,p',p''⟩
 refine wpAny_newObj_type ?_ (by show 3<=sizeLine;decide);have I2:Inv X pins σ H1 { s1 with heap:=s1.heap.push { cls:=.type "tuple",data:=.seq [u1,u2,u3].toArray } }:=I1.kept (t':=s1.toks) fun b o e=>Heap.get?_push_of_some _ e;rw [hw];refine wpAny_bind (wpAny_pure ?_);show wpAny (model X.prog X.w) X.A (do rule "assign.swapped-stores";let items <- unpackItems (.ref s1.heap.objs.size) 3 none;assignInOrder [fun v=>bindName X.env z v,fun v=>bindName X.env y v,fun v=>bindName X.env x v] items.reverse;pure Flow.next) _ _ _;refine wpAny_bind (wpAny_rule (wpAny_bind (unpackItems_tuple (items:=#[u1,u2,u3]) (I.ok.hd hc) (IsTup.new s1.heap _) fun h' hx'=>?_)));have I3:=I2.kept (h':=h') (t':=s1.toks) fun b o e=>hx' b o (Nat.ne_of_lt (Heap.lt_size e)) e;show wpAny _ _ (assignInOrder [fun v=>bindName X.env z v,fun v=>bindName X.env y v,fun v=>bindName X.env x v] [u3,u2,u1] >>= fun _=>pure Flow.next) _ _ _;refine wpAny_bind (assignInOrder_cons (wpAny_bindName (gC I3 hN hk (.inl hz) rw' (fun s2 I4=>?_) (.inr hz))));refine assignInOrder_cons (wpAny_bindName (gC I4 hN hj (.inl hy) rv (fun s3 I5=>?_) (.inr hy)));refine assignInOrder_cons (wpAny_bindName (gC I5 hN hi (.inl hx) ru (fun s4 I6=>assignInOrder_nil (wpAny_pure ?_)) (.inr hx)));have e:((σ.set k (some w)).set j (some v)).set i (some u)=((σ.set i (some u)).set j (some v)).set k (some w):=by
  rw [List.set_comm _ _ (Ne.symm hjk),List.set_comm _ _ (Ne.symm hik),List.set_comm (some v) (some u) (Ne.symm hij)]
 rw [e] at I6;exact ⟨_,H1,I6,q1⟩
end
end L2
namespace DL
open PySem PySem.Spec PyProof.Rows L2
def cW5 (i j k:Nat) (t:DTA):DTS:=fun E δ h=>t δ h fun ws h1=>∃ u v w,ws=[u,v,w]/\E.nx (((δ.set i (some u)).set j (some v)).set k (some w)) h1
def bJ8 {X:Cx} {pos:Pos} {i j k:Nat} {x y z:Str} {a b c:Expr} {t:DTA} {px py pz pt:Pos} {kt k2 pt2} (hc:X.calm=true) (hN:X.N.Nodup) (hi:X.N[i]?=some x) (hj:X.N[j]?=some y) (hk:X.N[k]?=some z) (hij:i≠j) (hik:i≠k) (hjk:j≠k)
  (hx:X.env.scope.names.lookup x=some .local) (hy:X.env.scope.names.lookup y=some .local) (hz:X.env.scope.names.lookup z=some .local) (ha:DA X [a,b,c] t)
  (hw:swappedStores [.Tuple [.Name x px,.Name y py,.Name z pz] kt pt] (.Tuple [a,b,c] k2 pt2) X.env=pure (some [x,y,z]))
  (hs:swapsWithSole [.Tuple [.Name x px,.Name y py,.Name z pz] kt pt] (.Tuple [a,b,c] k2 pt2) pos.line X.env=pure false) :
  DS X (.Assign [.Tuple [.Name x px,.Name y py,.Name z pz] kt pt] (.Tuple [a,b,c] k2 pt2) pos) (cW5 i j k t) :=
 bN (bJ7 hc hN hi hj hk hij hik hjk hx hy hz ha hw hs) fun D σ H q=>by
  obtain ⟨δ,h,A,μ,E,R,q,L⟩:=q;refine ⟨δ,h,A,μ,_,R,q,fun ws h1 vs H1 A1 μ1 q1 x1 R1 r1=>?_⟩;obtain ⟨u,v,w,rfl,q2⟩:=q1;obtain ⟨u',_,rfl,ru,v',_,rfl,rv,w',_,rfl,rw',rfl⟩:=r1;exact ⟨u',v',w',rfl,L.nx _ h1 _ H1 A1 μ1 q2 x1 ⟨R1,(((R.2.ext x1 R.1.sub).set i ru).set j rv).set k rw'⟩⟩
end DL
namespace CI
open PySem PySem.Spec PyProof.Rows L2 DL ST
abbrev XR (α:Type):=DSt->aA->Option (α×aA)
set_option genInjectivity true in
inductive Fl where
 | nx (δ:DSt) | rt (w:W) | bk (δ:DSt) | ct (δ:DSt)
abbrev XS:=DSt->aA->Option (Fl×aA)
abbrev XG:=W->DSt->aA->Option (DSt×aA)
abbrev XF:=List W->aA->Option (PyData×aA)
abbrev XFW:=List W->aA->Option (W×aA)
structure ObS where
 fnW:Str->Option XFW
 cls:Str->Option (Addr×XFW)
 om:Str->Option (Addr×XFW)
 fo:Addr->Str->Bool
noncomputable def xno {α:Type}:XR α:=fun _ _=>none
noncomputable def aE {α:Type} (a:α):XR α:=fun _ h=>some (a,h)
noncomputable def xb {α β:Type} (x:XR α) (f:α->XR β):XR β:=fun δ h=>(x δ h).bind fun p=>f p.1 δ p.2
structure Sta where
 bl:List Str
 gc:Str->Option PyData
 tk:Str->Option (Str->Option Int)
 fn:Str->Option XF
 ac:Str->List Nat
 cv:List Str
 N:List Str
 S:Scope
 top:Bool
 fuel:Nat
 ob:ObS
structure Evs where
 E:Sta->Expr->XR W
 T:Sta->Expr->XR Bool
 F:Sta->Expr->XR (List PyData)
 G:Sta->Expr->XG
 S:Sta->Stmt->XS
noncomputable def Evs.no:Evs:=⟨fun _ _=>xno,fun _ _=>xno,fun _ _=>xno,fun _ _ _ _ _=>none,fun _ _ _ _=>none⟩
noncomputable def fY (x:Str):Bool:=!(x==("__debug__":Str))&&(!(x==("__classdict__":Str))&&!(x==("__name__":Str)))
noncomputable def cH4 (S:Scope) (x:Str):Bool:=match S.names.lookup x with
 | some .local=>true
 | some .cell=>true
 | some .free=>true
 | _=>false
noncomputable def xS (S:Scope) (x:Str):Bool:=match S.names.lookup x with
 | some .local=>true
 | some .cell=>true
 | _=>false
noncomputable def dF (S:Scope) (x:Str):Bool:=match S.names.lookup x with
 | some .local=>true
 | _=>false
noncomputable def glB (S:Scope) (x:Str):Bool:=match S.names.lookup x with
 | some .globalImplicit=>true
 | _=>false
noncomputable def slot (st:Sta) (x:Str):Option Nat:=st.N.findIdx? (·==x)
noncomputable def aB (i:Nat):XR W:=fun δ h=>match δ[i]? with
 | some (some w)=>some (w,h)
 | _=>none
noncomputable def oD (st:Sta) (x:Str):Bool:=fY x&&glB st.S x
noncomputable def aS6 (st:Sta) (x:Str):XR W:=if fY x=true then
  (match slot st x with
   | some i=>if cH4 st.S x=true then aB i else xno
   | none=>(match st.gc x with
    | some d=>if glB st.S x=true then aE (.d d) else xno
    | none=>xno))
 else xno
noncomputable def aS7:Const->XR W
 | .none=>aE (.d .none)
 | .bool b=>aE (.d (.bool b))
 | .int i=>aE (.d (.int i))
 | .str x=>if PyData.strOk x=true then aE (.d (.str x)) else xno
 | _=>xno
mutual
noncomputable def aT:Nat->PyData->Bool
 | _,.none=>true
 | _,.bool _=>true
 | _,.int _=>true
 | _,.str _=>true
 | n+1,.list xs=>plainsB n xs
 | n+1,.tuple xs=>plainsB n xs
 | _,_=>false
noncomputable def plainsB:Nat->List PyData->Bool
 | _,[]=>true
 | n,x::xs=>aT n x&&plainsB n xs
end
noncomputable def gZ (i j:Int):Bool:=(decide (-(2^64) < i)&&decide (i < 2^64))||(decide (-(2^64) < j)&&decide (j < 2^64))
noncomputable def aX (j:Int):Bool:=decide (0 < j)&&(decide (j < 1073741824)||decide (j.natAbs.log2 < 8000))
noncomputable def vJ (i j:Int):Bool:=decide (0<=j)&&(decide (j<=1000000)&&decide (i.natAbs < 2^64))
noncomputable def bJ9 (u w:W) (h:aA):Option (W×aA):=match u,w with
 | .d (.int i),.d (.int j)=>some (.d (.int (i+j)),h)
 | .d (.tuple xs),.d (.tuple ys)=>if xs.length+ys.length<=sizeLine then some (.d (.tuple (xs++ys)),h) else none
 | _,_=>(match ref h u,ref h w with
  | some (.list xs),some (.list ys)=>if xs.length+ys.length<=sizeLine then some (.d (.list (xs++ys)),h) else none
  | _,_=>none)
noncomputable def cH5 (u w:W) (h:aA):Option (W×aA):=match u,w with
 | .d (.int i),.d (.int j)=>if gZ i j=true then some (.d (.int (i*j)),h) else none
 | .d (.tuple xs),.d (.int k)=>if k=1 then some (.d (.tuple xs),h) else if xs≠[]/\1 < k/\k < 2^63/\xs.length*k.toNat<=sizeLine then some (.d (.tuple (List.replicate k.toNat xs).flatten),h) else none
 | _,_=>none
noncomputable def dU (op:Operator) (u w:W) (h:aA):Option (W×aA):=match op with
 | .Add=>bJ9 u w h
 | .Mult=>cH5 u w h
 | _=>(match u,w with
  | .d (.int i),.d (.int j)=>(match op with
   | .Sub=>some (.d (.int (i - j)),h)
   | .FloorDiv=>if aX j=true then some (.d (.int (i / j)),h) else none
   | .Mod=>if 0 < j then some (.d (.int (i%j)),h) else none
   | .Pow=>if vJ i j=true then some (.d (.int (i^j.toNat)),h) else none
   | .RShift=>if 0<=j then some (.d (.int (i / 2^j.toNat)),h) else none
   | .BitAnd=>some (.d (.int (Builtin.bitAnd i j)),h)
   | _=>none)
  | _,_=>none)
noncomputable def aS8:CmpOp->Option (Int->Int->Bool)
 | .Lt=>some fun i j=>decide (i < j)
 | .LtE=>some fun i j=>decide (i<=j)
 | .Gt=>some fun i j=>decide (j < i)
 | .GtE=>some fun i j=>decide (j<=i)
 | _=>none
noncomputable def xEq (u w:W) (h:aA):Option Bool:=match ref h u,ref h w with
 | some a,some b=>if (aT 64 a&&aT 64 b)=true then some (PyData.eqv a b) else none
 | _,_=>none
noncomputable def xIs (u w:W):Option Bool:=match u,w with
 | .d a,.d b=>DL.isSame a b
 | _,_=>none
noncomputable def xIn (u w:W) (h:aA):Option Bool:=match ref h u,ref h w with
 | some d,some (.list xs)=>if (aT 64 (.list xs)&&aT 64 d)=true then some (xs.any fun z=>PyData.eqv z d) else none
 | some d,some (.tuple xs)=>if (aT 64 (.tuple xs)&&aT 64 d)=true then some (xs.any fun z=>PyData.eqv z d) else none
 | some d,some (.dict kvs)=>(match bF d with
  | some k=>some (kvs.any fun p=>decide (bF p.1=some k))
  | none=>none)
 | _,_=>none
noncomputable def cO (op:CmpOp) (u w:W) (h:aA):Option (Bool×aA):=match op with
 | .Eq=>(xEq u w h).map fun b=>(b,h)
 | .NotEq=>(xEq u w h).map fun b=>(!b,h)
 | .Is=>(xIs u w).map fun b=>(b,h)
 | .IsNot=>(xIs u w).map fun b=>(!b,h)
 | .In=>(xIn u w h).map fun b=>(b,h)
 | .NotIn=>(xIn u w h).map fun b=>(!b,h)
 | _=>(match u,w with
  | .d (.int i),.d (.int j)=>(aS8 op).map fun p=>(p i j,h)
  | _,_=>none)
noncomputable def asW (p:Bool×aA):W×aA:=(.d (.bool p.1),p.2)
noncomputable def xIx (u w:W) (h:aA):Option (W×aA):=match ref h u,w with
 | some (.list xs),.d (.int i)=>(atI xs i).map fun v=>(.d v,h)
 | some (.tuple xs),.d (.int i)=>(atI xs i).map fun v=>(.d v,h)
 | some (.dict kvs),.d d=>(match bF d with
  | some k=>(kvs.find? fun p=>decide (bF p.1=some k)).map fun p=>(.d p.2,h)
  | none=>none)
 | _,_=>none
noncomputable def xSl (u:W) (lo hi:Option Int) (h:aA):Option (W×aA):=match u with
 | .d (.tuple xs)=>some (.d (.tuple (cut xs lo hi)),h)
 | _=>(match ref h u with
  | some (.list xs)=>some (.d (.list (cut xs lo hi)),h)
  | _=>none)
noncomputable def cA:List W->aA->Option (W×aA)
 | [w],h=>(match ref h w with
  | some (.list xs)=>some (.d (.int xs.length),h)
  | some (.tuple xs)=>some (.d (.int xs.length),h)
  | _=>none)
 | _,_=>none
noncomputable def cQ:List W->aA->Option (W×aA)
 | [w],h=>(match ref h w with
  | some (.list xs)=>some (.d (.tuple xs),h)
  | some (.tuple xs)=>some (.d (.tuple xs),h)
  | _=>none)
 | _,_=>none
noncomputable def jW:List W->aA->Option (W×aA)
 | [w],h=>(match ref h w with
  | some (.list xs)=>(dH xs).map fun bs=>(.d (.bool (bs.all id)),h)
  | _=>none)
 | _,_=>none
noncomputable def cH6 (x:Str):Option (List W->aA->Option (W×aA)) :=
 if x="len" then some cA else if x="tuple" then some cQ else if x="all" then some jW else if x="int" then some aS4 else none
noncomputable def cH7 (T:Str):Option String :=
 if T="int" then some "int" else if T="bool" then some "bool" else if T="str" then some "str" else if T="tuple" then some "tuple" else if T="list" then some "list" else none
mutual
noncomputable def peq:PyData->PyData->Bool
 | .none,.none=>true
 | .bool a,.bool b=>a==b
 | .int a,.int b=>a==b
 | .str a,.str b=>a==b
 | .list a,.list b=>peqs a b
 | .tuple a,.tuple b=>peqs a b
 | _,_=>false
noncomputable def peqs:List PyData->List PyData->Bool
 | [],[]=>true
 | x::a,y::b=>peq x y&&peqs a b
 | _,_=>false
end
noncomputable def oE:Option Nat->List PyData->aA->Bool
 | none,_,_=>true
 | some i,xs,h=>(match h[i]? with
  | some (.l ys)=>peqs ys xs
  | _=>false)
noncomputable def cW (g:XG) (tb:XS) (c:Option Nat) (all:List PyData):List PyData->DSt->aA->Option (Fl×aA)
 | [],δ,h=>if oE c all h=true then some (.nx δ,h) else none
 | x::r,δ,h=>if oE c all h=true then
   (g (.d x) δ h).bind fun p=>(tb p.1 p.2).bind fun q=>(match q.1 with
    | .nx δ'=>cW g tb c all r δ' q.2
    | .ct δ'=>cW g tb c all r δ' q.2
    | .bk δ'=>some (.nx δ',q.2)
    | .rt w=>some (.rt w,q.2))
  else none
noncomputable def aV (g:XG) (tt:XR Bool) (te:XR W) (c:Option Nat) (all:List PyData):List PyData->DSt->aA->List PyData->Option (List PyData×aA)
 | [],_,h,ac=>if oE c all h=true then some (ac,h) else none
 | x::r,δ,h,ac=>if oE c all h=true then
   (g (.d x) δ h).bind fun p=>(tt p.1 p.2).bind fun q=>if q.1=true then
     (te p.1 q.2).bind fun y=>(match y.1 with
      | .d z=>aV g tt te c all r p.1 y.2 (ac++[z])
      | _=>none)
    else aV g tt te c all r p.1 q.2 ac
  else none
noncomputable def aN:Expr->Bool
 | .Starred _ _=>false
 | _=>true
noncomputable def cX (x:XR (List PyData)):XR W:=fun δ h=>(x δ h).bind fun p=>some (.c p.2.length,p.2++[.l p.1])
noncomputable def aQ (x:XR (List PyData)):XR W:=fun δ h=>(x δ h).bind fun p=>some (.d (.list p.1),p.2)
noncomputable def rA (f:Str->Option Int) (x:XR W):XR Bool:=xb x fun w=>(match w with
 | .d (.str s)=>aE (!(f s).isSome)
 | .d .none=>aE true
 | _=>xno)
noncomputable def xC1 (op:CmpOp) (x y:XR W):XR Bool:=xb x fun u=>xb y fun w=>fun _ h=>cO op u w h
noncomputable def xC2 (op op':CmpOp) (x y z:XR W):XR Bool:=xb x fun u=>xb y fun w=>fun δ h=>(cO op u w h).bind fun p=>if p.1=true then (z δ p.2).bind fun q=>cO op' w q.1 q.2 else some (false,p.2)
noncomputable def xC3 (op op' op'':CmpOp) (x y z t:XR W):XR Bool:=xb x fun u=>xb y fun w=>fun δ h=>(cO op u w h).bind fun p =>
 if p.1=true then (z δ p.2).bind fun q=>(cO op' w q.1 q.2).bind fun p'=>if p'.1=true then (t δ p'.2).bind fun q'=>cO op'' q.1 q'.1 q'.2 else some (false,p'.2) else some (false,p.2)
noncomputable def cI (x:XR Bool):XR W:=fun δ h=>(x δ h).map asW
noncomputable def tD:List XG->List PyData->DSt->aA->Option (DSt×aA)
 | [],[],δ,h=>some (δ,h)
 | g::gs,x::xs,δ,h=>(g (.d x) δ h).bind fun p=>tD gs xs p.1 p.2
 | _,_,_,_=>none
noncomputable def jA (gs:List XG):XG:=fun w δ h=>(match w with
 | .d (.tuple xs)=>tD gs xs δ h
 | _=>none)
section
variable (v:Evs) (st:Sta)
noncomputable def dW:List Expr->XR (List W)
 | []=>aE []
 | e::es=>if aN e=true then xb (v.E st e) fun w=>xb (dW es) fun ws=>aE (w::ws) else xno
noncomputable def dQ5:Expr->Bool
 | .Name _ _=>true
 | _=>false
noncomputable def aH2:Option Expr->XR (Option Int)
 | none=>aE none
 | some e=>xb (v.E st e) fun w=>(match w with
  | .d (.int i)=>aE (some i)
  | _=>xno)
noncomputable def aS9:List Expr->XR W
 | []=>xno
 | [a]=>v.E st a
 | a::b::r=>xb (v.E st a) fun w=>(match w with
  | .d (.bool true)=>aS9 (b::r)
  | .d (.bool false)=>aE (.d (.bool false))
  | _=>xno)
noncomputable def cH8:List Expr->XR W
 | []=>xno
 | [a]=>v.E st a
 | a::b::r=>xb (v.E st a) fun w=>(match w with
  | .d (.bool true)=>aE (.d (.bool true))
  | .d (.bool false)=>cH8 (b::r)
  | _=>xno)
noncomputable def aT1:List Expr->XR Bool
 | []=>xno
 | [a]=>v.T st a
 | a::b::r=>xb (v.T st a) fun c=>if c=true then aT1 (b::r) else aE false
noncomputable def cH9:List Expr->XR Bool
 | []=>xno
 | [a]=>v.T st a
 | a::b::r=>xb (v.T st a) fun c=>if c=true then aE true else cH9 (b::r)
noncomputable def lR:Expr->Option (Str->Option Int)
 | .Name x _=>if oD st x&&(slot st x).isNone then st.tk x else none
 | _=>none
noncomputable def jX (a:Expr) (ops:List CmpOp) (cs:List Expr):XR Bool:=match ops,cs with
 | [op],[b]=>(match lR st b with
  | some f=>if op=.NotIn then rA f (v.E st a) else xno
  | none=>if behindInMarks op b=true then xno else xC1 op (v.E st a) (v.E st b))
 | [op,op'],[b,c]=>if lastMarks [op,op'] [b,c]=true then xno else xC2 op op' (v.E st a) (v.E st b) (v.E st c)
 | _,_=>xno
noncomputable def kY (a:Expr) (ops:List CmpOp) (cs:List Expr):XR Bool:=match ops,cs with
 | [op,op',op''],[b,c,d]=>if lastMarks [op,op',op''] [b,c,d]=true then xno else xC3 op op' op'' (v.E st a) (v.E st b) (v.E st c) (v.E st d)
 | _,_=>jX v st a ops cs
noncomputable def iW (i j:Int):Bool:=decide (j - i<=16000000)&&(decide (-(2^62)<=i)&&(decide (i < 2^62)&&(decide (-(2^62)<=j)&&decide (j < 2^62))))
noncomputable def cJ (x:XR W):XR (List PyData×Option Nat):=xb x fun w=>fun _ h=>(match w with
 | .d (.list xs)=>some ((xs,none),h)
 | .d (.tuple xs)=>some ((xs,none),h)
 | .c i=>(match h[i]? with
  | some (.l xs)=>some ((xs,some i),h)
  | _=>none)
 | _=>none)
noncomputable def rB:Expr->Bool
 | .Set _ _ _=>true
 | _=>false
noncomputable def aT2:Expr->Bool
 | .Tuple _ _ _=>true
 | _=>false
noncomputable def vK (tg e:Expr):XR (List PyData×Option Nat):=match e with
 | .Call (.Name x _) [a] [] _=>if x="range" then (if oD st x&&(slot st x).isNone&&st.bl.contains x&&aN a then xb (v.E st a) fun w=>fun _ h=>(match w with
   | .d (.int j)=>if iW 0 j=true then some ((rng 0 j.toNat,none),h) else none
   | _=>none) else xno)
  else cJ (v.E st e)
 | .Call (.Name x _) [a,b] [] _=>if x="range" then (if oD st x&&(slot st x).isNone&&st.bl.contains x&&aN a&&aN b then xb (v.E st a) fun u=>xb (v.E st b) fun w=>fun _ h=>(match u,w with
   | .d (.int i),.d (.int j)=>if iW i j=true then some ((rng i (j - i).toNat,none),h) else none
   | _,_=>none) else xno)
  else if x="zip" then (if oD st x&&(slot st x).isNone&&st.bl.contains x&&aN a&&aN b&&aT2 tg then xb (v.E st a) fun u=>xb (v.E st b) fun w=>fun _ h=>(match mE u,mE w with
   | some xs,some ys=>some ((oA xs ys,none),h)
   | _,_=>none) else xno)
  else cJ (v.E st e)
 | _=>if rB e=true then xno else cJ (v.E st e)
noncomputable def xT (sc:Scope):List Str:=(sc.names.filter fun p=>(p.2==.local||p.2==.free)&&!(p.1==(".0":Str))).map (·.1)
noncomputable def vL (N:List Str) (sc:Scope):List (Option Nat):=(xT sc).map fun x=>if sc.names.lookup x=some .free then N.findIdx? (·==x) else none
noncomputable def cI0 (sc S:Scope):Scope:={ sc with names:=sc.names.map fun (n,k)=>if (k==.free&&S.kind==.function&&S.names.lookup n==some .cell) then (n,.cell) else (n,k) }
noncomputable def zP (N:List Str) (sc S:Scope):Bool :=
 decide (sc.kind=.function)&&((sc.names.all fun y=>!(y.2==.cell))&&((sc.names.all fun y=>!(y.2==.local)||(sc.names.lookup y.1==some .local)) &&
  ((sc.names.all fun y=>!(y.2==.free)||(S.names.lookup y.1==some .cell||S.names.lookup y.1==some .free))&&(decide (xT sc).Nodup &&
   (((vL N sc).zip (xT sc)).all fun p=>match p.1 with
    | none=>true
    | some i=>decide (N[i]?=some p.2)&&decide (sc.names.lookup p.2=some NameKind.free))))))
noncomputable def Sta.blk (sc:Scope):Sta:={ st with N:=xT sc,S:=cI0 sc st.S,top:=false }
noncomputable def cW6:List Expr->XR Bool
 | []=>aE true
 | [c]=>v.T st c
 | _=>xno
noncomputable def rC (elt tg iter:Expr) (ifs:List Expr) (sc:Scope):XR (List PyData) :=
 if zP st.N sc st.S&&!rB iter then xb (vK v st tg iter) fun p=>fun δ h=>aV (v.G (st.blk sc) tg) (cW6 v (st.blk sc) ifs) (v.E (st.blk sc) elt) p.2 p.1 p.1 (bS (vL st.N sc) δ) h [] else xno
noncomputable def xPl (x:XR (List W)):XR (List PyData):=xb x fun ws=>fun _ h=>(match dQ ws with
 | some xs=>if xs.length<=sizeLine then some (xs,h) else none
 | none=>none)
noncomputable def rgA:List Expr->Option Expr
 | [.Call (.Name y _) [b] [] _]=>if y="range" then some b else none
 | _=>none
noncomputable def okC (x:Str):Bool:=oD st x&&(slot st x).isNone&&st.bl.contains x
noncomputable def eV (e:Expr):XR (List PyData):=match e with
 | .List es _=>xPl (dW v st es)
 | .ListComp elt [⟨tg,iter,ifs,a⟩] sc _=>if a=0 then rC v st elt tg iter ifs sc else xno
 | .Subscript a (.Slice lo hi none _) _=>xb (v.E st a) fun x=>xb (aH2 v st lo) fun l=>xb (aH2 v st hi) fun u=>fun _ h=>(match ref h x with
  | some (.list xs)=>some (cut xs l u,h)
  | _=>none)
 | .BinOp a .Add b _=>xb (v.E st a) fun u=>xb (v.E st b) fun w=>fun _ h=>(match ref h u,ref h w with
  | some (.list xs),some (.list ys)=>if xs.length+ys.length<=sizeLine then some (xs++ys,h) else none
  | _,_=>none)
 | .BinOp (.List es p) .Mult b _=>xb (cX (xPl (dW v st es))) fun u=>xb (v.E st b) fun w=>fun _ h=>(match u,w with
  | .c i,.d (.int k)=>(match h[i]? with
   | some (.l xs)=>if -(2^63)<=k/\k < 2^63/\xs.length*k.toNat<=sizeLine then some ((List.replicate k.toNat xs).flatten,h) else none
   | _=>none)
  | _,_=>none)
 | .Call (.Name x _) (a::es) [] _=>if x="list" then (match rgA (a::es) with
  | some b=>if okC st x&&okC st "range"&&aN b then xb (dW v st [b]) fun ws=>fun _ h=>(match ws with
   | [.d (.int j)]=>if -(2^62)<=j/\j < 2^62/\j<=16000000 then some (rng 0 j.toNat,h) else none
   | _=>none) else xno
  | none=>if oD st x&&(slot st x).isNone&&st.bl.contains x then xb (dW v st (a::es)) fun ws=>fun _ h=>(match ws with
  | [w]=>(match ref h w with
   | some (.list xs)=>some (xs,h)
   | some (.tuple xs)=>some (xs,h)
   | _=>none)
  | _=>none) else xno) else xno
 | _=>xno
noncomputable def bK0:Expr->Bool
 | .Slice _ _ _ _=>true
 | _=>false
noncomputable def oF:Expr->Bool
 | .Call _ _ _ _=>false
 | _=>true
noncomputable def cI1 (m:Str):Option (W->List W->aA->Option (W×aA)) :=
 if m="append" then some fun o ws h=>(match o,ws with
  | .c j,[.d x]=>(match h[j]? with
   | some (.l xs)=>if xs.length < sizeLine then some (.d .none,h.set j (.l (xs++[x]))) else none
   | _=>none)
  | _,_=>none)
 else none
noncomputable def pQ (m:Str) (w:W) (h:aA):Bool:=if m="append" then (match w with
  | .c j=>(match h[j]? with
   | some (.l _)=>true
   | _=>false)
  | _=>false) else true
noncomputable def bU0 (o:Expr) (m:Str) (g:W->List W->aA->Option (W×aA)) (args:List Expr):XR W:=xb (v.E st o) fun w=>fun δ h=>if pQ m w h=true then (dW v st args δ h).bind fun p=>g w p.1 p.2 else none
noncomputable def aT3 (j:Nat) (ws:List W) (h:aA):Option (W×aA):=match ws,h[j]? with
 | [.d (.int i)],some (.l xs)=>(ixN xs.length i).bind fun n=>(xs[n]?).bind fun x=>if -(2^63)<=i/\i < 2^63 then some (.d x,h.set j (.l (xs.eraseIdx n))) else none
 | _,_=>none
noncomputable def cW7 (o a:Expr):XR W:=xb (v.E st o) fun w=>fun δ h=>match w with
 | .c j=>(match h[j]? with
  | some (.l _)=>(dW v st [a] δ h).bind fun p=>aT3 j p.1 p.2
  | _=>none)
 | _=>none
noncomputable def cW8 (o a:Expr):XR W:=xb (v.E st o) fun w=>fun δ h=>match w with
 | .c j=>(match h[j]? with
  | some (.l _)=>(v.F st a δ h).bind fun p=>(match p.2[j]? with
   | some (.l xs)=>if xs.length+p.1.length<=sizeLine then some (.d .none,p.2.set j (.l (xs++p.1))) else none
   | _=>none)
  | _=>none)
 | _=>none
noncomputable def zQ (f:Expr) (args:List Expr) (pos:Pos):XR W:=match f with
 | .Name x _=>if oD st x&&(slot st x).isNone then
   (match st.ob.fnW x with
   | some m=>(match args with
     | []=>xno
     | _::_=>xb (dW v st args) fun ws=>fun _ h=>m ws h)
   | none=>match st.fn x with
    | some m=>(match args with
     | []=>fun _ h=>(m [] h).bind fun p=>some (.d p.1,p.2)
     | _::_=>xb (dW v st args) fun ws=>fun _ h=>(m ws h).bind fun p=>some (.d p.1,p.2))
    | none=>if st.bl.contains x then
      (match cH6 x with
       | some g=>(match args with
        | []=>xno
        | _::_=>xb (dW v st args) fun ws=>fun _ h=>g ws h)
       | none=>if x="isinstance" then
         (match args with
          | [e,.Name T _]=>if aN e&&oD st T&&(slot st T).isNone&&st.bl.contains T then (match cH7 T with
            | some Ts=>xb (v.E st e) fun w=>fun _ h=>(ref h w).bind fun d=>some (.d (.bool (isi d Ts)),h)
            | none=>xno) else xno
          | _=>xno)
        else aQ (eV v st (.Call f args [] pos)))
     else xno)
   else xno
 | .Attribute o m apos=>if oF o&&(apos.endLine==pos.line) then
   (match args with
    | []=>xno
    | a::es=>if m="pop" then (match es with
      | []=>if aN a=true then cW7 v st o a else xno
      | _=>xno)
     else if m="extend" then (match es with
      | []=>if aN a=true then cW8 v st o a else xno
      | _=>xno)
     else if decide (args.length < 29) then (match cI1 m with
     | some g=>bU0 v st o m g args
     | none=>xno) else xno)
   else xno
 | _=>xno
noncomputable def xLS:List W->aA->Option (W×aA)
 | [.d (.tuple xs)],h=>(match gX xs with
  | some ns=>if ns.length<=62 then some (.d (.int (ST.dd ns).length),h) else none
  | none=>none)
 | _,_=>none
noncomputable def okB (x:Str):Bool:=oD st x&&(slot st x).isNone&&st.bl.contains x&&(st.fn x).isNone
noncomputable def aT4 (f:Expr) (args:List Expr) (pos:Pos):XR W:=match f,args with
 | .Name x _,[.Call (.Name y _) as [] _]=>if x="len"/\y="set" then (match as with
   | [a]=>if okB st x&&okB st y&&aN a then xb (dW v st [a]) fun ws=>fun _ h=>xLS ws h else xno
   | _=>xno)
  else zQ v st f args pos
 | _,_=>zQ v st f args pos
noncomputable def lS (e:Expr):XR W:=match e with
 | .Name x _=>aS6 st x
 | .Constant c _ _=>aS7 c
 | .BinOp a op b _=>(match a,op with
  | .List es p,.Mult=>aQ (eV v st (.BinOp (.List es p) .Mult b p))
  | _,_=>xb (v.E st a) fun u=>xb (v.E st b) fun w=>fun _ h=>dU op u w h)
 | .Compare a ops cs _=>cI (kY v st a ops cs)
 | .BoolOp .And vs _=>aS9 v st vs
 | .BoolOp .Or vs _=>cH8 v st vs
 | .UnaryOp .Not a _=>xb (v.E st a) fun w=>(match w with
  | .d (.bool b)=>aE (.d (.bool (!b)))
  | _=>xno)
 | .UnaryOp .USub a _=>xb (v.E st a) fun w=>(match w with
  | .d (.int i)=>aE (.d (.int (-i)))
  | _=>xno)
 | .IfExp c a b _=>xb (v.T st c) fun t=>if t=true then v.E st a else v.E st b
 | .Tuple es _ _=>xb (xPl (dW v st es)) fun xs=>aE (.d (.tuple xs))
 | .List es p=>aQ (eV v st (.List es p))
 | .ListComp elt gs sc p=>aQ (eV v st (.ListComp elt gs sc p))
 | .Subscript a s _=>(match s with
  | .Slice lo hi none _=>xb (v.E st a) fun x=>xb (aH2 v st lo) fun l=>xb (aH2 v st hi) fun u=>fun _ h=>xSl x l u h
  | _=>if bK0 s=true then xno else (match lR st a with
   | some f=>xb (v.E st s) fun w=>(match w with
    | .d (.str z)=>(match f z with
     | some i=>aE (.d (.int i))
     | none=>xno)
    | _=>xno)
   | none=>xb (v.E st a) fun x=>xb (v.E st s) fun y=>fun _ h=>xIx x y h))
 | .Call f args [] p=>aT4 v st f args p
 | .Dict [] [] _=>aE (.d (.dict []))
 | _=>xno
noncomputable def aT5 (e:Expr):XR Bool:=match e with
 | .UnaryOp .Not a _=>xb (v.T st a) fun b=>aE (!b)
 | .BoolOp .And vs _=>aT1 v st vs
 | .BoolOp .Or vs _=>cH9 v st vs
 | .Compare a ops cs _=>jX v st a ops cs
 | .IfExp _ _ _ _=>xno
 | _=>xb (v.E st e) fun w=>(match w with
  | .d (.bool b)=>aE b
  | _=>xno)
noncomputable def aT6:List Expr->List XG
 | []=>[]
 | e::es=>v.G st e::aT6 es
noncomputable def cW9 (es:List Expr) (xs:List PyData) (δ:DSt) (h:aA):Option (DSt×aA):=tD (aT6 v st es) xs δ h
noncomputable def vM (e:Expr):XG:=match e with
 | .Name x _=>(match slot st x with
  | some i=>if xS st.S x&&(st.top||dF st.S x) then fun w δ h=>some (δ.set i (some w),h) else fun _ _ _=>none
  | none=>fun _ _ _=>none)
 | .Tuple es _ _=>if es.all aN=true then jA (aT6 v st es) else fun _ _ _=>none
 | .Subscript o i _=>if bK0 i=true then fun _ _ _=>none else fun w δ h=>(v.E st o δ h).bind fun p=>(v.E st i δ p.2).bind fun q=>(match p.1,q.1,w with
  | .c j,.d y,.d x=>(match q.2[j]?,y with
   | some (.l xs),.int k=>(ixN xs.length k).map fun n=>(δ,q.2.set j (.l (xs.set n x)))
   | some (.k kvs),_=>if (bF y).isSome=true/\kvs.length < sizeLine then some (δ,q.2.set j (.k (sV kvs y x))) else none
   | _,_=>none)
  | _,_,_=>none)
 | _=>fun _ _ _=>none
noncomputable def kZ:Expr->Bool
 | .ListComp _ _ _ _=>true
 | .SetComp _ _ _ _=>true
 | .DictComp _ _ _ _ _=>true
 | _=>false
noncomputable def bK1 (e tg:Expr):Bool:=aT2 e&&(match tg with
 | .Tuple _ _ _=>true
 | .List _ _=>true
 | _=>false)
noncomputable def xSs:List Stmt->XS
 | [],δ,h=>some (.nx δ,h)
 | s::r,δ,h=>(v.S st s δ h).bind fun p=>(match p.1 with
  | .nx δ'=>xSs r δ' p.2
  | f=>some (f,p.2))
noncomputable def cX0:Expr->Bool
 | .Dict [] [] _=>true
 | _=>false
noncomputable def aT7:XR W:=fun _ h=>some (.c h.length,h++[.k []])
noncomputable def aW (i:Nat) (x:XR W):XS:=fun δ h=>(x δ h).bind fun p=>some (.nx (δ.set i (some p.1)),p.2)
noncomputable def swB (e:Expr) (x:Str) (px:Pos):Bool:=match e with
 | .ListComp _ _ sc p=>dF st.S x&&(px.line==p.line)&&!(sc.names.any fun (n,k)=>n==x&&(k==.local||k==.cell))
 | _=>false
noncomputable def cX1 (x y z:Str) (px py pz:Pos) (a b c:Expr):Bool:=dF st.S x&&(dF st.S y&&(dF st.S z&&((py.line==px.line)&&((pz.line==px.line)&&(!(x==y)&&(!(x==z)&&(!(y==z)&&(aN a&&(aN b&&(aN c&&(!([a,b,c].all (foldedForSure 8))&&!([a,b,c].all (constantsAlone 8)))))))))))))
noncomputable def bK2 (tg e:Expr):XS:=match tg,e with
 | .Tuple [.Name x px,.Name y py,.Name z pz] _ _,.Tuple [a,b,c] _ _=>(match slot st x,slot st y,slot st z with
  | some i,some j,some k=>if cX1 st x y z px py pz a b c=true then fun δ h=>(dW v st [a,b,c] δ h).bind fun p=>(match p.1 with
    | [u,v,w]=>some (.nx (((δ.set i (some u)).set j (some v)).set k (some w)),p.2)
    | _=>none) else fun _ _=>none
  | _,_,_=>fun _ _=>none)
 | _,_=>fun _ _=>none
noncomputable def oG (s:Stmt):XS:=match s with
 | .Return (some e) _=>fun δ h=>(v.E st e δ h).bind fun p=>some (.rt p.1,p.2)
 | .If c a b _=>fun δ h=>(v.T st c δ h).bind fun p=>if p.1=true then xSs v st a δ p.2 else xSs v st b δ p.2
 | .Expr e _=>if kZ e=true then fun _ _=>none else fun δ h=>(v.E st e δ h).bind fun p=>some (.nx δ,p.2)
 | .Pass _=>fun δ h=>some (.nx δ,h)
 | .Break _=>fun δ h=>some (.bk δ,h)
 | .Continue _=>fun δ h=>some (.ct δ,h)
 | .For tg iter body [] _=>if rB iter=true then fun _ _=>none else fun δ h=>(vK v st tg iter δ h).bind fun p=>cW (v.G st tg) (xSs v st body) p.1.2 p.1.1 p.1.1 δ p.2
 | .Assign [.Name x px] e _=>(match slot st x with
  | some i=>if xS st.S x&&(st.top||dF st.S x) then
    (if kZ e=true then (if (swB st e x px||!(dF st.S x))=true then aW i (if st.cv.contains x=true then cX (eV v st e) else aQ (eV v st e)) else fun _ _=>none)
    else if (st.cv.contains x&&cX0 e)=true then aW i aT7
    else if (st.cv.contains x&&!dQ5 e)=true then aW i (cX (v.F st e)) else aW i (v.E st e))
   else fun _ _=>none
  | none=>fun _ _=>none)
 | .Assign [tg] e _=>if bK1 e tg=true then bK2 v st tg e else if (kZ e||!(aN tg))=true then fun _ _=>none else fun δ h=>(v.E st e δ h).bind fun p=>(v.G st tg p.1 δ p.2).bind fun q=>some (.nx q.1,q.2)
 | _=>fun _ _=>none
end
noncomputable def step (v:Evs):Evs:=⟨lS v,aT5 v,eV v,vM v,oG v⟩
noncomputable def evs:Nat->Evs
 | 0=>.no
 | n+1=>step (evs n)
noncomputable def aO (s:Stmt):List Str:=(cF s).args.map (·.arg)
noncomputable def eD (s:Stmt):List Str:=aO s++((aF s).names.filter fun p=>(p.2==.local||p.2==.cell)&&!((aO s).contains p.1)).map (·.1)
noncomputable def fnB (s:Stmt):Bool:=decide ((aF s).kind=.function)&&(!(aF s).isCoroutine&&(!(aF s).isGenerator&&(decide (eD s).Nodup&&(((aO s).all fun x=>xS (aF s) x)&&((aF s).names.all fun y=>!(y.2==.free))))))
open Classical in
noncomputable def ends (h0:aA) (p:Fl×aA):Option (PyData×aA):=if okP h0 p.2 then (match p.1 with
 | .nx _=>some (.none,p.2.take h0.length)
 | .rt (.d z)=>some (z,p.2.take h0.length)
 | .rt (.c i)=>(match p.2[i]? with
  | some (.l xs)=>if h0.length<=i then some (.list xs,p.2.take h0.length) else none
  | some (.k kvs)=>if h0.length<=i then some (.dict kvs,p.2.take h0.length) else none
  | _=>none)
 | _=>none) else none
noncomputable def zR (p:Fl×aA):Option (W×aA):=match p.1 with
 | .nx _=>some (.d .none,p.2)
 | .rt w=>some (w,p.2)
 | _=>none
structure Top where
 bl:List Str
 gc:Str->Option PyData
 tk:Str->Option (Str->Option Int)
 defs:Str->Option Stmt
 ac:Str->List Nat
 cv:Str->List Str
 fuel:Nat
 deep:Nat
 wf:Str->Bool
 ini:Str->Option (Addr×Stmt)
 mt:Str->Option (Addr×Stmt)
 fo:Addr->Str->Bool
noncomputable def Top.sta (t:Top) (fn:Str->Option XF) (ob:ObS) (x:Str) (s:Stmt):Sta:=⟨t.bl,t.gc,t.tk,fn,t.ac,t.cv x,eD s,aF s,true,t.fuel,ob⟩
noncomputable def lU (t:Top) (fn:Str->Option XF) (ob:ObS) (x:Str) (s:Stmt):XF:=fun ws h =>
 if fnB s=true/\ws.length=(aO s).length then (xSs (evs t.deep) (t.sta fn ob x s) (bI s) (cM (eD s) ws) h).bind (ends h) else none
noncomputable def iI (t:Top) (fn:Str->Option XF) (ob:ObS) (x:Str) (s:Stmt):XFW:=fun ws h =>
 if fnB s=true/\ws.length=(aO s).length then (xSs (evs t.deep) (t.sta fn ob x s) (bI s) (cM (eD s) ws) h).bind zR else none
abbrev fnT (t:Top) (D:Str->XF):Str->Option XF:=fun y=>(t.defs y).map fun _=>D y
abbrev obT (t:Top) (W I M:Str->XFW):ObS:=⟨fun y=>if t.wf y=true then (t.defs y).map fun _=>W y else none,fun y=>(t.ini y).map fun p=>(p.1,I y),fun y=>(t.mt y).map fun p=>(p.1,M y),t.fo⟩
mutual
noncomputable def aD (t:Top):Nat->Str->XF
 | 0,_=>fun _ _=>none
 | d+1,x=>(match t.defs x with
  | some s=>lU t (fnT t fun y=>aD t d y) (obT t (fun y=>callW t d y) (fun y=>callI t d y) fun y=>callM t d y) x s
  | none=>fun _ _=>none)
noncomputable def callW (t:Top):Nat->Str->XFW
 | 0,_=>fun _ _=>none
 | d+1,x=>(match t.defs x with
  | some s=>iI t (fnT t fun y=>aD t d y) (obT t (fun y=>callW t d y) (fun y=>callI t d y) fun y=>callM t d y) x s
  | none=>fun _ _=>none)
noncomputable def callM (t:Top):Nat->Str->XFW
 | 0,_=>fun _ _=>none
 | d+1,x=>(match t.mt x with
  | some (_,s)=>iI t (fnT t fun y=>aD t d y) (obT t (fun y=>callW t d y) (fun y=>callI t d y) fun y=>callM t d y) x s
  | none=>fun _ _=>none)
noncomputable def callI (t:Top):Nat->Str->XFW
 | 0,_=>fun _ _=>none
 | 1,_=>fun _ _=>none
 | d+2,x=>(match t.ini x with
  | some (_,s)=>iI t (fnT t fun y=>aD t d y) (obT t (fun y=>callW t d y) (fun y=>callI t d y) fun y=>callM t d y) x s
  | none=>fun _ _=>none)
end
end CI
namespace CI
open PySem PySem.Spec PyProof.Rows L2 DL
noncomputable def Of {α:Type} (x:XR α):DSt->aA->(α->aA->Prop)->Prop:=fun δ h Q=>∃ a h',x δ h=some (a,h')/\Q a h'
def OfG (g:XG):DTG:=fun w δ h Q=>∃ δ' h',g w δ h=some (δ',h')/\Q δ' h'
noncomputable def bU1 (E:DEnds) (h:aA):Fl->Prop
 | .nx δ=>E.nx δ h
 | .rt w=>E.rt w h
 | .bk δ=>E.bk δ h
 | .ct δ=>E.ct δ h
def OfS (x:XS):DTS:=fun E δ h=>∃ fl h',x δ h=some (fl,h')/\bU1 E h' fl
def OfI (x:XR (List PyData×Option Nat)):DTI:=fun δ h Q=>∃ xs c h',x δ h=some ((xs,c),h')/\Q xs c h'
def Of2 (f:W->W->aA->Option (W×aA)):D2:=fun u w h Q=>∃ r h',f u w h=some (r,h')/\Q r h'
def OfC (f:List W->aA->Option (W×aA)):DC:=fun ws h Q=>∃ r h',f ws h=some (r,h')/\Q r h'
noncomputable def jY (m:XF):DSp:=fun ws h k=>∃ z h',m ws h=some (z,h')/\k z h'
section
variable {α β:Type} {x:XR α} {f:α->XR β} {δ:DSt} {h:aA} {Q:α->aA->Prop} {Q':β->aA->Prop}
def bM (q:Of (xb x f) δ h Q'):Of x δ h fun a h1=>Of (f a) δ h1 Q':=by
 obtain ⟨b,h',e,q⟩:=q;unfold xb at e;cases e1:x δ h with
 | none=>rw [e1] at e;cases e
 | some p =>
  rw [e1] at e;obtain ⟨a,h1⟩:=p;exact ⟨a,h1,e1,b,h',e,q⟩
def bU (q:Of (xno:XR α) δ h Q):False:=by obtain ⟨_,_,e,_⟩:=q;cases e
def aZ {a:α} (q:Of (aE a) δ h Q):Q a h:=by
 obtain ⟨b,h',e,q⟩:=q;cases e;exact q
end
def bind_some {α β:Type} {x:Option α} {f:α->Option β} {b:β} (e:x.bind f=some b):∃ a,x=some a/\f a=some b:=Option.bind_eq_some_iff.mp e
def map_some {α β:Type} {x:Option α} {f:α->β} {b:β} (e:x.map f=some b):∃ a,x=some a/\f a=b:=Option.map_eq_some_iff.mp e
section
variable {X:Cx} {e tg:Expr} {es:List Expr} {eo:Option Expr} {s:Stmt} {ss:List Stmt}
def bQ {t t':DTE} (d:DE X e t) (m:∀ δ h Q,t' δ h Q->t δ h Q):DE X e t':=aI d fun σ H Q ⟨δ,h,A,μ,k,R,q,c⟩=>⟨δ,h,A,μ,k,R,m δ h k q,c⟩
def aT8 {t t':DTT} (d:DT X e t) (m:∀ δ h Q,t' δ h Q->t δ h Q):DT X e t':=iR d fun σ H Q ⟨δ,h,A,μ,k,R,q,c⟩=>⟨δ,h,A,μ,k,R,m δ h k q,c⟩
def cX2 {t t':DTT} (d:DW X e t) (m:∀ δ h Q,t' δ h Q->t δ h Q):DW X e t':=sL d fun σ H Q ⟨δ,h,A,μ,k,R,q,c⟩=>⟨δ,h,A,μ,k,R,m δ h k q,c⟩
def cX3 {t t':DTA} (d:DA X es t) (m:∀ δ h Q,t' δ h Q->t δ h Q):DA X es t':=sN d fun σ H Q ⟨δ,h,A,μ,k,R,q,c⟩=>⟨δ,h,A,μ,k,R,m δ h k q,c⟩
def tE {t t':DTF} (d:DF X e t) (m:∀ δ h Q,t' δ h Q->t δ h Q):DF X e t':=aI d fun σ H Q ⟨δ,h,A,μ,k,R,q,c⟩=>⟨δ,h,A,μ,k,R,m δ h k q,c⟩
def cX4 {t t':DTO} (d:DO X eo t) (m:∀ δ h Q,t' δ h Q->t δ h Q):DO X eo t':=sQ d fun σ H Q ⟨δ,h,A,μ,k,R,q,c⟩=>⟨δ,h,A,μ,k,R,m δ h k q,c⟩
def tF {t t':DTS} (d:DS X s t) (m:∀ E δ h,t' E δ h->t E δ h):DS X s t':=bN d fun D σ H ⟨δ,h,A,μ,E,R,q,L⟩=>⟨δ,h,A,μ,E,R,m E δ h q,L⟩
def bU2 {t t':DTS} (d:DSs X ss t) (m:∀ E δ h,t' E δ h->t E δ h):DSs X ss t':=jQ d fun D σ H ⟨δ,h,A,μ,E,R,q,L⟩=>⟨δ,h,A,μ,E,R,m E δ h q,L⟩
def cI2 {t t':DTG} (d:DG X e t) (m:∀ w δ h Q,t' w δ h Q->t w δ h Q):DG X e t':=mR d fun v σ H Q ⟨w,δ,h,A,μ,k,R,r,q,c⟩=>⟨w,δ,h,A,μ,k,R,r,m w δ h k q,c⟩
def aT9 {t t':DTI} (d:DI X tg e t) (m:∀ δ h Q,t' δ h Q->t δ h Q):DI X tg e t':=jT d fun σ H R ⟨δ,h,A,μ,k,R0,q,c⟩=>⟨δ,h,A,μ,k,R0,m δ h k q,c⟩
def cX5 {t t':DTT} (d:DIf X es t) (m:∀ δ h Q,t' δ h Q->t δ h Q):DIf X es t':=fun pins s σ H Q I ⟨δ,h,A,μ,k,R,q,c⟩=>d pins s σ H Q I ⟨δ,h,A,μ,k,R,m δ h k q,c⟩
def aU0 {t t':DTE} (d:DE X e t) (d':DE X e t'):DE X e (fun δ h Q=>t δ h Q\/t' δ h Q):=fun pins s σ H Q I ⟨δ,h,A,μ,k,R,q,c⟩=>q.elim (fun q=>d pins s σ H Q I ⟨δ,h,A,μ,k,R,q,c⟩) fun q=>d' pins s σ H Q I ⟨δ,h,A,μ,k,R,q,c⟩
def cR:DE X e (Of xno):=bQ gF fun _ _ _ q=>bU q
def iX:DF X e (Of xno):=tE bT5 fun _ _ _ q=>(bU q).elim
def mG:DT X e (Of xno):=fun pins s σ H Q I ⟨_,_,_,_,_,_,q,_⟩=>(bU q).elim
def jH {x:XS} (n:∀ δ h,x δ h=none):DS X s (OfS x):=tF cU9 fun E δ h q=>by obtain ⟨_,_,e,_⟩:=q;rw [n] at e;cases e
def aH3 {x:XG} (n:∀ w δ h,x w δ h=none):DG X e (OfG x):=fun pins s σ H v u Q I r ⟨w,δ,h,A,μ,k,R,rr,q,c⟩=>by obtain ⟨_,_,e,_⟩:=q;rw [n] at e;cases e
def hU {f:Value->Value->Sem Value} {r r':D2} (ho:OpR X f (upR X.K r)) (m:∀ u w h Q,r' u w h Q->r u w h Q):OpR X f (upR X.K r'):=fun pins s σ H x y v u Q I rx ry ⟨a,b,h,A,μ,k,R,ra,rb,q,c⟩=>ho pins s σ H x y v u Q I rx ry ⟨a,b,h,A,μ,k,R,ra,rb,m _ _ _ _ q,c⟩
def zS {f:Value->Value->Sem Value} {r r':D2} (ho:OpR X f (upR X.K r)) (ho':OpR X f (upR X.K r')):OpR X f (upR X.K fun u w h Q=>r u w h Q\/r' u w h Q):=fun pins s σ H x y v u Q I rx ry ⟨a,b,h,A,μ,k,R,ra,rb,q,c⟩ =>
 q.elim (fun q=>ho pins s σ H x y v u Q I rx ry ⟨a,b,h,A,μ,k,R,ra,rb,q,c⟩) fun q=>ho' pins s σ H x y v u Q I rx ry ⟨a,b,h,A,μ,k,R,ra,rb,q,c⟩
def cX6 {f:Value->Value->Sem Value} {r:D2} (m:∀ u w h Q,¬ r u w h Q):OpR X f (upR X.K r):=fun pins s σ H x y v u Q I rx ry ⟨a,b,h,A,μ,k,R,ra,rb,q,c⟩=>(m _ _ _ _ q).elim
def xU {f:Value} {r r':DC} (ho:cU X f (upC X.K r)) (m:∀ ws h Q,r' ws h Q->r ws h Q):cU X f (upC X.K r'):=fun pins s σ H xs us Q I rx ⟨ws,h,A,μ,k,R,rw',q,c⟩=>ho pins s σ H xs us Q I rx ⟨ws,h,A,μ,k,R,rw',m _ _ _ q,c⟩
end
mutual
theorem zT {K:Frag} {A:List Addr} {H:Hp}:∀ {x:PyData} {v:V} (n:Nat),Rep K A H x v->aT n x=true->x.canLay0=true/\x.depth<=n
 | .none,_,n,_,_=>by simp [PyData.canLay0,PyData.depth]
 | .bool _,_,n,_,_=>by simp [PyData.canLay0,PyData.depth]
 | .int _,_,n,_,_=>by simp [PyData.canLay0,PyData.depth]
 | .str x,_,n,h,_=>by
  rw [Rep] at h;simp [PyData.canLay0,PyData.depth,h.2]
 | .list xs,_,0,_,p=>by simp [aT] at p
 | .tuple xs,_,0,_,p=>by simp [aT] at p
 | .list xs,_,n+1,h,p=>by
  rw [Rep] at h;obtain ⟨a,vs,_,_,h⟩:=h;have z:=Reps_lay n h (by simpa [aT] using p);simp [PyData.canLay0,PyData.depth,z.1,z.2]
 | .tuple xs,_,n+1,h,p=>by
  rw [Rep] at h;obtain ⟨a,vs,_,_,h⟩:=h;have z:=Reps_lay n h (by simpa [aT] using p);simp [PyData.canLay0,PyData.depth,z.1,z.2]
 | .dict _,_,n,_,p=>by cases n<;>simp [aT] at p
theorem Reps_lay {K:Frag} {A:List Addr} {H:Hp}:∀ {xs:List PyData} {vs:List V} (n:Nat),Reps K A H xs vs->plainsB n xs=true->PyData.canLayAll0 xs=true/\PyData.depthAll xs<=n
 | [],_,n,_,_=>by simp [PyData.canLayAll0,PyData.depthAll]
 | x::xs,_,n,h,p=>by
  rw [Reps] at h;obtain ⟨v,r,_,h1,h2⟩:=h;rw [plainsB,Bool.and_eq_true] at p;have a:=zT n h1 p.1;have b:=Reps_lay n h2 p.2;simp [PyData.canLayAll0,PyData.depthAll,a.1,b.1];omega
end
def aH4 {K:Frag} {A:List Addr} {H:Hp} {x:PyData} {v:V} (r:Rep K A H x v) (p:aT 64 x=true):SeqAt.shaped x=true:=by
 have z:=zT 64 r p;unfold SeqAt.shaped;rw [z.1]
 simpa using z.2
def cE {K:Frag} {A μ:List Addr} {H:Hp} {h:aA} {w:W} {v:V} {x:PyData} (R:HeapRep K A μ h H) (r:RepW K A μ H w v) (e:ref h w=some x) (p:aT 64 x=true):SeqAt.shaped x=true:=by
 cases w with
 | d y=>cases e;exact aH4 r p
 | v u=>cases e
 | c i =>
  obtain ⟨a,e1,rfl⟩:=r;dsimp only [DL.ref] at e;cases q:h[i]? with
  | none=>rw [q] at e;cases e
  | some cc =>
   cases cc with
   | t _ _ _=>rw [q] at e;cases e
   | o _ _=>rw [q] at e;cases e
   | r _=>rw [q] at e;cases e
   | k ys=>rw [q] at e;cases e;simp [aT] at p
   | l ys =>
    rw [q] at e;cases e;obtain ⟨vs,z1,z2⟩:=R.val i a ys e1 q;have z:=Reps_lay 63 z2 (by simpa [aT] using p);unfold SeqAt.shaped;simp [PyData.canLay0,PyData.depth,z.1];exact z.2
abbrev hG (m:XFW):xR:=fun ws h k=>∃ w h',m ws h=some (w,h')/\k w h'
structure bA (X:Cx) (st:Sta) (d:Nat):Prop where
 bl:∀ x,st.bl.contains x=true->X.mg x=none
 gc:∀ x z,st.gc x=some z->∃ v u,X.mg x=some u/\RelV v u/\∀ A H,Rep X.K A H z v
 tk:∀ x f,st.tk x=some f->∃ p,X.mg x=some (.ref p)/\TabK X.w X.K p f
 fn:∀ x m,st.fn x=some m->DFn X.prog X.w X.K X.mg X.base d x (jY m)
 N:X.N=st.N
 S:X.env.scope=st.S
 nd:st.N.Nodup
 xe:X.xe=fun _ _=>False
 calm:X.calm=true
 rm:Room d X.A
 fnT:st.top=true->∀ x,X.fn x=true
 kind:st.S.kind=.function
 fnW:∀ x m,st.ob.fnW x=some m->DFnW X.prog X.w X.K X.mg X.base d x (hG m)
 cls:∀ x C m,st.ob.cls x=some (C,m)->(∀ ws h,m ws h=none)\/∃ k f fd ps,k+1<=d/\Mk X.K C f/\FnOk X.prog X.w X.K X.mg X.base CX0 k f fd ps (gY X.K (hG m))/\X.mg x=some (.ref C)/\Binds X.K fd ps []
 om:∀ x C m,st.ob.om x=some (C,m)->Cls X.K C/\∃ f fd ps,Meth X.K C x f/\FnOk X.prog X.w X.K X.mg X.base CX0 d f fd ps (gY X.K (hG m))/\Binds X.K fd ps []
 fo:∀ C f,st.ob.fo C f=true->Cls X.K C/\wY X.K C f
structure Snd (v:Evs):Prop where
 E:∀ {X:Cx} {st:Sta} {d:Nat},bA X st d->∀ e,DE X e (Of (v.E st e))
 T:∀ {X:Cx} {st:Sta} {d:Nat},bA X st d->∀ e,DT X e (Of (v.T st e))
 F:∀ {X:Cx} {st:Sta} {d:Nat},bA X st d->∀ e,DF X e (Of (v.F st e))
 G:∀ {X:Cx} {st:Sta} {d:Nat},bA X st d->∀ e,DG X e (OfG (v.G st e))
 S:∀ {X:Cx} {st:Sta} {d:Nat},bA X st d->∀ s,DS X s (OfS (v.S st s))
section
variable {X:Cx} {st:Sta} {d:Nat} {x:Str}
def xV {N:List Str} {i:Nat} (e:N.findIdx? (·==x)=some i):N[i]?=some x:=by
 obtain ⟨h1,h2,_⟩:=List.findIdx?_eq_some_iff_getElem.mp e;rw [List.getElem?_eq_getElem h1,eq_of_beq h2]
def eQ (G:bA X st d) {i:Nat} (e:slot st x=some i):X.N[i]?=some x:=by rw [G.N];exact xV e
def cI3 (G:bA X st d) (h:cH4 st.S x=true):Vis X.env.scope x:=by
 unfold Vis;rw [G.S];unfold cH4 at h;split at h
 ·rename_i e;exact .inl e
 ·rename_i e;exact .inr (.inl e)
 ·rename_i e;exact .inr (.inr e)
 ·cases h
def oH (G:bA X st d) (h:xS st.S x=true):L2.Loc X.env.scope x:=by
 unfold L2.Loc;rw [G.S];unfold xS at h;split at h
 ·rename_i e;exact .inl e
 ·rename_i e;exact .inr e
 ·cases h
def oI (h:dF st.S x=true):st.S.names.lookup x=some .local:=by
 unfold dF at h;split at h
 ·rename_i e;exact e
 ·cases h
def aU1 (G:bA X st d) (h:(st.top||dF st.S x)=true):X.fn x=true\/X.env.scope.names.lookup x=some .local:=by
 rw [Bool.or_eq_true] at h;rcases h with h | h
 ·exact .inl (G.fnT h x)
 ·rw [G.S];exact .inr (oI h)
def bU3 (G:bA X st d) (h:glB st.S x=true):Gl X x:=by
 unfold Gl Env.kindOf;rw [G.S];unfold glB at h;split at h
 ·rename_i e;exact e
 ·cases h
def bX (h:fY x=true):(x==("__debug__":Str))=false:=by
 unfold fY at h;rw [Bool.and_eq_true] at h
 simpa using h.1
def aH5 (h:fY x=true):(x==("__classdict__":Str))=false:=by
 unfold fY at h;rw [Bool.and_eq_true,Bool.and_eq_true] at h
 simpa using h.2.1
def lA (h:fY x=true):x≠"__name__":=by
 unfold fY at h;rw [Bool.and_eq_true,Bool.and_eq_true] at h
 simpa using h.2.2
def gN (G:bA X st d) (h:oD st x=true):fY x=true/\Gl X x:=by
 unfold oD at h;rw [Bool.and_eq_true] at h;exact ⟨h.1,bU3 G h.2⟩
def cI4 (G:bA X st d) {pos:Pos}:DE X (.Name x pos) (Of (aS6 st x)):=by
 unfold aS6;split
 ·rename_i hn;split
  ·rename_i i hi;split
   ·rename_i hv;refine bQ (dv i (eQ G hi) (cI3 G hv) (bX hn) (aH5 hn)) fun δ h Q q=>?_;obtain ⟨w,h',e,q⟩:=q;unfold aB at e;unfold sO;split at e
    ·rename_i w' e';try rw [e']
     cases e;exact q
    ·cases e
   ·exact cR
  ·split
   ·rename_i z hz;split
    ·rename_i hg;obtain ⟨v,u,m,r1,r2⟩:=G.gc _ _ hz;exact bQ (bD7 m r1 r2 (bU3 G hg) (bX hn)) fun δ h Q q=>aZ q
    ·exact cR
   ·exact cR
 ·exact cR
def bK3 {c:Const} {j:Nat} {pos:Pos}:DE X (.Constant c j pos) (Of (aS7 c)):=by
 cases c with
 | none=>exact bQ cA4 fun _ _ _ q=>aZ q
 | bool b=>exact bQ cS9 fun _ _ _ q=>aZ q
 | int i=>exact bQ aN5 fun _ _ _ q=>aZ q
 | str x =>
  show DE X _ (Of (if PyData.strOk x=true then aE (.d (.str x)) else xno));split
  ·rename_i hx;exact bQ (aN6 hx) fun _ _ _ q=>aZ q
  ·exact cR
 | _=>exact cR
def aU2 {K:Frag} {A μ:List Addr} {H:Hp} {h:aA} {p:Addr} {xs:List PyData} {vs:List V} (R:HeapRep K A μ h H) (hp:H p=none) (r:Reps K A H xs vs):Rep K A (upd H p (.lst vs)) (.list xs) (.ref p):=by
 rw [Rep];exact ⟨p,vs,rfl,.inl ⟨R.notA hp,.inl bH⟩,r.ext (bR (μ:=μ) hp) R.sub⟩
def zU:D2:=fun u w h Q=>match ref h u,ref h w with
 | some (.list xs),some (.list ys)=>xs.length+ys.length<=sizeLine/\Q (.d (.list (xs++ys))) h
 | _,_=>False
def zW:OpR X (binaryOp .Add) (upR X.K zU):=by
 intro pins s σ H x y v u Q I rx ry h;obtain ⟨a,b,h,A,μ,k,R,ra,rb,q,c⟩:=h;unfold zU at q;split at q
 ·rename_i xs ys ea eb;obtain ⟨pa,va,rfl,sa,rra⟩:=bZ R ra ea;obtain ⟨pb,vb,rfl,sb,rrb⟩:=bZ R rb eb;refine zK pins s σ H _ _ v u Q I rx ry ⟨pa,pb,va,vb,rfl,rfl,sa,sb,by rw [rra.length,rrb.length];exact q.1,fun p hp=>?_⟩;exact c _ _ _ _ _ _ q.2 (bR hp) (R.fresh hp) (aU2 R hp (rrb.append rra))
 ·exact q.elim
def aU3:OpR X (binaryOp .FloorDiv) (rI (fun _ j=>0 < j/\j.natAbs.log2 < 9000) fun i j=>.int (i / j)):=opI fun i j _ _ _ _ _ hc q=>by
 have h1:(0:Int) < j:=hc.1;exact floordiv_int (by omega) (by rw [Int.fdiv_eq_ediv_of_nonneg i (by omega)];exact q) (.inl (PyProof.noPylong_of_log2 hc.2))
noncomputable def bU4:D2
 | .d (.int i),.d (.int j),h,Q=>(0 < j/\j.natAbs.log2 < 9000)/\Q (.d (.int (i / j))) h
 | _,_,_,_=>False
def aU4:OpR X (binaryOp .FloorDiv) (upR X.K bU4):=fJ (f:=fun i j=>.int (i / j)) aU3 (fun _ _ _ _=>jR) fun u w h k q=>by
 unfold bU4 at q;split at q
 ·exact ⟨_,_,rfl,rfl,q.1,q.2⟩
 ·exact q.elim
def cI5 {j:Int} (h:aX j=true):0 < j/\j.natAbs.log2 < 9000:=by
 unfold aX at h;simp only [Bool.and_eq_true,Bool.or_eq_true,decide_eq_true_eq] at h;refine ⟨h.1,?_⟩;rcases h.2 with h2 | h2
 ·have h0:j.natAbs≠0:=by omega
  have:=(Nat.log2_lt h0 (k:=30)).mpr (by omega);omega
 ·omega
def cI6 {i j:Int} (h:gZ i j=true):CMul i j:=by
 unfold gZ at h;unfold CMul
 simpa only [Bool.and_eq_true,Bool.or_eq_true,decide_eq_true_eq] using h
def cI7 {i j:Int} (h:vJ i j=true):bB8 i j:=by
 unfold vJ at h;unfold bB8
 simpa only [Bool.and_eq_true,decide_eq_true_eq] using h
def bK4:OpR X (binaryOp .Add) (upR X.K (Of2 bJ9)):=by
 refine hU (zS bE1 zW) fun u w h Q q=>?_;obtain ⟨r,h',e,q⟩:=q;unfold bJ9 at e;split at e
 ·cases e;exact .inl q
 ·split at e
  ·rename_i hl;cases e;exact .inl ⟨hl,q⟩
  ·cases e
 ·refine .inr ?_;unfold zU;split at e
  ·rename_i e1 e2;try rw [e1,e2]
   split at e
   ·rename_i hl;cases e;exact ⟨hl,q⟩
   ·cases e
  ·cases e
def bK5:OpR X (binaryOp .Mult) (upR X.K (Of2 cH5)):=by
 refine hU (zS bE3 aR9) fun u w h Q q=>?_;obtain ⟨r,h',e,q⟩:=q;unfold cH5 at e;split at e
 ·split at e
  ·rename_i hl;cases e;exact .inl ⟨cI6 hl,q⟩
  ·cases e
 ·split at e
  ·rename_i hl;cases e;exact .inr (.inl ⟨hl,q⟩)
  split at e
  ·rename_i hl;cases e;exact .inr (.inr ⟨hl,q⟩)
  ·cases e
 ·cases e
def bK6 (op:Operator):OpR X (binaryOp op) (upR X.K (Of2 (dU op))):=by
 cases op with
 | Add=>exact bK4
 | Mult=>exact bK5
 | Sub =>
  refine hU bE2 fun u w h Q ⟨a,h',e,q⟩=>?_;dsimp only [dU] at e;split at e
  ·cases e;exact q
  ·cases e
 | FloorDiv =>
  refine hU aU4 fun u w h Q ⟨a,h',e,q⟩=>?_;dsimp only [dU] at e;split at e
  ·split at e
   ·rename_i hd;cases e;exact ⟨cI5 hd,q⟩
   ·cases e
  ·cases e
 | Mod =>
  refine hU bE4 fun u w h Q ⟨a,h',e,q⟩=>?_;dsimp only [dU] at e;split at e
  ·split at e
   ·rename_i hd;cases e;exact ⟨hd,q⟩
   ·cases e
  ·cases e
 | Pow =>
  refine hU bE5 fun u w h Q ⟨a,h',e,q⟩=>?_;dsimp only [dU] at e;split at e
  ·split at e
   ·rename_i hd;cases e;exact ⟨cI7 hd,q⟩
   ·cases e
  ·cases e
 | RShift =>
  refine hU bH6 fun u w h Q ⟨a,h',e,q⟩=>?_;dsimp only [dU] at e;split at e
  ·split at e
   ·rename_i hd;cases e;exact ⟨hd,q⟩
   ·cases e
  ·cases e
 | BitAnd =>
  refine hU aP7 fun u w h Q ⟨a,h',e,q⟩=>?_;dsimp only [dU] at e;split at e
  ·cases e;exact q
  ·cases e
 | _ =>
  refine cX6 fun u w h Q ⟨a,h',e,q⟩=>?_;dsimp only [dU] at e;split at e<;>cases e
def vN {x:Str}:bF (.str x)=if PyData.strOk x=true then some (Sum.inr x) else none:=rfl
def aU5 {K:Frag} {A:List Addr} {H:Hp} {z:PyData} {k:Key} {v:V} (e:bF z=some k) (r:Rep K A H z v):v=kV k:=by
 cases z with
 | int i=>cases e;rw [Rep] at r;exact r
 | str x =>
  rw [vN] at e;split at e
  ·cases e;rw [Rep] at r;exact r.1
  ·cases e
 | _=>cases e
theorem gO {K:Frag} {A:List Addr} {H:Hp} (k:Key):∀ {kvs:List (PyData×PyData)} {r:List (Key×V)},RepKs K A H kvs r ->
  (∀ p,(kvs.find? fun p=>decide (bF p.1=some k))=some p->∃ v,gK r k=some v/\Rep K A H p.2 v)/\((kvs.find? fun p=>decide (bF p.1=some k))=none->gK r k=none)
 | [],r,h=>by
  rw [RepKs] at h;subst h;exact ⟨fun p e=>(nomatch e),fun _=>rfl⟩
 | (a,b)::kvs,r,h=>by
  rw [RepKs] at h;obtain ⟨q,r',rfl,hp,hr⟩:=h;rw [RepP] at hp;obtain ⟨h1,h2⟩:=gO k hr;obtain ⟨qk,qv⟩:=q
  by_cases e:qk=k
  ·subst e;have ek:decide (bF a=some qk)=true:=decide_eq_true hp.1;refine ⟨fun p ep=>?_,fun ep=>?_⟩
   ·rw [List.find?_cons_of_pos (by exact ek)] at ep;cases ep;exact ⟨qv,by unfold gK;rw [List.find?_cons_of_pos (by simp)];rfl,hp.2⟩
   ·rw [List.find?_cons_of_pos (by exact ek)] at ep;cases ep
  ·have ek:¬ decide (bF a=some k)=true:=fun z=>e (Option.some.inj (hp.1.symm.trans (of_decide_eq_true z)));have ev:gK ((qk,qv)::r') k=gK r' k:=by unfold gK;rw [List.find?_cons_of_neg (by simpa using e)]
   rw [ev];refine ⟨fun p ep=>?_,fun ep=>?_⟩
   ·rw [List.find?_cons_of_neg (by exact ek)] at ep;exact h1 p ep
   ·rw [List.find?_cons_of_neg (by exact ek)] at ep;exact h2 ep
theorem oJ {α:Type} (p:α->Bool):∀ xs:List α,xs.any p=(xs.find? p).isSome
 | []=>rfl
 | x::r=>by
  rw [List.any_cons];cases e:p x with
  | true=>rw [List.find?_cons_of_pos e];rfl
  | false=>rw [List.find?_cons_of_neg (by rw [e];exact Bool.false_ne_true),<- oJ p r];rfl
def oK {K:Frag} {A μ:List Addr} {H:Hp} {h:aA} {w:W} {v:V} {kvs:List (PyData×PyData)} (R:HeapRep K A μ h H) (r:RepW K A μ H w v) (e:ref h w=some (.dict kvs)):∃ a rs,v=.ref a/\Rd H a (.dK rs)/\RepKs K A H kvs rs:=by
 cases w with
 | d x =>
  cases e;have z:Rep K A H (.dict kvs) v:=r;rw [Rep] at z;obtain ⟨a,rs,e,h1,h2⟩:=z;exact ⟨a,rs,e,h1.2,h2⟩
 | v u=>cases e
 | c i =>
  obtain ⟨a,e1,rfl⟩:=r;dsimp only [DL.ref] at e;cases q:h[i]? with
  | none=>rw [q] at e;cases e
  | some cc =>
   cases cc with
   | t _ _ _=>rw [q] at e;cases e
   | o _ _=>rw [q] at e;cases e
   | r _=>rw [q] at e;cases e
   | l ys=>rw [q] at e;cases e
   | k ys =>
    rw [q] at e;cases e;obtain ⟨vs,z1,z2⟩:=R.vad i a kvs e1 q;exact ⟨a,vs,rfl,.inl z1,z2⟩
def aH6 (neg:Bool):D2:=fun u w h Q=>match ref h u,ref h w with
 | some d,some (.dict kvs)=>(match bF d with
  | some k=>Q (.d (.bool (neg ^^ kvs.any fun p=>decide (bF p.1=some k)))) h
  | none=>False)
 | _,_=>False
def zX {K:Frag} {H:Hp} {z:PyData} {k:Key} {v:V} (e:bF z=some k) (r:See K H z v):v=kV k:=by
 cases z with
 | int i=>cases e;rw [See] at r;exact r
 | str x =>
  rw [vN] at e;split at e
  ·cases e;rw [See] at r;exact r
  ·cases e
 | _=>cases e
def aU6 {A:Around} {n:Nat} (hr:Room n A):A.units+1 < cLine:=by have:=hr.un;omega
def bK7 (hr:Room d X.A):OpR X (compareOp .In) (upR X.K (aH6 false)):=by
 intro pins s σ H x y v u Q I rx ry h;obtain ⟨a,b,h,A,μ,k,R,ra,rb,q,c⟩:=h;unfold aH6 at q;split at q
 ·rename_i z kvs ea eb;split at q
  ·rename_i kk ek;obtain ⟨p,rs,rfl,hd,rr⟩:=oK R rb eb;obtain ⟨f1,f2⟩:=gO kk rr;have ev:=zX ek (bO R ra ea);subst ev;cases ry;refine dN3 (aU6 hr) I (o:=gK rs kk) (.inl ⟨rs,kk,hd,rfl,rfl⟩) rx fun s' I'=>?_;have e:(kvs.any fun p=>decide (bF p.1=some kk))=(gK rs kk).isSome:=by
    rw [oJ];cases z:kvs.find? (fun p=>decide (bF p.1=some kk)) with
    | none=>rw [f2 z];rfl
    | some p=>obtain ⟨v,e1,_⟩:=f1 p z;rw [e1];rfl
   rw [e] at q;exact ⟨.bl _,H,I',rfl,c _ _ _ _ _ _ q .refl R (by simpa using bB)⟩
  ·exact q.elim
 ·exact q.elim
def xW (hr:Room d X.A):OpR X (compareOp .NotIn) (upR X.K (aH6 true)):=by
 intro pins s σ H x y v u Q I rx ry h;obtain ⟨a,b,h,A,μ,k,R,ra,rb,q,c⟩:=h;unfold aH6 at q;split at q
 ·rename_i z kvs ea eb;split at q
  ·rename_i kk ek;obtain ⟨p,rs,rfl,hd,rr⟩:=oK R rb eb;obtain ⟨f1,f2⟩:=gO kk rr;have ev:=zX ek (bO R ra ea);subst ev;cases ry;refine bD0 (aU6 hr) I (o:=gK rs kk) (.inl ⟨rs,kk,hd,rfl,rfl⟩) rx fun s' I'=>?_;have e:(kvs.any fun p=>decide (bF p.1=some kk))=(gK rs kk).isSome:=by
    rw [oJ];cases z:kvs.find? (fun p=>decide (bF p.1=some kk)) with
    | none=>rw [f2 z];rfl
    | some p=>obtain ⟨v,e1,_⟩:=f1 p z;rw [e1];rfl
   rw [e] at q;exact ⟨.bl _,H,I',rfl,c _ _ _ _ _ _ q .refl R (by simpa using bB)⟩
  ·exact q.elim
 ·exact q.elim
def bK8:D2:=fun u w h Q=>match ref h u,w with
 | some (.dict kvs),.d z=>(match bF z with
  | some k=>(match kvs.find? fun p=>decide (bF p.1=some k) with
   | some p=>Q (.d p.2) h
   | none=>False)
  | none=>False)
 | _,_=>False
def cX7 (hr:Room d X.A):IxR X (upR X.K bK8):=by
 intro value slice pins s σ H x y v u Q I rx ry h hs;obtain ⟨a,b,h,A,μ,k,R,ra,rb,q,c⟩:=h;unfold bK8 at q;split at q
 ·rename_i kvs z ea;split at q
  ·rename_i kk ek;split at q
   ·rename_i p ep;obtain ⟨pa,rs,rfl,hd,rr⟩:=oK R ra ea;obtain ⟨v0,e1,r1⟩:=(gO kk rr).1 p ep;have ev:=aU5 ek rb;subst ev;cases rx;have g:aN2 H pa (kV kk) (some v0):=.inl ⟨rs,kk,hd,rfl,e1.symm⟩;exact tail_any (uO I g) slot_dict_getitem.lookup (aD7 (aU6 hr) I g ry fun w' s' I' rw'=>⟨v0,H,I',rw',c _ _ _ _ _ _ q .refl R r1⟩) hs
   ·exact q.elim
  ·exact q.elim
 ·exact q.elim
def aH7 (neg:Bool):D2:=fun x y h Q=>match ref h x,ref h y with
 | some a,some b=>(aT 64 a&&aT 64 b)=true/\Q (.d (.bool (neg ^^ PyData.eqv a b))) h
 | _,_=>False
def cI8 (hr:Room d X.A):OpR X (compareOp .Eq) (upR X.K (aH7 false)):=fun pins s σ H x y v u Q I rx ry ⟨a,b,h,A,μ,k,R,ra,rb,q,c⟩=>by
 unfold aH7 at q;split at q
 ·rename_i z1 z2 e1 e2;rw [Bool.and_eq_true] at q;refine cB6 hr pins s σ H x y v u Q I rx ry ⟨a,b,h,A,μ,k,R,ra,rb,?_,c⟩;unfold dEq;rw [e1,e2];exact ⟨cE R ra e1 q.1.1,cE R rb e2 q.1.2,by simpa using q.2⟩
 ·exact q.elim
def cI9 (hr:Room d X.A):OpR X (compareOp .NotEq) (upR X.K (aH7 true)):=fun pins s σ H x y v u Q I rx ry ⟨a,b,h,A,μ,k,R,ra,rb,q,c⟩=>by
 unfold aH7 at q;split at q
 ·rename_i z1 z2 e1 e2;rw [Bool.and_eq_true] at q;refine cB7 hr pins s σ H x y v u Q I rx ry ⟨a,b,h,A,μ,k,R,ra,rb,?_,c⟩;unfold dNe;rw [e1,e2];exact ⟨cE R ra e1 q.1.1,cE R rb e2 q.1.2,by simpa using q.2⟩
 ·exact q.elim
def aU7 (neg:Bool):D2:=fun x y h Q=>match ref h x,ref h y with
 | some d,some (.list xs)=>(aT 64 (.list xs)&&aT 64 d)=true/\Q (.d (.bool (neg ^^ xs.any fun z=>PyData.eqv z d))) h
 | some d,some (.tuple xs)=>(aT 64 (.tuple xs)&&aT 64 d)=true/\Q (.d (.bool (neg ^^ xs.any fun z=>PyData.eqv z d))) h
 | _,_=>False
def inP {neg:Bool} {f:Value->Value->Sem Value} (ho:OpR X f (upR X.K (aF4 neg))):OpR X f (upR X.K (aU7 neg)):=fun pins s σ H x y v u Q I rx ry ⟨a,b,h,A,μ,k,R,ra,rb,q,c⟩=>by
 refine ho pins s σ H x y v u Q I rx ry ⟨a,b,h,A,μ,k,R,ra,rb,?_,c⟩;unfold aU7 at q;unfold aF4;split at q
 ·rename_i z1 xs e1 e2;rw [Bool.and_eq_true] at q;try rw [e1,e2]
  exact ⟨cE R rb e2 q.1.1,cE R ra e1 q.1.2,q.2⟩
 ·rename_i z1 xs e1 e2;rw [Bool.and_eq_true] at q;try rw [e1,e2]
  exact ⟨cE R rb e2 q.1.1,cE R ra e1 q.1.2,q.2⟩
 ·exact q.elim
def vO {neg:Bool} {u w:W} {h:aA} {b:Bool} {Q:DK} (e:xIn u w h=some b) (q:Q (.d (.bool (neg ^^ b))) h):aU7 neg u w h Q\/aH6 neg u w h Q:=by
 unfold xIn at e;split at e
 ·rename_i z1 z2;split at e
  ·rename_i hs;cases e;refine .inl ?_;unfold aU7;rw [z1,z2];exact ⟨hs,q⟩
  ·cases e
 ·rename_i z1 z2;split at e
  ·rename_i hs;cases e;refine .inl ?_;unfold aU7;rw [z1,z2];exact ⟨hs,q⟩
  ·cases e
 ·rename_i z1 z2;split at e
  ·rename_i k ek;cases e;refine .inr ?_;unfold aH6;rw [z1,z2];dsimp only;rw [ek];exact q
  ·cases e
 ·cases e
def zY {neg:Bool} {u w:W} {h:aA} {b:Bool} {Q:DK} (e:xEq u w h=some b) (q:Q (.d (.bool (neg ^^ b))) h):aH7 neg u w h Q:=by
 unfold xEq at e;split at e
 ·rename_i x y e1 e2;split at e
  ·rename_i hs;cases e;unfold aH7;rw [e1,e2];exact ⟨hs,q⟩
  ·cases e
 ·cases e
def fB (hr:Room d X.A) (op:CmpOp):OpR X (compareOp op) (upR X.K (Of2 fun u w h=>(cO op u w h).map asW)):=by
 have isc:∀ {u w:W} {b:Bool},xIs u w=some b->∃ x y,u=.d x/\w=.d y/\DL.isSame x y=some b:=fun {u w b} e=>by
  unfold xIs at e;split at e
  ·exact ⟨_,_,rfl,rfl,e⟩
  ·cases e
 cases op with
 | Eq =>
  refine hU (cI8 hr) fun u w h Q ⟨a,h',e,q⟩=>?_;obtain ⟨p,e1,e2⟩:=map_some e;obtain ⟨b,e3,e4⟩:=map_some e1;subst e4;cases e2;exact zY e3 (by simpa using q)
 | NotEq =>
  refine hU (cI9 hr) fun u w h Q ⟨a,h',e,q⟩=>?_;obtain ⟨p,e1,e2⟩:=map_some e;obtain ⟨b,e3,e4⟩:=map_some e1;subst e4;cases e2;exact zY e3 (by simpa using q)
 | Is =>
  refine hU cB8 fun u w h Q ⟨a,h',e,q⟩=>?_;obtain ⟨p,e1,e2⟩:=map_some e;obtain ⟨b,e3,e4⟩:=map_some e1;subst e4;cases e2;obtain ⟨x,y,rfl,rfl,e5⟩:=isc e3;show (match DL.isSame x y with | some k=>_ | none=>_);rw [e5];exact q
 | IsNot =>
  refine hU aE0 fun u w h Q ⟨a,h',e,q⟩=>?_;obtain ⟨p,e1,e2⟩:=map_some e;obtain ⟨b,e3,e4⟩:=map_some e1;subst e4;cases e2;obtain ⟨x,y,rfl,rfl,e5⟩:=isc e3;show (match DL.isSame x y with | some k=>_ | none=>_);rw [e5];exact q
 | In =>
  refine hU (zS (inP (cF4 hr)) (bK7 hr)) fun u w h Q ⟨a,h',e,q⟩=>?_;obtain ⟨p,e1,e2⟩:=map_some e;obtain ⟨b,e3,e4⟩:=map_some e1;subst e4;cases e2;exact vO e3 (by simpa using q)
 | NotIn =>
  refine hU (zS (inP (aF5 hr)) (xW hr)) fun u w h Q ⟨a,h',e,q⟩=>?_;obtain ⟨p,e1,e2⟩:=map_some e;obtain ⟨b,e3,e4⟩:=map_some e1;subst e4;cases e2;exact vO e3 (by simpa using q)
 | Lt =>
  refine hU cB2 fun u w h Q ⟨a,h',e,q⟩=>?_;obtain ⟨p,e1,e2⟩:=map_some e;dsimp only [cO,aS8,Option.map] at e1;split at e1
  ·cases e1;cases e2;exact q
  ·cases e1
 | LtE =>
  refine hU cB3 fun u w h Q ⟨a,h',e,q⟩=>?_;obtain ⟨p,e1,e2⟩:=map_some e;dsimp only [cO,aS8,Option.map] at e1;split at e1
  ·cases e1;cases e2;exact q
  ·cases e1
 | Gt =>
  refine hU cB4 fun u w h Q ⟨a,h',e,q⟩=>?_;obtain ⟨p,e1,e2⟩:=map_some e;dsimp only [cO,aS8,Option.map] at e1;split at e1
  ·cases e1;cases e2;exact q
  ·cases e1
 | GtE =>
  refine hU cB5 fun u w h Q ⟨a,h',e,q⟩=>?_;obtain ⟨p,e1,e2⟩:=map_some e;dsimp only [cO,aS8,Option.map] at e1;split at e1
  ·cases e1;cases e2;exact q
  ·cases e1
end
section
variable {X:Cx} {st:Sta} {d:Nat} {x:Str} {v:Evs} {a b c e:Expr} {es:List Expr} {pos:Pos}
def aK (h:aN e=true) (env:Env):starEach (e::es) env=(false,eval e env)::starEach es env:=by
 cases e<;>first | rfl | cases h
theorem dR:∀ (es:List Expr) (env:Env) (pos:Pos),es.all aN=true->(backTo pos (starEach es env)).any (·.1)=false
 | [],_,_,_=>rfl
 | e::es,env,pos,h=>by
  rw [List.all_cons,Bool.and_eq_true] at h;rw [aK h.1];show (false||(backTo pos (starEach es env)).any (·.1))=false;rw [dR es env pos h.2];rfl
theorem vP:∀ (es:List Expr) (env:Env) (pos:Pos),es.all aN=true->(backTo pos (starEach es env)).all (fun x=>!x.1)=true
 | [],_,_,_=>rfl
 | e::es,env,pos,h=>by
  rw [List.all_cons,Bool.and_eq_true] at h;rw [aK h.1];show (true&&(backTo pos (starEach es env)).all fun x=>!x.1)=true;rw [vP es env pos h.2];rfl
theorem fF:∀ (es:List Expr) (δ:DSt) (h:aA) (p:List W×aA),dW v st es δ h=some p->es.all aN=true
 | [],_,_,_,_=>rfl
 | e::es,δ,h,p,q=>by
  unfold dW at q;split at q
  ·rename_i hn;obtain ⟨a,e1,q⟩:=bind_some q;obtain ⟨b,e2,q⟩:=bind_some q;rw [List.all_cons,hn,fF es δ _ _ e2];rfl
  ·cases q
def bK9 {x:XR W} (p:Prop) (hp:∀ δ h r,x δ h=some r->p) (he:p->DE X e (Of x)):DE X e (Of x):=by
 by_cases h:p
 ·exact he h
 ·exact bQ gF fun δ h' Q q=>by
   obtain ⟨r,h2,e,_⟩:=q;exact (h (hp _ _ _ e)).elim
def dQ6 {x:XR (List PyData)} (p:Prop) (hp:∀ δ h r,x δ h=some r->p) (he:p->DF X e (Of x)):DF X e (Of x):=by
 by_cases h:p
 ·exact he h
 ·exact tE bT5 fun δ h' Q q=>by
   obtain ⟨r,h2,e,_⟩:=q;exact (h (hp _ _ _ e)).elim
theorem eG (S:Snd v) (G:bA X st d):∀ es,DA X es (Of (dW v st es))
 | []=>cX3 cK fun δ h Q q=>aZ q
 | e::es=>by
  unfold dW;split
  ·rename_i hn;refine cX3 (aY (S.E G e) (eG S G es) (aK hn _)) fun δ h Q q=>?_;obtain ⟨w,h1,e1,q⟩:=bM q;obtain ⟨ws,h2,e2,q⟩:=bM q;exact ⟨w,h1,e1,ws,h2,e2,aZ q⟩
  ·exact fun p pins s σ H Q I ⟨_,_,_,_,_,_,q,_⟩=>(bU q).elim
def cJ0 {x:XR (List PyData)} (h:DF X e (Of x)):DE X e (Of (cX x)):=bQ (cA6 h) fun δ h Q q=>by
 obtain ⟨w,h',e,q⟩:=q;obtain ⟨p,e1,e2⟩:=bind_some e;cases e2;exact ⟨p.1,p.2,e1,q⟩
def zZ {x:XR (List PyData)} (h:DF X e (Of x)):DE X e (Of (aQ x)):=bQ (sP h) fun δ h Q q=>by
 obtain ⟨w,h',e,q⟩:=q;obtain ⟨p,e1,e2⟩:=bind_some e;cases e2;exact ⟨p.1,p.2,e1,q⟩
theorem rE (S:Snd v) (G:bA X st d):∀ eo,DO X eo (Of (aH2 v st eo))
 | none=>cX4 bE7 fun δ h Q q=>aZ q
 | some e=>cX4 (bE8 (S.E G e)) fun δ h Q q=>by
  unfold aH2 at q;obtain ⟨w,h1,e1,q⟩:=bM q;refine ⟨w,h1,e1,?_⟩;dsimp only at q ⊢;split at q
  ·exact aZ q
  ·exact (bU q).elim
theorem aU8 (S:Snd v) (G:bA X st d):∀ vs,DE X (.BoolOp .And vs pos) (Of (aS9 v st vs))
 | []=>cR
 | [a]=>xG (S.E G a)
 | a::b::r=>bQ (xH (S.E G a) (aU8 S G (b::r))) fun δ h Q q=>by
  obtain ⟨w,h1,e1,q⟩:=bM q;refine ⟨w,h1,e1,?_⟩;dsimp only at q ⊢;split at q
  ·exact (if_pos rfl).mpr q
  ·exact (if_neg Bool.false_ne_true).mpr (aZ q)
  ·exact (bU q).elim
theorem bU5 (S:Snd v) (G:bA X st d):∀ vs,DE X (.BoolOp .Or vs pos) (Of (cH8 v st vs))
 | []=>cR
 | [a]=>xG (S.E G a)
 | a::b::r=>bQ (cT3 (S.E G a) (bU5 S G (b::r))) fun δ h Q q=>by
  obtain ⟨w,h1,e1,q⟩:=bM q;refine ⟨w,h1,e1,?_⟩;dsimp only at q ⊢;split at q
  ·exact (if_pos rfl).mpr (aZ q)
  ·exact (if_neg Bool.false_ne_true).mpr q
  ·exact (bU q).elim
theorem aU9 (S:Snd v) (G:bA X st d):∀ vs,DW X (.BoolOp .And vs pos) (Of (aT1 v st vs))
 | []=>fun wh pins s σ H Q I ⟨_,_,_,_,_,_,q,_⟩=>(bU q).elim
 | [a]=>bD9 (S.T G a)
 | a::b::r=>cX2 (cB1 (S.T G a) (aU9 S G (b::r))) fun δ h Q q=>by
  obtain ⟨w,h1,e1,q⟩:=bM q;refine ⟨w,h1,e1,?_⟩;dsimp only at q ⊢;split at q
  ·rename_i hw;rw [if_pos hw];exact q
  ·rename_i hw;rw [if_neg hw];exact aZ q
theorem bU6 (S:Snd v) (G:bA X st d):∀ vs,DW X (.BoolOp .Or vs pos) (Of (cH9 v st vs))
 | []=>fun wh pins s σ H Q I ⟨_,_,_,_,_,_,q,_⟩=>(bU q).elim
 | [a]=>cB0 (S.T G a)
 | a::b::r=>cX2 (cT2 (S.T G a) (bU6 S G (b::r))) fun δ h Q q=>by
  obtain ⟨w,h1,e1,q⟩:=bM q;refine ⟨w,h1,e1,?_⟩;dsimp only at q ⊢;split at q
  ·rename_i hw;rw [if_pos hw];exact aZ q
  ·rename_i hw;rw [if_neg hw];exact q
def xX {f:Str->Option Int} (G:bA X st d) (e1:lR st b=some f):∃ y p q,b=.Name y q/\fY y=true/\Gl X y/\X.mg y=some (.ref p)/\TabK X.w X.K p f:=by
 cases b with
 | Name y q =>
  unfold lR at e1;dsimp only at e1;split at e1
  ·rename_i ht;rw [Bool.and_eq_true] at ht;obtain ⟨h1,h2⟩:=gN G ht.1;obtain ⟨p,h3,h4⟩:=G.tk _ _ e1;exact ⟨y,p,q,rfl,h1,h2,h3,h4⟩
  ·cases e1
 | _=>cases e1
section
variable {xa xb' xc xd:XR W} {op op' op'':CmpOp} {c':Expr}
def jI {x:XR Bool} {δ:DSt} {h:aA} {Q:DK} (q:Of (cI x) δ h Q):Of x δ h fun b h'=>Q (.d (.bool b)) h':=by
 obtain ⟨w,h',e,q⟩:=q;obtain ⟨⟨b,h2⟩,e1,e2⟩:=map_some e;cases e2;exact ⟨b,_,e1,q⟩
def cX8 {δ:DSt} {h:aA} {Q:Bool->aA->Prop} (q:Of (xC1 op xa xb') δ h Q):dOp (Of2 fun u w h=>(cO op u w h).map asW) (Of xa) (Of xb') δ h (fun w h'=>match w with | .d (.bool b)=>Q b h' | _=>False):=by
 obtain ⟨x,h1,e1,q⟩:=bM q;obtain ⟨y,h2,e2,q⟩:=bM q;obtain ⟨k,h3,e3,q⟩:=q;exact ⟨x,h1,e1,y,h2,e2,.d (.bool k),h3,congrArg (Option.map asW) e3,q⟩
def cX9 {δ:DSt} {h:aA} {Q:Bool->aA->Prop} (q:Of (xC2 op op' xa xb' xc) δ h Q):kU (Of2 fun u w h=>(cO op u w h).map asW) (Of2 fun u w h=>(cO op' u w h).map asW) (Of xa) (Of xb') (Of xc) δ h (fun w h'=>match w with | .d (.bool b)=>Q b h' | _=>False):=by
 obtain ⟨x,h1,e1,q⟩:=bM q;obtain ⟨y,h2,e2,q⟩:=bM q;obtain ⟨r,hr,e,q⟩:=q;obtain ⟨⟨k,h3⟩,e3,e⟩:=bind_some e;refine ⟨x,h1,e1,y,h2,e2,.d (.bool k),h3,congrArg (Option.map asW) e3,?_⟩;dsimp only at e ⊢;cases k with
 | false =>
  rw [if_neg Bool.false_ne_true] at e ⊢;cases e;exact q
 | true =>
  rw [if_pos rfl] at e ⊢;obtain ⟨⟨z,h4⟩,e4,e⟩:=bind_some e;exact ⟨z,h4,e4,.d (.bool r),hr,congrArg (Option.map asW) e,q⟩
def dQ7 {δ:DSt} {h:aA} {Q:Bool->aA->Prop} (q:Of (xC3 op op' op'' xa xb' xc xd) δ h Q):mU (Of2 fun u w h=>(cO op u w h).map asW) (Of2 fun u w h=>(cO op' u w h).map asW) (Of2 fun u w h=>(cO op'' u w h).map asW) (Of xa) (Of xb') (Of xc) (Of xd) δ h (fun w h'=>match w with | .d (.bool b)=>Q b h' | _=>False):=by
 obtain ⟨x,h1,e1,q⟩:=bM q;obtain ⟨y,h2,e2,q⟩:=bM q;obtain ⟨r,hr,e,q⟩:=q;obtain ⟨⟨k,h3⟩,e3,e⟩:=bind_some e;refine ⟨x,h1,e1,y,h2,e2,.d (.bool k),h3,congrArg (Option.map asW) e3,?_⟩;dsimp only at e ⊢;cases k with
 | false =>
  rw [if_neg Bool.false_ne_true] at e ⊢;cases e;exact q
 | true =>
  rw [if_pos rfl] at e ⊢;obtain ⟨⟨z,h4⟩,e4,e⟩:=bind_some e;obtain ⟨⟨k',h5⟩,e5,e⟩:=bind_some e;refine ⟨z,h4,e4,.d (.bool k'),h5,congrArg (Option.map asW) e5,?_⟩;dsimp only at e ⊢;cases k' with
  | false =>
   rw [if_neg Bool.false_ne_true] at e ⊢;cases e;exact q
  | true =>
   rw [if_pos rfl] at e ⊢;obtain ⟨⟨z',h6⟩,e6,e⟩:=bind_some e;exact ⟨z',h6,e6,.d (.bool r),hr,congrArg (Option.map asW) e,q⟩
def aV0 {Q:DK} {w:W} {h:aA} (q:match w with | .d (.bool b)=>Q (.d (.bool b)) h | _=>False):Q w h:=by
 split at q
 ·exact q
 ·exact q.elim
end
def fC {α:Type} {x:XR α} {δ:DSt} {h:aA} {Q Q':α->aA->Prop} (m:∀ a h,Q a h->Q' a h) (q:Of x δ h Q):Of x δ h Q':=by
 obtain ⟨a,h',e,q⟩:=q;exact ⟨a,h',e,m _ _ q⟩
def gH {f:W->W->aA->Option (W×aA)} {u w:W} {h:aA} {Q Q':DK} (m:∀ a h,Q a h->Q' a h) (q:Of2 f u w h Q):Of2 f u w h Q':=by
 obtain ⟨a,h',e,q⟩:=q;exact ⟨a,h',e,m _ _ q⟩
def bL0 {f g:W->W->aA->Option (W×aA)} {xa xb' xc:XR W} {δ:DSt} {h:aA} {Q Q':DK} (m:∀ a h,Q a h->Q' a h) (q:kU (Of2 f) (Of2 g) (Of xa) (Of xb') (Of xc) δ h Q):kU (Of2 f) (Of2 g) (Of xa) (Of xb') (Of xc) δ h Q':=by
 refine fC (fun x h1 q=>fC (fun y h2 q=>gH (fun z h3 q=>?_) q) q) q;split at q
 ·rename_i k;cases k with
  | false=>exact m _ _ q
  | true=>exact fC (fun u h4 q=>gH m q) q
 ·exact q.elim
def bL1 {f g k:W->W->aA->Option (W×aA)} {xa xb' xc xd:XR W} {δ:DSt} {h:aA} {Q Q':DK} (m:∀ a h,Q a h->Q' a h) (q:mU (Of2 f) (Of2 g) (Of2 k) (Of xa) (Of xb') (Of xc) (Of xd) δ h Q):mU (Of2 f) (Of2 g) (Of2 k) (Of xa) (Of xb') (Of xc) (Of xd) δ h Q':=by
 refine fC (fun x h1 q=>fC (fun y h2 q=>gH (fun z h3 q=>?_) q) q) q;split at q
 ·rename_i k;cases k with
  | false=>exact m _ _ q
  | true =>
   refine fC (fun u h4 q=>gH (fun z' h5 q=>?_) q) q;split at q
   ·rename_i k';cases k' with
    | false=>exact m _ _ q
    | true=>exact fC (fun u' h6 q=>gH m q) q
   ·exact q.elim
 ·exact q.elim
theorem oM (S:Snd v) (G:bA X st d):∀ {ops:List CmpOp} {cs:List Expr},DE X (.Compare a ops cs pos) (Of (cI (jX v st a ops cs)))
 | [op],[b]=>by
  show DE X _ (Of (cI (match lR st b with
   | some f=>if op=.NotIn then rA f (v.E st a) else xno
   | none=>if behindInMarks op b=true then xno else xC1 op (v.E st a) (v.E st b))))
  cases ht:lR st b with
  | some f =>
   obtain ⟨y,p,pp,rfl,h1,h2,h3,h4⟩:=xX G ht;dsimp only;split
   ·rename_i ho;subst ho;refine bQ (aF6 h4 h3 (S.E G a) h2 (bX h1)) fun δ h Q q=>?_;obtain ⟨w,h1,e1,q⟩:=bM (jI q);refine ⟨w,h1,e1,?_⟩;dsimp only at q ⊢;split at q
    ·have z:=aZ q;exact z
    ·have z:=aZ q;exact z
    ·exact (bU q).elim
   ·exact bQ gF fun δ h Q q=>(bU (jI q)).elim
  | none =>
   dsimp only;split
   ·exact bQ gF fun δ h Q q=>(bU (jI q)).elim
   ·rename_i hm;exact bQ (cA8 (fB G.rm op) (S.E G a) (S.E G b) (by simpa using hm)) fun δ h Q q=>fC (fun x h1 q=>fC (fun y h2 q=>gH (fun _ _=>aV0) q) q) (cX8 (jI q))
 | [op,op'],[b,c]=>by
  show DE X _ (Of (cI (if lastMarks [op,op'] [b,c]=true then xno else xC2 op op' (v.E st a) (v.E st b) (v.E st c))));split
  ·exact bQ gF fun δ h Q q=>(bU (jI q)).elim
  ·rename_i hm;exact bQ (aP5 (fB G.rm op) (fB G.rm op') (S.E G a) (S.E G b) (S.E G c) (by simpa using hm)) fun δ h Q q=>bL0 (fun _ _=>aV0) (cX9 (jI q))
 | [],_=>bQ gF fun δ h Q q=>(bU (jI q)).elim
 | [_],[]=>bQ gF fun δ h Q q=>(bU (jI q)).elim
 | [_],_::_::_=>bQ gF fun δ h Q q=>(bU (jI q)).elim
 | [_,_],[]=>bQ gF fun δ h Q q=>(bU (jI q)).elim
 | [_,_],[_]=>bQ gF fun δ h Q q=>(bU (jI q)).elim
 | [_,_],_::_::_::_=>bQ gF fun δ h Q q=>(bU (jI q)).elim
 | _::_::_::_,_=>bQ gF fun δ h Q q=>(bU (jI q)).elim
def aH8 (S:Snd v) (G:bA X st d):∀ {ops:List CmpOp} {cs:List Expr},DE X (.Compare a ops cs pos) (Of (cI (kY v st a ops cs))):=fun {ops cs}=>by
 rcases ops with _ | ⟨op,_ | ⟨op',_ | ⟨op'',_ | ⟨o4,r⟩⟩⟩⟩<;>first | exact oM S G | skip
 rcases cs with _ | ⟨b,_ | ⟨c,_ | ⟨d',_ | ⟨c4,r⟩⟩⟩⟩<;>first | exact oM S G | skip
 unfold kY;dsimp only;split
 ·exact bQ gF fun δ h Q q=>(bU (jI q)).elim
 ·rename_i hm;exact bQ (aF9 (fB G.rm op) (fB G.rm op') (fB G.rm op'') (S.E G a) (S.E G b) (S.E G c) (S.E G d') (by simpa using hm)) fun δ h Q q=>bL1 (fun _ _=>aV0) (dQ7 (jI q))
theorem aH9 (S:Snd v) (G:bA X st d):∀ {ops:List CmpOp} {cs:List Expr},DT X (.Compare a ops cs pos) (Of (jX v st a ops cs))
 | [op],[b]=>by
  show DT X _ (Of (match lR st b with
   | some f=>if op=.NotIn then rA f (v.E st a) else xno
   | none=>if behindInMarks op b=true then xno else xC1 op (v.E st a) (v.E st b)))
  cases ht:lR st b with
  | some f =>
   obtain ⟨y,p,pp,rfl,h1,h2,h3,h4⟩:=xX G ht;dsimp only;split
   ·rename_i ho;subst ho;refine aT8 (aF7 h4 h3 (S.E G a) h2 (bX h1)) fun δ h Q q=>?_;obtain ⟨w,h1,e1,q⟩:=bM q;refine ⟨w,h1,e1,?_⟩;dsimp only at q ⊢;split at q
    ·exact aZ q
    ·exact aZ q
    ·exact (bU q).elim
   ·exact mG
  | none =>
   dsimp only;split
   ·exact mG
   ·rename_i hm;exact aT8 (cA9 (fB G.rm op) (S.E G a) (S.E G b) (by simpa using hm)) fun δ h Q q=>cX8 q
 | [op,op'],[b,c]=>by
  show DT X _ (Of (if lastMarks [op,op'] [b,c]=true then xno else xC2 op op' (v.E st a) (v.E st b) (v.E st c)));split
  ·exact mG
  ·rename_i hm;exact aT8 (aP6 (fB G.rm op) (fB G.rm op') (S.E G a) (S.E G b) (S.E G c) (by simpa using hm)) fun δ h Q q=>cX9 q
 | [],_=>mG
 | [_],[]=>mG
 | [_],_::_::_=>mG
 | [_,_],[]=>mG
 | [_,_],[_]=>mG
 | [_,_],_::_::_::_=>mG
 | _::_::_::_,_=>mG
def aV1:(∀ x y:PyData,peq x y=true->x=y)/\True:=⟨fun x=>by
 intro y h;exact (PyData.rec (motive_1:=fun x=>∀ y,peq x y=true->x=y) (motive_2:=fun xs=>∀ ys,peqs xs ys=true->xs=ys) (motive_3:=fun _=>True) (motive_4:=fun _=>True)
  (fun y h=>by cases y<;>first | rfl | (simp [peq] at h))
  (fun b y h=>by cases y<;>first | (simp only [peq] at h;rw [eq_of_beq h]) | (simp [peq] at h))
  (fun b y h=>by cases y<;>first | (simp only [peq] at h;rw [eq_of_beq h]) | (simp [peq] at h))
  (fun b y h=>by cases y<;>first | (simp only [peq] at h;rw [eq_of_beq h]) | (simp [peq] at h))
  (fun xs ih y h=>by cases y<;>first | (simp only [peq] at h;rw [ih _ h]) | (simp [peq] at h))
  (fun xs ih y h=>by cases y<;>first | (simp only [peq] at h;rw [ih _ h]) | (simp [peq] at h))
  (fun kvs _ y h=>by cases y<;>simp [peq] at h)
  (fun ys h=>by cases ys<;>first | rfl | (simp [peqs] at h))
  (fun x xs ih1 ih2 ys h=>by
   cases ys with
   | nil=>simp [peqs] at h
   | cons y ys =>
    simp only [peqs,Bool.and_eq_true] at h;rw [ih1 _ h.1,ih2 _ h.2])
  trivial (fun _ _ _ _=>trivial) (fun _ _ _ _=>trivial) x) y h,trivial⟩
theorem aA0:∀ {xs ys:List PyData},peqs xs ys=true->xs=ys
 | [],[],_=>rfl
 | [],_::_,h=>by simp [peqs] at h
 | _::_,[],h=>by simp [peqs] at h
 | x::xs,y::ys,h=>by
  simp only [peqs,Bool.and_eq_true] at h;rw [aV1.1 x y h.1,aA0 h.2]
def mX {c:Option Nat} {xs:List PyData} {h:aA} (e:oE c xs h=true):DL.cond c xs h:=by
 cases c with
 | none=>trivial
 | some i =>
  show h[i]?=some (.l xs);unfold oE at e;dsimp only at e;split at e
  ·rename_i ys q;rw [q,aA0 e]
  ·cases e
def iJ {tg:Expr} {y:XR W} (h:DE X e (Of y)):DI X tg e (OfI (cJ y)):=aT9 (bF8 h) fun δ h Q q=>by
 obtain ⟨xs,c,h',e,q⟩:=q;obtain ⟨⟨w,h1⟩,e1,e⟩:=bind_some e;refine ⟨w,h1,e1,?_⟩;dsimp only at e ⊢;split at e
 ·cases e;exact q
 ·cases e;exact q
 ·split at e
  ·rename_i ys ey;try dsimp only
   try rw [ey]
   cases e;exact q
  ·cases e
 ·cases e
def aV2 {i j:Int} (h:iW i j=true):j - i<=16000000/\-(2^62)<=i/\i < 2^62/\-(2^62)<=j/\j < 2^62:=by
 unfold iW at h
 simpa only [Bool.and_eq_true,decide_eq_true_eq] using h
def bL2 {tg:Expr} {y:XR (List PyData×Option Nat)} (n:∀ δ h,y δ h=none):DI X tg e (OfI y):=aT9 cU8 fun δ h Q q=>by
 obtain ⟨_,_,_,e,_⟩:=q;rw [n] at e;cases e
def xY (S:Snd v) (G:bA X st d) {tg:Expr}:∀ e,DI X tg e (OfI (vK v st tg e)):=fun e=>by
 cases e<;>first | exact iJ (S.E G _) | exact bL2 fun _ _=>rfl | skip
 case Call f args kw p' =>
  cases f<;>first | exact iJ (S.E G _) | skip
  case Name x p =>
   rcases args with _ | ⟨a,_ | ⟨b,_ | ⟨c,r⟩⟩⟩
   ·exact iJ (S.E G _)
   ·cases kw with
    | cons _ _=>exact iJ (S.E G _)
    | nil =>
     unfold vK;dsimp only;split
     ·rename_i hx;subst hx;split
      ·rename_i hc;simp only [Bool.and_eq_true] at hc;obtain ⟨⟨⟨ht,_⟩,hb⟩,hs⟩:=hc;refine aT9 (aE5 (G.bl _ hb) (aY (S.E G a) cK (aK hs _)) (gN G ht).2 (aK hs _)) fun δ h Q q=>?_;obtain ⟨xs,c,h',e,q⟩:=q;obtain ⟨⟨w,h1⟩,e1,e⟩:=bind_some e;refine ⟨w,h1,e1,?_⟩;dsimp only [pL] at e ⊢;split at e
       ·split at e
        ·rename_i hr;have z:=aV2 hr;cases e;exact ⟨⟨by omega,z.2.2.2.1⟩,q⟩
        ·cases e
       ·cases e
      ·exact bL2 fun _ _=>rfl
     ·exact iJ (S.E G _)
   ·cases kw with
    | cons _ _=>exact iJ (S.E G _)
    | nil =>
     unfold vK;dsimp only;split
     ·rename_i hx;subst hx;split
      ·rename_i hc;simp only [Bool.and_eq_true] at hc;obtain ⟨⟨⟨⟨ht,_⟩,hb⟩,hs⟩,hs2⟩:=hc;refine aT9 (aE6 (G.bl _ hb) (aY (S.E G a) (aY (S.E G b) cK (aK hs2 _)) (aK hs _)) (gN G ht).2 (by rw [aK hs,aK hs2];rfl) (aK hs2 _)) fun δ h Q q=>?_;obtain ⟨xs,c,h',e,q⟩:=q;obtain ⟨⟨u,h1⟩,e1,e⟩:=bind_some e;obtain ⟨⟨w,h2⟩,e2,e⟩:=bind_some e;refine ⟨u,h1,e1,w,h2,e2,?_⟩;dsimp only [pL] at e ⊢;split at e
       ·split at e
        ·rename_i hr;have z:=aV2 hr;cases e;exact ⟨z,q⟩
        ·cases e
       ·cases e
      ·exact bL2 fun _ _=>rfl
     ·split
      ·rename_i hx;subst hx;split
       ·rename_i hc;simp only [Bool.and_eq_true] at hc;obtain ⟨⟨⟨⟨⟨ht,_⟩,hb⟩,hs⟩,hs2⟩,htg⟩:=hc;have htu:∃ es n tp,tg=.Tuple es n tp:=by
         unfold aT2 at htg;split at htg
         ·exact ⟨_,_,_,rfl⟩
         ·cases htg
        obtain ⟨es,n,tp,rfl⟩:=htu;refine aT9 (cG5 (G.bl _ hb) (aY (S.E G a) (aY (S.E G b) cK (aK hs2 _)) (aK hs _)) (gN G ht).2 (by rw [aK hs,aK hs2];rfl) (aK hs2 _)) fun δ h Q q=>?_;obtain ⟨xs,c,h',e,q⟩:=q;obtain ⟨⟨u,h1⟩,e1,e⟩:=bind_some e;obtain ⟨⟨w,h2⟩,e2,e⟩:=bind_some e;refine ⟨u,h1,e1,w,h2,e2,?_⟩;dsimp only [pL] at e ⊢;split at e
        ·rename_i xs' ys' ex ey;cases e;exact ⟨u,w,xs',ys',rfl,ex,ey,q⟩
        ·cases e
       ·exact bL2 fun _ _=>rfl
      ·exact iJ (S.E G _)
   ·exact iJ (S.E G _)
def xZ (h:rB e=false) (env:Env) (y:Value):foldedSetIterable e env y=pure y:=by
 cases e<;>first | rfl | cases h
theorem jZ {g:XG} {tt:XR Bool} {te:XR W} {c:Option Nat} {all:List PyData} {Q:List PyData->aA->Prop}:∀ (rest:List PyData) (δ:DSt) (h:aA) (ac r:List PyData) (h':aA),aV g tt te c all rest δ h ac=some (r,h')->Q r h'->uY (OfG g) (Of tt) (Of te) c all rest δ h ac Q
 | [],δ,h,ac,r,h',e,q=>by
  unfold aV at e;split at e
  ·rename_i hc;cases e;exact ⟨mX hc,q⟩
  ·cases e
 | x::rest,δ,h,ac,r,h',e,q=>by
  unfold aV at e;split at e
  ·rename_i hc;obtain ⟨⟨δ2,h2⟩,e1,e⟩:=bind_some e;obtain ⟨⟨k,h3⟩,e2,e⟩:=bind_some e;refine ⟨mX hc,δ2,h2,e1,k,h3,e2,?_⟩;dsimp only at e ⊢;split at e
   ·rename_i hk;rw [if_pos hk];obtain ⟨⟨w,h4⟩,e3,e⟩:=bind_some e;refine ⟨w,h4,e3,?_⟩;cases w with
    | d z=>exact jZ rest δ2 h4 (ac++[z]) r h' e q
    | c i=>cases e
    | v u=>cases e
   ·rename_i hk;rw [if_neg hk];exact jZ rest δ2 h3 ac r h' e q
  ·cases e
def aI0 (N:List Str) (sc:Scope):(vL N sc).length=(xT sc).length:=by unfold vL;rw [List.length_map]
def tG {N:List Str} {sc S:Scope} (h:zP N sc S=true):CompSc N (xT sc) (vL N sc) S sc:=by
 unfold zP at h;simp only [Bool.and_eq_true,decide_eq_true_eq,List.all_eq_true] at h;obtain ⟨h1,h2,h3,h4,h5,h6⟩:=h;refine ⟨h1,fun y hy e=>?_,fun y hy e=>?_,fun y hy e=>?_,h5,aI0 N sc,?_⟩
 ·have:=h2 y hy;rw [e] at this;simp at this
 ·have:=h3 y hy;rw [e] at this
  simpa using this
 ·have:=h4 y hy;rw [e] at this
  simpa using this
 ·rw [List.all_eq_true];exact h6
def gI (G:bA X st d) {sc:Scope} (hc:zP st.N sc st.S=true) (cl:List (Str×Addr)) (C:Addr) (s:Shared) (H:Hp) (fp:List Addr):bA (blk X (xT sc) sc cl C s H fp) (st.blk sc) d:=by
 have SC:=tG hc;refine ⟨G.bl,G.gc,G.tk,G.fn,rfl,?_,SC.nd,G.xe,G.calm,G.rm,(fun z=>nomatch z),SC.kind,G.fnW,G.cls,G.om,G.fo⟩;show relabel sc X.env=cI0 sc st.S;unfold relabel cI0 Env.kindOf;rw [G.S]
theorem aV3 (S:Snd v) (G:bA X st d):∀ ifs,DIf X ifs (Of (cW6 v st ifs))
 | []=>cX5 bG1 fun δ h Q q=>aZ q
 | [c]=>bG2 (S.T G c)
 | _::_::_=>fun pins s σ H Q I ⟨_,_,_,_,_,_,q,_⟩=>(bU q).elim
def cJ1 (S:Snd v) (G:bA X st d) {elt tg iter:Expr} {ifs:List Expr} {sc:Scope}:DF X (.ListComp elt [⟨tg,iter,ifs,0⟩] sc pos) (Of (rC v st elt tg iter ifs sc)):=by
 unfold rC;split
 ·rename_i hc;rw [Bool.and_eq_true] at hc;have hs:rB iter=false:=by simpa using hc.2
  refine tE (bG3 G.xe G.calm G.S G.N (tG hc.1) (xY S G iter) (fun cl C s H fp=>S.G (gI G hc.1 cl C s H fp) tg) (fun cl C s H fp=>aV3 S (gI G hc.1 cl C s H fp) ifs)
   (fun cl C s H fp=>S.E (gI G hc.1 cl C s H fp) elt) (xZ hs _)) fun δ h Q q=>?_
  obtain ⟨r,h',e,q⟩:=q;obtain ⟨⟨⟨xs,c⟩,h1⟩,e1,e⟩:=bind_some e;exact ⟨xs,c,h1,e1,jZ _ _ _ _ _ _ e q⟩
 ·exact iX
def cY0 (S:Snd v) (G:bA X st d):DF X (.List es pos) (Of (xPl (dW v st es))):=tE (xF (eG S G es)) fun δ h Q q=>by
 obtain ⟨ws,h1,e1,q⟩:=bM q;refine ⟨ws,h1,e1,?_⟩;obtain ⟨r,h',e,q⟩:=q;dsimp only at e ⊢;split at e
 ·rename_i xs ex;try rw [ex]
  split at e
  ·rename_i hl;cases e;exact ⟨hl,q⟩
  ·cases e
 ·cases e
def cJ2 {l:List Expr} {b:Expr} (e:rgA l=some b):∃ p q,l=[.Call (.Name "range" p) [b] [] q]:=by
 unfold rgA at e;split at e
 ·split at e
  ·rename_i hy;subst hy;cases e;exact ⟨_,_,rfl⟩
  ·cases e
 ·cases e
def tH (G:bA X st d) (h:okC st x=true):Gl X x/\X.mg x=none:=by
 unfold okC at h;simp only [Bool.and_eq_true] at h;exact ⟨(gN G h.1.1).2,G.bl _ h.2⟩
def lB (S:Snd v) (G:bA X st d):∀ e,DF X e (Of (eV v st e)):=fun e=>by
 cases e<;>first | exact iX | skip
 case List=>exact cY0 S G
 case ListComp elt gs sc p =>
  cases gs with
  | nil=>exact iX
  | cons g r =>
   obtain ⟨tg,iter,ifs,a'⟩:=g;cases r with
   | cons _ _=>exact iX
   | nil =>
    unfold eV;dsimp only;split
    ·rename_i ha;subst ha;exact cJ1 S G
    ·exact iX
 case Subscript a s p =>
  cases s<;>first | exact iX | skip
  case Slice lo hi stp p2 =>
   cases stp with
   | some _=>exact iX
   | none =>
    unfold eV;dsimp only;refine tE (aO2 (S.E G a) (rE S G lo) (rE S G hi)) fun δ h Q q=>?_;obtain ⟨x,h1,e1,q⟩:=bM q;obtain ⟨l,h2,e2,q⟩:=bM q;obtain ⟨u,h3,e3,q⟩:=bM q;obtain ⟨r,h',e,q⟩:=q;refine ⟨x,h1,e1,l,h2,e2,u,h3,e3,?_⟩;dsimp only at e ⊢;split at e
    ·rename_i xs ex;try rw [ex]
     cases e;exact q
    ·cases e
 case BinOp a op b p' =>
  cases op<;>first | exact iX | skip
  case Add =>
   unfold eV;dsimp only;refine tE (bI8 (S.E G a) (S.E G b)) fun δ h Q q=>?_;obtain ⟨x,h1,e1,q⟩:=bM q;obtain ⟨y,h2,e2,q⟩:=bM q;obtain ⟨r,h',e,q⟩:=q;refine ⟨x,h1,e1,y,h2,e2,?_⟩;dsimp only at e ⊢;split at e
   ·rename_i xs ys ex ey;try rw [ex,ey]
    split at e
    ·rename_i hl;cases e;exact ⟨hl,q⟩
    ·cases e
   ·cases e
  case Mult =>
   cases a<;>first | exact iX | skip
   case List es p =>
    unfold eV;dsimp only;refine tE (cG1 (cJ0 (cY0 S G)) (S.E G b)) fun δ h Q q=>?_;obtain ⟨x,h1,e1,q⟩:=bM q;obtain ⟨y,h2,e2,q⟩:=bM q;obtain ⟨r,h',e,q⟩:=q;refine ⟨x,h1,e1,y,h2,e2,?_⟩;dsimp only at e ⊢;split at e
    ·split at e
     ·rename_i xs ex;try dsimp only
      try rw [ex]
      split at e
      ·rename_i hl;cases e;exact ⟨hl,q⟩
      ·cases e
     ·cases e
    ·cases e
 case Call f args kw p' =>
  cases f<;>first | exact iX | skip
  case Name x p =>
   cases args with
   | nil=>exact iX
   | cons a es =>
    cases kw with
    | cons _ _=>exact iX
    | nil =>
     unfold eV;dsimp only;split
     ·rename_i hx;subst hx;split
      ·rename_i b hb;obtain ⟨p1,p2,hb⟩:=cJ2 hb;cases hb;split
       ·rename_i hc;simp only [Bool.and_eq_true] at hc;obtain ⟨⟨h1,h2⟩,h3⟩:=hc;refine tE (aH1 G.calm (tH G h1).1 (tH G h1).2 (tH G h2).1 (tH G h2).2 (eG S G [b]) (aK h3 _)) fun δ h Q q=>?_;obtain ⟨ws,h1,e1,q⟩:=bM q;obtain ⟨r,h',e,q⟩:=q;refine ⟨ws,h1,e1,?_⟩;dsimp only at e;split at e
        ·split at e
         ·rename_i hz;cases e;exact ⟨_,rfl,hz,q⟩
         ·cases e
        ·cases e
       ·exact iX
      split
      ·rename_i hc;simp only [Bool.and_eq_true] at hc;obtain ⟨⟨ht,_⟩,hb⟩:=hc;refine dQ6 ((a::es).all aN=true) (fun δ h r e=>?_) fun hst=>?_
       ·obtain ⟨p,e1,_⟩:=bind_some e;exact fF _ _ _ _ e1
       ·have hst':=hst;rw [List.all_cons,Bool.and_eq_true] at hst';refine tE (bF0 (G.bl _ hb) (eG S G (a::es)) (gN G ht).2 (aK hst'.1 _) (dR es _ _ hst'.2)) fun δ h Q q=>?_;obtain ⟨ws,h1,e1,q⟩:=bM q;obtain ⟨r,h',e,q⟩:=q;refine ⟨ws,h1,e1,?_⟩;dsimp only at e ⊢;split at e
        ·split at e
         ·rename_i xs ex;try dsimp only
          try rw [ex]
          cases e;exact q
         ·rename_i xs ex;try dsimp only
          try rw [ex]
          cases e;exact q
         ·cases e
        ·cases e
      ·exact iX
     ·exact iX
end
section
variable {X:Cx} {st:Sta} {d:Nat} {x:Str} {v:Evs} {a b c e:Expr} {es:List Expr} {pos:Pos}
def bfun_ok (G:bA X st d) {g:List W->aA->Option (W×aA)} (e:cH6 x=some g) :
  (∃ id,bootBuiltins x=some (.builtin id)/\cU X (.builtin id) (upC X.K (OfC g)))\/∃ T,bootBuiltins x=some (.type T)/\cU X (.type T) (upC X.K (OfC g)):=by
 unfold cH6 at e;split at e
 ·rename_i hx;subst hx;cases e;refine .inl ⟨"len",rfl,xU aE4 fun ws h Q ⟨r,h',e,q⟩=>?_⟩;unfold cA at e;unfold cC0;split at e
  ·split at e
   ·rename_i ey;dsimp only;rw [ey];cases e;exact q
   ·rename_i ey;dsimp only;rw [ey];cases e;exact q
   ·cases e
  ·cases e
 split at e
 ·rename_i hx;subst hx;cases e;refine .inr ⟨"tuple",rfl,xU uV fun ws h Q ⟨r,h',e,q⟩=>?_⟩;unfold cQ at e;unfold xI;split at e
  ·split at e
   ·rename_i ey;dsimp only;rw [ey];cases e;exact q
   ·rename_i ey;dsimp only;rw [ey];cases e;exact q
   ·cases e
  ·cases e
 split at e
 ·rename_i hx;subst hx;cases e;refine .inl ⟨"all",rfl,xU (aF2 G.calm) fun ws h Q ⟨r,h',e,q⟩=>?_⟩;unfold jW at e;unfold cD1;split at e
  ·split at e
   ·rename_i ey;dsimp only;rw [ey];obtain ⟨bs,e1,e2⟩:=map_some e;dsimp only;rw [e1];cases e2;exact q
   ·cases e
  ·cases e
 split at e
 ·rename_i hx;subst hx;cases e;exact .inr ⟨"int",rfl,aH0⟩
 ·cases e
def cJ3 {T:Str} {Ts:String} (e:cH7 T=some Ts):lN Ts/\bootBuiltins T=some (.type Ts):=by
 unfold cH7 at e
 repeat' split at e
 all_goals first | (rename_i h;subst h;cases e;exact ⟨bG4,rfl⟩) | (rename_i h;subst h;cases e;exact ⟨aP2,rfl⟩) | (rename_i h;subst h;cases e;exact ⟨bG5,rfl⟩) | (rename_i h;subst h;cases e;exact ⟨aF3,rfl⟩) | (rename_i h;subst h;cases e;exact ⟨aP3,rfl⟩) | cases e
def base_of {o:Expr} (h:oF o=true) (m:Str) (env:Env):attributeBase o m env (eval o env)=eval o env:=by
 cases o<;>first | rfl | cases h
def yA (h:(e::es).all aN=true) (hl:(e::es).length < 29) (env:Env) (cpos:Pos) :
  ((backTo cpos (starEach (e::es) env)).all (fun x=>!x.1)&&(backToKw cpos (keywordEach [] env)).all (fun x=>x.1.isSome)
   && decide ((e::es).length+([]:List Keyword).length+(if ([]:List Keyword).isEmpty then 0 else 1) < 30))=true:=by
 rw [vP _ _ _ h];have:(e::es).length+0+0 < 30:=by omega
 show (true&&true&&decide _)=true;simp only [Bool.true_and,decide_eq_true_eq];exact this
def aV4 (S:Snd v) (G:bA X st d) {o:Expr} {m:Str} {apos:Pos} {g:W->List W->aA->Option (W×aA)} (ho:oF o=true) (hl:(apos.endLine==pos.line)=true) (hn:(a::es).length < 29) (hm:cI1 m=some g) :
  DE X (.Call (.Attribute o m apos) (a::es) [] pos) (Of (bU0 v st o m g (a::es))):=by
 refine bK9 ((a::es).all aN=true) (fun δ h r e=>?_) fun hst=>?_
 ·obtain ⟨p,e1,e⟩:=bind_some e;dsimp only at e;split at e
  ·obtain ⟨p,e2,e⟩:=bind_some e;exact fF _ _ _ _ e2
  ·cases e
 have hst':=hst;rw [List.all_cons,Bool.and_eq_true] at hst';unfold cI1 at hm;split at hm
 ·rename_i hx;subst hx;cases hm;refine bQ (cC7 (S.E G o) (eG S G (a::es)) (base_of ho _ _) (yA hst hn _ _) hl (aK hst'.1 _) (dR _ _ _ hst'.2)) fun δ h Q q=>?_;obtain ⟨w,h1,e1,q⟩:=bM q;refine ⟨w,h1,e1,?_⟩;obtain ⟨r,h',e,q⟩:=q;dsimp only at e ⊢;split at e
  ·rename_i hp;obtain ⟨⟨ws,h2⟩,e2,e⟩:=bind_some e;dsimp only at e;split at e
   ·rename_i j x _;dsimp only;have hp':∃ ys,h1[j]?=some (.l ys):=by
     unfold pQ at hp;rw [if_pos rfl] at hp;dsimp only at hp;split at hp
     ·rename_i ys ey;exact ⟨ys,ey⟩
     ·cases hp
    obtain ⟨ys,ey⟩:=hp';rw [ey];refine ⟨_,h2,e2,?_⟩;dsimp only;split at e
    ·rename_i xs ex;rw [ex];split at e
     ·rename_i hl;cases e;exact ⟨hl,q⟩
     ·cases e
    ·cases e
   ·cases e
  ·cases e
 ·cases hm
def cY1 (S:Snd v) (G:bA X st d) {o:Expr} {apos:Pos} (ho:oF o=true) (hl:(apos.endLine==pos.line)=true) (ha:aN a=true) :
  DE X (.Call (.Attribute o "pop" apos) [a] [] pos) (Of (cW7 v st o a)):=by
 intro pins s σ H Q I hq;obtain ⟨δ,h,A,μ,k,R,⟨r,h',e,q⟩,c⟩:=hq;obtain ⟨⟨w,h1⟩,e1,e⟩:=bind_some e;dsimp only at e;have hst:[a].all aN=true:=by simp [ha]
 split at e
 ·rename_i j;split at e
  ·rename_i xs ex;obtain ⟨⟨ws,h2⟩,e2,e⟩:=bind_some e;refine cH0 (S.E G o) (eG S G [a]) (base_of ho _ _) (yA hst (by simp) _ _) hl (aK ha _) (dR _ _ _ rfl) pins s σ H Q I ⟨δ,h,A,μ,k,R,⟨.c j,h1,e1,?_⟩,c⟩;dsimp only;rw [ex];refine ⟨ws,h2,e2,?_⟩;unfold aT3 at e;dsimp only at e ⊢;split at e
   ·rename_i i ys ey;obtain ⟨n,e3,e⟩:=bind_some e;obtain ⟨x,e4,e⟩:=bind_some e;split at e
    ·rename_i hi;cases e;try rw [ey]
     exact ⟨n,x,e3,e4,hi.1,hi.2,q⟩
    ·cases e
   ·cases e
  ·cases e
 ·cases e
def cY2 (S:Snd v) (G:bA X st d) {o:Expr} {apos:Pos} (ho:oF o=true) (hl:(apos.endLine==pos.line)=true) (ha:aN a=true) :
  DE X (.Call (.Attribute o "extend" apos) [a] [] pos) (Of (cW8 v st o a)):=by
 refine bQ (cH2 (S.E G o) (S.F G a) (base_of ho _ _) (yA (by simp [ha]) (by simp) _ _) hl (aK ha _)) fun δ h Q q=>?_;obtain ⟨w,h1,e1,q⟩:=bM q;refine ⟨w,h1,e1,?_⟩;obtain ⟨r,h',e,q⟩:=q;dsimp only at e ⊢;split at e
 ·rename_i j;split at e
  ·rename_i ys ey;obtain ⟨⟨zs,h2⟩,e2,e⟩:=bind_some e;try dsimp only
   try rw [ey]
   refine ⟨zs,h2,e2,?_⟩;try dsimp only at e ⊢
   split at e
   ·rename_i xs ex;try rw [ex]
    split at e
    ·rename_i hz;cases e;exact ⟨hz,q⟩
    ·cases e
   ·cases e
  ·cases e
 ·cases e
def gP (S:Snd v) (G:bA X st d) {f:Expr} {args:List Expr}:DE X (.Call f args [] pos) (Of (zQ v st f args pos)):=by
 unfold zQ;split
 ·rename_i y p;split
  ·rename_i hc;rw [Bool.and_eq_true] at hc;obtain ⟨ht,hs⟩:=hc;obtain ⟨hn,hg⟩:=gN G ht;split
   ·rename_i m hm;split
    ·exact cR
    ·rename_i a es;refine bK9 ((a::es).all aN=true) (fun δ h r e=>?_) fun hst=>?_
     ·obtain ⟨p,e1,e⟩:=bind_some e;exact fF _ _ _ _ e1
     have hst':=hst;rw [List.all_cons,Bool.and_eq_true] at hst';refine bQ (aS2 (G.fnW y m hm) G.rm (eG S G (a::es)) hg (bX hn) (aK hst'.1 _) (dR _ _ _ hst'.2)) fun δ h Q q=>?_;obtain ⟨ws,h1,e1,q⟩:=bM q;exact ⟨ws,h1,e1,q⟩
   split
   ·rename_i m hm;split
    ·refine bQ (aS5 (G.fn y m hm) G.rm hg (bX hn)) fun δ h Q q=>?_;obtain ⟨r,h',e,q⟩:=q;obtain ⟨p,e2,e3⟩:=bind_some e;cases e3;exact ⟨p.1,p.2,e2,q⟩
    ·rename_i a es;refine bK9 ((a::es).all aN=true) (fun δ h r e=>?_) fun hst=>?_
     ·obtain ⟨p,e1,e⟩:=bind_some e;exact fF _ _ _ _ e1
     have hst':=hst;rw [List.all_cons,Bool.and_eq_true] at hst';refine bQ (zI (G.fn y m hm) G.rm (eG S G (a::es)) hg (bX hn) (aK hst'.1 _) (dR _ _ _ hst'.2)) fun δ h Q q=>?_;obtain ⟨ws,h1,e1,q⟩:=bM q;refine ⟨ws,h1,e1,?_⟩;obtain ⟨r,h',e,q⟩:=q;obtain ⟨p,e2,e3⟩:=bind_some e;cases e3;exact ⟨p.1,p.2,e2,q⟩
   ·split
    ·rename_i hb;split
     ·rename_i g hg';split
      ·exact cR
      ·rename_i a es;refine bK9 ((a::es).all aN=true) (fun δ h r e=>?_) fun hst=>?_
       ·obtain ⟨p,e1,e⟩:=bind_some e;exact fF _ _ _ _ e1
       have hst':=hst;rw [List.all_cons,Bool.and_eq_true] at hst';rcases bfun_ok G hg' with ⟨id,hv,hcr⟩ | ⟨T,hv,hcr⟩
       ·refine bQ (uU hcr (G.bl _ hb) (eG S G (a::es)) hv hg (lA hn) (bX hn) (aK hst'.1 _) (dR _ _ _ hst'.2)) fun δ h Q q=>?_;obtain ⟨ws,h1,e1,q⟩:=bM q;exact ⟨ws,h1,e1,q⟩
       ·refine bQ (aE3 hcr (G.bl _ hb) (eG S G (a::es)) hv hg (lA hn) (bX hn) (aK hst'.1 _) (dR _ _ _ hst'.2)) fun δ h Q q=>?_;obtain ⟨ws,h1,e1,q⟩:=bM q;exact ⟨ws,h1,e1,q⟩
     ·split
      ·rename_i hx;subst hx;split
       ·rename_i e0 T pT;split
        ·rename_i hc;simp only [Bool.and_eq_true] at hc;obtain ⟨⟨⟨h1,h2⟩,h3⟩,h4⟩:=hc;obtain ⟨hnT,hgT⟩:=gN G h2;split
         ·rename_i Ts hT;obtain ⟨hk,hv⟩:=cJ3 hT;refine bQ (cD2 hk (G.bl _ hb) (G.bl _ h4) (S.E G e0) hv hg hgT (lA hnT) (bX hnT) (aK h1 _) (aK rfl _) (dR _ _ _ rfl)) fun δ h Q q=>?_;obtain ⟨w,h1,e1,q⟩:=bM q;refine ⟨w,h1,e1,?_⟩;obtain ⟨r,h',e,q⟩:=q;obtain ⟨z,e2,e3⟩:=bind_some e;rw [e2];cases e3;exact q
         ·exact cR
        ·exact cR
       ·exact cR
      ·exact zZ (lB S G _)
    ·exact cR
  ·exact cR
 ·rename_i o m apos;split
  ·rename_i hc;rw [Bool.and_eq_true] at hc;split
   ·exact cR
   ·rename_i a es;split
    ·rename_i hm;subst hm;split
     ·split
      ·rename_i hz;exact cY1 S G hc.1 hc.2 hz
      ·exact cR
     ·exact cR
    split
    ·rename_i hm;subst hm;split
     ·split
      ·rename_i hz;exact cY2 S G hc.1 hc.2 hz
      ·exact cR
     ·exact cR
    split
    ·rename_i hl;split
     ·rename_i g hg;exact aV4 S G hc.1 hc.2 (by simpa using hl) hg
     ·exact cR
    ·exact cR
  ·exact cR
 ·exact cR
def bL3 (h:bK0 e=false):jN e:=by
 intro o i;cases e<;>first | rfl | cases h
def tI (G:bA X st d) (h:okB st x=true):Gl X x/\X.mg x=none:=by
 unfold okB at h;simp only [Bool.and_eq_true] at h;exact ⟨(gN G h.1.1.1).2,G.bl _ h.1.2⟩
def cJ4 (S:Snd v) (G:bA X st d) {f:Expr} {args:List Expr}:DE X (.Call f args [] pos) (Of (aT4 v st f args pos)):=by
 cases f<;>first | exact gP S G | skip
 case Name x p =>
  rcases args with _ | ⟨a,_ | ⟨b,r⟩⟩
  ·exact gP S G
  ·cases a<;>first | exact gP S G | skip
   case Call g as kw pos2 =>
    cases g<;>first | exact gP S G | skip
    case Name y p2 =>
     cases kw with
     | cons _ _=>exact gP S G
     | nil =>
      unfold aT4;dsimp only;split
      ·rename_i hxy;obtain ⟨rfl,rfl⟩:=hxy;split
       ·rename_i a;split
        ·rename_i hc;simp only [Bool.and_eq_true] at hc;obtain ⟨⟨h1,h2⟩,h3⟩:=hc;refine bQ (bJ6 G.calm (tI G h1).1 (tI G h1).2 (tI G h2).1 (tI G h2).2 (eG S G [a]) (aK h3 _)) fun δ h Q q=>?_;obtain ⟨ws,h1,e1,q⟩:=bM q;refine ⟨ws,h1,e1,?_⟩;obtain ⟨r,h',e,q⟩:=q;dsimp only at e;unfold xLS at e;split at e
         ·split at e
          ·rename_i en;split at e
           ·rename_i hl;cases e;exact ⟨_,_,rfl,en,hl,q⟩
           ·cases e
          ·cases e
         ·cases e
        ·exact cR
       ·exact cR
      ·exact gP S G
  ·cases a<;>first | exact gP S G | skip
   case Call g as kw pos2 =>
    cases g<;>first | exact gP S G | skip
    case Name y p2=>cases kw<;>exact gP S G
def cJ5 (S:Snd v) (G:bA X st d):∀ e,DE X e (Of (lS v st e)):=fun e=>by
 cases e<;>first | exact cR | skip
 case Name=>exact cI4 G
 case Constant=>exact bK3
 case BinOp a op b p =>
  unfold lS;dsimp only;split
  ·rename_i es p';exact zZ (lB S G (.BinOp (.List es p') .Mult b p))
  ·refine bQ (bQ5 (bK6 op) (S.E G a) (S.E G b)) fun δ h Q q=>?_;obtain ⟨x,h1,e1,q⟩:=bM q;obtain ⟨y,h2,e2,q⟩:=bM q;exact ⟨x,h1,e1,y,h2,e2,q⟩
 case Compare=>exact aH8 S G
 case BoolOp op vs p=>cases op with
  | And=>exact aU8 S G _
  | Or=>exact bU5 S G _
 case UnaryOp op a p =>
  cases op<;>first | exact cR | skip
  case Not =>
   unfold lS;dsimp only;refine bQ (aN9 (S.E G a)) fun δ h Q q=>?_;obtain ⟨w,h1,e1,q⟩:=bM q;refine ⟨w,h1,e1,?_⟩;dsimp only at q ⊢;split at q
   ·exact aZ q
   ·exact (bU q).elim
  case USub =>
   unfold lS;dsimp only;refine bQ (cF5 (S.E G a)) fun δ h Q q=>?_;obtain ⟨w,h1,e1,q⟩:=bM q;refine ⟨w,h1,e1,?_⟩;dsimp only at q ⊢;split at q
   ·exact aZ q
   ·exact (bU q).elim
 case IfExp c a b p =>
  unfold lS;dsimp only;refine bQ (aO0 (S.T G c) (S.E G a) (S.E G b)) fun δ h Q q=>?_;obtain ⟨t,h1,e1,q⟩:=bM q;refine ⟨t,h1,e1,?_⟩;dsimp only at q ⊢;split at q
  ·rename_i ht;rw [if_pos ht];exact q
  ·rename_i ht;rw [if_neg ht];exact q
 case Tuple es k p =>
  unfold lS;dsimp only;refine bQ (cA7 (eG S G es)) fun δ h Q q=>?_;obtain ⟨xs,h1,e1,q⟩:=bM q;obtain ⟨⟨ws,h2⟩,e2,e3⟩:=bind_some e1;refine ⟨ws,h2,e2,?_⟩;dsimp only at e3 ⊢;split at e3
  ·rename_i ys ey;try rw [ey]
   split at e3
   ·rename_i hl;cases e3;exact ⟨hl,aZ q⟩
   ·cases e3
  ·cases e3
 case List=>exact zZ (lB S G _)
 case ListComp=>exact zZ (lB S G _)
 case Subscript a s p =>
  unfold lS;dsimp only;split
  ·rename_i lo hi p2;refine bQ (aU0 (cB9 (S.E G a) (rE S G lo) (rE S G hi)) (sP (aO2 (S.E G a) (rE S G lo) (rE S G hi)))) fun δ h Q q=>?_;obtain ⟨x,h1,e1,q⟩:=bM q;obtain ⟨l,h2,e2,q⟩:=bM q;obtain ⟨u,h3,e3,q⟩:=bM q;obtain ⟨r,h',e,q⟩:=q;dsimp only at e;unfold xSl at e;split at e
   ·cases e;exact .inl ⟨_,h1,e1,l,h2,e2,u,_,e3,q⟩
   ·split at e
    ·rename_i xs ex;cases e;refine .inr ⟨x,h1,e1,l,h2,e2,u,_,e3,?_⟩;dsimp only;rw [ex];exact q
    ·cases e
  ·split
   ·exact cR
   ·rename_i hsl;have hs:jN s:=bL3 (by simpa using hsl);split
    ·rename_i f hf;obtain ⟨y,p,pp,rfl,h1,h2,h3,h4⟩:=xX G hf;refine bQ (cF6 h4 h3 (S.E G s) h2 (bX h1) hs) fun δ h Q q=>?_;obtain ⟨w,h1,e1,q⟩:=bM q;refine ⟨w,h1,e1,?_⟩;dsimp only at q ⊢;split at q
     ·split at q
      ·rename_i ei;try dsimp only
       try rw [ei]
       exact aZ q
      ·exact (bU q).elim
     ·exact (bU q).elim
    ·refine bQ (aU0 (cH1 (S.E G a) (S.E G s) hs) (aI (aM5 (cX7 G.rm) (S.E G a) (S.E G s) hs) fun _ _ _ q=>uR q)) fun δ h Q q=>?_;obtain ⟨x,h1,e1,q⟩:=bM q;obtain ⟨y,h2,e2,q⟩:=bM q;obtain ⟨r,h',e,q⟩:=q;dsimp only at e;unfold xIx at e;split at e
     ·rename_i xs i ex;obtain ⟨z,e3,e4⟩:=map_some e;cases e4;refine .inl ⟨x,h1,e1,_,h2,e2,.inl ?_⟩;show dIx x _ h2 Q;unfold dIx;rw [ex];dsimp only;rw [e3];exact q
     ·rename_i xs i ex;obtain ⟨z,e3,e4⟩:=map_some e;cases e4;refine .inl ⟨x,h1,e1,_,h2,e2,.inl ?_⟩;show dIx x _ h2 Q;unfold dIx;rw [ex];dsimp only;rw [e3];exact q
     ·rename_i kvs z ex;split at e
      ·rename_i k ek;obtain ⟨p,e3,e4⟩:=map_some e;cases e4;refine .inr ⟨x,h1,e1,_,h2,e2,?_⟩;show bK8 x _ h2 Q;unfold bK8;rw [ex];dsimp only;rw [ek];dsimp only;rw [e3];exact q
      ·cases e
     ·cases e
 case Call f args kw p =>
  cases kw with
  | cons _ _=>exact cR
  | nil=>exact cJ4 S G
 case Dict ks vs p =>
  cases ks with
  | cons _ _=>exact cR
  | nil =>
   cases vs with
   | cons _ _=>exact cR
   | nil=>exact bQ aQ5 fun δ h Q q=>aZ q
def cJ6 (S:Snd v) (G:bA X st d):∀ e,DT X e (Of (aT5 v st e)):=fun e=>by
 have val:∀ {e:Expr},(∀ whole,isTrue e X.env whole=(do let v <- whole;standAt e.pos;holding [v] (truthy v)))->DT X e (Of (xb (v.E st e) fun w=>(match w with
  | .d (.bool b)=>aE b
  | _=>xno))):=fun {e} he=>aT8 (aN7 (S.E G e) he) fun δ h Q q=>by
   obtain ⟨w,h1,e1,q⟩:=bM q;refine ⟨w,h1,e1,?_⟩;dsimp only at q ⊢;split at q
   ·exact aZ q
   ·exact (bU q).elim
 cases e<;>first | exact val fun _=>rfl | skip
 case UnaryOp op a p =>
  cases op<;>first | exact val fun _=>rfl | skip
  unfold aT5;dsimp only;refine aT8 (aN8 (S.T G a)) fun δ h Q q=>?_;obtain ⟨w,h1,e1,q⟩:=bM q;exact ⟨w,h1,e1,aZ q⟩
 case BoolOp op vs p=>cases op with
  | And=>exact (aU9 S G _).dt
  | Or=>exact (bU6 S G _).dt
 case Compare=>exact aH9 S G
 case IfExp=>exact mG
end
section
variable {X:Cx} {st:Sta} {d:Nat} {x:Str} {v:Evs} {a b c e:Expr} {es:List Expr} {pos:Pos}
def vQ (h:aN e=true) (env:Env):(assignEach (e::es) env).map (·.2)=assign e env::(assignEach es env).map (·.2):=by
 cases e<;>first | rfl | cases h
theorem oN:∀ (es:List Expr) (env:Env),(assignEach es env).length=es.length
 | [],_=>rfl
 | e::es,env=>by
  cases e<;>(show (assignEach es env).length+1=es.length+1;rw [oN es env])
theorem lV:∀ (es:List Expr) (env:Env),es.all aN=true->(assignEach es env).findIdx? (·.1)=none
 | [],_,_=>rfl
 | e::es,env,h=>by
  rw [List.all_cons,Bool.and_eq_true] at h;have ih:=lV es env h.2;rw [List.findIdx?_eq_none_iff] at ih ⊢;intro p hp;have:assignEach (e::es) env=(false,assign e env)::assignEach es env:=by cases e<;>first | rfl | cases h.1
  rw [this] at hp;rcases List.mem_cons.mp hp with z | z
  ·rw [z]
  ·exact ih p z
theorem bU7:∀ (es:List Expr) (xs:List PyData) (δ:DSt) (h:aA) (p:DSt×aA),cW9 v st es xs δ h=some p->xs.length=es.length
 | [],[],_,_,_,_=>rfl
 | [],_::_,_,_,_,e=>by cases e
 | _::_,[],_,_,_,e=>by cases e
 | e::es,x::xs,δ,h,p,q=>by
  obtain ⟨⟨δ2,h2⟩,_,q⟩:=bind_some (show (v.G st e (.d x) δ h).bind _=some p from q);rw [List.length_cons,List.length_cons,bU7 es xs _ _ p q]
theorem bU8 (S:Snd v) (G:bA X st d):∀ es,es.all aN=true->DGs X es (fun xs δ h Q=>∃ δ' h',cW9 v st es xs δ h=some (δ',h')/\Q δ' h')
 | [],_=>jS bF7 fun vs σ H Q ⟨xs,δ,h,A,μ,k,R,r,⟨δ',h',e,q⟩,c⟩=>by
  refine ⟨xs,δ,h,A,μ,k,R,r,?_,c⟩;cases xs with
  | nil=>cases e;exact ⟨rfl,q⟩
  | cons y ys=>cases e
 | e::es,hs=>by
  rw [List.all_cons,Bool.and_eq_true] at hs;refine jS (aO5 (S.G G e) (bU8 S G es hs.2) (vQ hs.1 _)) fun vs σ H Q ⟨xs,δ,h,A,μ,k,R,r,⟨δ',h',e,q⟩,c⟩=>?_;refine ⟨xs,δ,h,A,μ,k,R,r,?_,c⟩;cases xs with
  | nil=>cases e
  | cons y ys =>
   obtain ⟨⟨δ2,h2⟩,e1,e⟩:=bind_some e;exact ⟨δ2,h2,e1,δ',h',e,q⟩
def yB {o i:Expr} (h:bK0 i=false) (env:Env) (v:Value):assign (.Subscript o i pos) env v=(do
   let ov <- holding [v] (eval o env)
   let iv <- holding [v,ov] (eval i env)
   standAt pos
   holding [v,ov,iv] (setItem ov iv v)
   release [v,ov,iv] []):=by
 cases i<;>first | rfl | cases h
def cJ7 (S:Snd v) (G:bA X st d):∀ e,DG X e (OfG (vM v st e)):=fun e=>by
 cases e<;>first | exact aH3 fun _ _ _=>rfl | skip
 case Name =>
  unfold vM;dsimp only;split
  ·rename_i i hi;split
   ·rename_i hc;rw [Bool.and_eq_true] at hc;refine cI2 (bF6 (i:=i) (by rw [G.N];exact G.nd) (eQ G hi) (oH G hc.1) (aU1 G hc.2)) fun w δ h Q q=>?_;obtain ⟨δ',h',e,q⟩:=q;cases e;exact q
   ·exact aH3 fun _ _ _=>rfl
  ·exact aH3 fun _ _ _=>rfl
 case Tuple es k p =>
  unfold vM;dsimp only
  by_cases hs:es.all aN=true
  ·rw [if_pos hs];refine cI2 (cC4 (n:=es.length) G.calm (bU8 S G es hs) (oN _ _) (lV _ _ hs)) fun w δ h Q q=>?_;obtain ⟨δ',h',e,q⟩:=q;unfold jA at e;unfold aO4;split at e
   ·rename_i xs;exact ⟨bU7 es xs δ h _ e,δ',h',e,q⟩
   ·cases e
  ·rw [if_neg hs];exact aH3 fun w δ h=>rfl
 case Subscript o i p =>
  unfold vM;dsimp only;split
  ·exact aH3 fun _ _ _=>rfl
  ·rename_i hsl;refine cI2 (bJ3 (S.E G o) (S.E G i) (yB (by simpa using hsl) _)) fun w δ h Q q=>?_;obtain ⟨δ',h',e,q⟩:=q;dsimp only at e;obtain ⟨⟨u,h1⟩,e1,e⟩:=bind_some e;obtain ⟨⟨z,h2⟩,e2,e⟩:=bind_some e;refine ⟨u,h1,e1,z,h2,e2,?_⟩;dsimp only at e ⊢;split at e
   ·split at e
    ·rename_i xs ex;obtain ⟨n,e3,e4⟩:=map_some e;cases e4;try dsimp only
     try rw [ex]
     try dsimp only
     try rw [e3]
     exact q
    ·rename_i kvs ex;split at e
     ·rename_i hk;cases e;try dsimp only
      try rw [ex]
      try dsimp only
      exact ⟨hk.1,hk.2,q⟩
     ·cases e
    ·cases e
   ·cases e
theorem rG (S:Snd v) (G:bA X st d):∀ ss,DSs X ss (OfS (xSs v st ss))
 | []=>bU2 bF2 fun E δ h q=>by
  obtain ⟨fl,h',e,q⟩:=q;cases e;exact q
 | s::r=>bU2 (uX (S.S G s) (rG S G r)) fun E δ h q=>by
  obtain ⟨fl,h',e,q⟩:=q;obtain ⟨⟨f1,h1⟩,e1,e⟩:=bind_some e;refine ⟨f1,h1,e1,?_⟩;dsimp only at e;cases f1 with
  | nx δ'=>exact ⟨fl,h',e,q⟩
  | rt w=>cases e;exact q
  | bk δ'=>cases e;exact q
  | ct δ'=>cases e;exact q
theorem tJ {g:XG} {tb:XS} {c:Option Nat} {all:List PyData} {E:DEnds}:∀ (rest:List PyData) (δ:DSt) (h:aA) (fl:Fl) (h':aA),cW g tb c all rest δ h=some (fl,h')->bU1 E h' fl->aE7 (OfG g) (OfS tb) c all rest E δ h
 | [],δ,h,fl,h',e,q=>by
  unfold cW at e;split at e
  ·rename_i hc;cases e;exact ⟨mX hc,q⟩
  ·cases e
 | x::rest,δ,h,fl,h',e,q=>by
  unfold cW at e;split at e
  ·rename_i hc;obtain ⟨⟨δ2,h2⟩,e1,e⟩:=bind_some e;obtain ⟨⟨f2,h3⟩,e2,e⟩:=bind_some e;refine ⟨mX hc,δ2,h2,e1,f2,h3,e2,?_⟩;dsimp only at e;cases f2 with
   | nx δ'=>exact tJ rest δ' h3 fl h' e q
   | ct δ'=>exact tJ rest δ' h3 fl h' e q
   | bk δ'=>cases e;exact q
   | rt w=>cases e;exact q
  ·cases e
def aV5:DS X (.Break pos) (OfS fun δ h=>some (.bk δ,h)):=bN aL3 fun D σ H q=>by
 obtain ⟨δ,h,A,μ,E,R,⟨fl,h',e,q⟩,L⟩:=q;cases e;exact L.bk δ _ σ H A μ q .refl R
def vR:DS X (.Continue pos) (OfS fun δ h=>some (.ct δ,h)):=bN uD fun D σ H q=>by
 obtain ⟨δ,h,A,μ,E,R,⟨fl,h',e,q⟩,L⟩:=q;cases e;exact L.ct δ _ σ H A μ q .refl R
def oO (h:kZ e=false) (t:Option Expr) (l:Nat) (env:Env):swapsWith e t l env=pure false:=by
 cases e<;>first | rfl | cases h
def vS (G:bA X st d):X.env.blockKind=.function:=by
 unfold Env.blockKind;rw [G.S,G.kind];rfl
def vT (G:bA X st d) {elt:Expr} {gs:List Comprehension} {sc:Scope} {p px:Pos} {l:Nat} :
  swapsWith (.ListComp elt gs sc p) (some (.Name x px)) l X.env=pure (swB st (.ListComp elt gs sc p) x px):=by
 show (pure (X.env.blockKind==.function&&X.env.kindOf x==some .local&&px.line==p.line&&!(sc.names.any fun (n,k)=>n==x&&(k==.local||k==.cell))):Sem Bool)=_;unfold swB;dsimp only;have e1:(X.env.blockKind==.function)=true:=by rw [vS G];rfl
 have e2:(X.env.kindOf x==some .local)=dF st.S x:=by
  unfold Env.kindOf dF;rw [G.S];cases q:st.S.names.lookup x with
  | none=>rfl
  | some k=>cases k<;>rfl
 rw [e1,e2,Bool.true_and]
def vU {i:Nat} {px:Pos} {y:XR W} {te:DTE} (hd:DS X (.Assign [.Name x px] e pos) (xJ te (nV i))) (m:∀ δ h Q,Of y δ h Q->te δ h Q):DS X (.Assign [.Name x px] e pos) (OfS (aW i y)):=tF hd fun E δ h q=>by
 obtain ⟨fl,h',e,q⟩:=q;obtain ⟨⟨w,h1⟩,e1,e⟩:=bind_some e;cases e;exact m δ h _ ⟨w,h1,e1,q⟩
def aA1 {y:XR (List PyData)} (δ:DSt) (h:aA) (Q:DK) (q:Of (cX y) δ h Q):cA5 (Of y) δ h Q:=by
 obtain ⟨w,h',e,q⟩:=q;obtain ⟨p,e1,e2⟩:=bind_some e;cases e2;exact ⟨p.1,p.2,e1,q⟩
def cJ8 {y:XR (List PyData)} (δ:DSt) (h:aA) (Q:DK) (q:Of (aQ y) δ h Q):bD8 (Of y) δ h Q:=by
 obtain ⟨w,h',e,q⟩:=q;obtain ⟨p,e1,e2⟩:=bind_some e;cases e2;exact ⟨p.1,p.2,e1,q⟩
def bL4 (S:Snd v) (G:bA X st d) {i:Nat} {px:Pos} (hi:slot st x=some i) (hl:xS st.S x=true) (hf:(st.top||dF st.S x)=true) (hc:kZ e=true) (hs:(swB st e x px||!(dF st.S x))=true) :
  DFS X i (.Assign [.Name x px] e pos) (Of (eV v st e)):=by
 have no:∀ {e:Expr},(∀ δ h,eV v st e δ h=none)->DFS X i (.Assign [.Name x px] e pos) (Of (eV v st e)):=fun {e} n pins s σ H D I q=>by
  obtain ⟨δ,h,A,μ,k,R,⟨r,h',e,_⟩,c⟩:=q;rw [n] at e;cases e
 cases e with
 | ListComp elt gs sc p =>
  by_cases hw:swB st (.ListComp elt gs sc p) x px=true
  ·match gs with
   | [⟨tg,iter,ifs,a⟩] =>
    by_cases ha:a=0
    ·subst ha;have e0:eV v st (.ListComp elt [⟨tg,iter,ifs,0⟩] sc p)=rC v st elt tg iter ifs sc:=rfl;rw [e0];unfold rC;split
     ·rename_i hc;rw [Bool.and_eq_true] at hc;have hset:rB iter=false:=by simpa using hc.2
      have hloc:st.S.names.lookup x=some .local:=by
       unfold swB at hw;simp only [Bool.and_eq_true] at hw;exact oI hw.1.1
      refine bN (aP0 (by rw [G.N];exact G.nd) G.xe G.calm G.S G.N (tG hc.1) (xY S G iter) (fun cl C s H fp=>S.G (gI G hc.1 cl C s H fp) tg) (fun cl C s H fp=>aV3 S (gI G hc.1 cl C s H fp) ifs)
       (fun cl C s H fp=>S.E (gI G hc.1 cl C s H fp) elt) (eQ G hi) (by rw [G.S];exact hloc) (by rw [vT G,hw]) (xZ hset _)) fun D σ H q=>?_
      obtain ⟨δ,h,A,μ,k,R,⟨r,h',e,q⟩,c⟩:=q;refine ⟨δ,h,A,μ,k,R,?_,c⟩;obtain ⟨⟨⟨xs,c⟩,h1⟩,e1,e⟩:=bind_some e;exact ⟨xs,c,h1,e1,jZ _ _ _ _ _ _ e q⟩
     ·exact fun pins s σ H D I q=>by
       obtain ⟨δ,h,A,μ,k,R,q,c⟩:=q;exact (bU q).elim
    ·exact no fun δ h=>by
      show (if a=0 then rC v st elt tg iter ifs sc else xno) δ h=none;rw [if_neg ha];rfl
   | []=>exact no fun _ _=>rfl
   | ⟨_,_,_,_⟩::_::_=>exact no fun _ _=>rfl
  ·have hw':swB st (.ListComp elt gs sc p) x px=false:=by simpa using hw
   exact aO6 (by rw [G.N];exact G.nd) (lB S G _) (eQ G hi) (oH G hl) (by rw [vT G,hw']) (aU1 G hf)
 | SetComp elt gs sc p=>exact no fun _ _=>rfl
 | DictComp k w gs sc p=>exact no fun _ _=>rfl
 | _=>cases hc
def yC {tg:Expr} (h:bK1 e tg=false) (env:Env):swappedStores [tg] e env=pure none:=by
 cases tg<;>first | rfl | (cases e<;>first | rfl | cases h)
def bL5 (h:∀ t p,e≠.Starred t p) (env:Env):(assignEach [e] env).map (·.2)=[assign e env]:=by
 cases e<;>first | rfl | exact absurd rfl (h _ _)
def dQ8 {x y z:Str} {px py pz pt p2:Pos} {kt k2:Nat} {a b c:Expr} {env:Env} (k1:env.kindOf x=some .local) (k2':env.kindOf y=some .local) (k3:env.kindOf z=some .local) (bk:env.blockKind=.function) (e1:py.line=px.line) (e2:pz.line=px.line) (n1:¬ x=y) (n2:¬ x=z) (n3:¬ y=z) (s1:aN a=true) (s2:aN b=true) (s3:aN c=true) (f1:[a,b,c].all (foldedForSure 8)=false) (f2:[a,b,c].all (constantsAlone 8)=false) :
  swappedStores [.Tuple [.Name x px,.Name y py,.Name z pz] kt pt] (.Tuple [a,b,c] k2 p2) env=pure (some [x,y,z]):=by
 have hst:([a,b,c].any fun | .Starred ..=>true | _=>false)=false:=by
  simp only [List.any_cons,List.any_nil,Bool.or_eq_false_iff];refine ⟨?_,?_,?_,trivial⟩
  ·cases a<;>first | rfl | cases s1
  ·cases b<;>first | rfl | cases s2
  ·cases c<;>first | rfl | cases s3
 have hn:([Expr.Name x px,.Name y py,.Name z pz].filterMap fun
  | .Name id pos=>if env.kindOf id==some .local&&pos.line==px.line then some id else none
  | _=>none)=[x,y,z]:=by
  simp [k1,k2',k3,e1,e2]
 have hd:([x,y,z]:List Str).eraseDups.length=3:=by
  have b1:(y==x)=false:=beq_eq_false_iff_ne.mpr fun e=>n1 e.symm;have b2:(z==x)=false:=beq_eq_false_iff_ne.mpr fun e=>n2 e.symm;have b3:(z==y)=false:=beq_eq_false_iff_ne.mpr fun e=>n3 e.symm;simp [List.eraseDups_cons,b1,b2,b3]
 show (if !((3:Nat)==2||(3:Nat)==3)||(3:Nat) != 3||env.blockKind != .function then _ else _)=_;rw [bk];rw [if_neg (by decide)];show (if ([a,b,c].any fun | .Starred ..=>true | _=>false)=true then _ else _)=_;rw [if_neg (by rw [hst];decide)];have key:∀ L:List Str,L=[x,y,z]->(if ((L.length != 3||L.eraseDups.length != L.length)=true) then (pure none:Sem (Option (List Str))) else if ([a,b,c].all (foldedForSure 8))=true then pure none else (do
   if ([a,b,c].all (constantsAlone 8))=true then unsupported "assign.tuple-of-constant-expressions:order-of-the-stores"
   return some L))=pure (some [x,y,z]):=fun L e=>by
  subst e;rw [hd,f1,f2];rfl
 exact key _ hn
def cY3 (S:Snd v) (G:bA X st d) {tg e:Expr} {p:Pos}:DS X (.Assign [tg] e p) (OfS (bK2 v st tg e)):=by
 unfold bK2;split
 ·rename_i x px y py z pz kt pt a b c k2 p2;split
  ·rename_i i j k hi hj hk;split
   ·rename_i h;unfold cX1 at h;simp only [Bool.and_eq_true,Bool.not_eq_true',beq_iff_eq,beq_eq_false_iff_ne,ne_eq] at h;obtain ⟨l1,l2,l3,e1,e2,n1,n2,n3,s1,s2,s3,f1,f2⟩:=h;have lk:∀ {x:Str},dF st.S x=true->X.env.scope.names.lookup x=some .local:=fun l=>by rw [G.S];exact oI l
    have ne:∀ {x y:Str} {i j:Nat},slot st x=some i->slot st y=some j->¬ x=y->i≠j:=fun hi hj n e=>by
     subst e;exact n (Option.some.inj ((xV hi).symm.trans (xV hj)))
    refine tF (bJ8 G.calm (by rw [G.N];exact G.nd) (eQ G hi) (eQ G hj) (eQ G hk) (ne hi hj n1) (ne hi hk n2) (ne hj hk n3) (lk l1) (lk l2) (lk l3) (eG S G [a,b,c]) (dQ8 (lk l1) (lk l2) (lk l3) (vS G) e1 e2 n1 n2 n3 s1 s2 s3 f1 f2) rfl) fun E δ h q=>?_;obtain ⟨fl,h',e,q⟩:=q;obtain ⟨⟨ws,h1⟩,e1,e⟩:=bind_some e;refine ⟨ws,h1,e1,?_⟩;dsimp only at e;split at e
    ·cases e;exact ⟨_,_,_,rfl,q⟩
    ·cases e
   ·exact jH fun _ _=>rfl
  ·exact jH fun _ _=>rfl
 ·exact jH fun _ _=>rfl
def cY4 (S:Snd v) (G:bA X st d) {tg e:Expr} {p:Pos}:DS X (.Assign [tg] e p) (OfS (if bK1 e tg=true then bK2 v st tg e else if (kZ e||!(aN tg))=true then fun _ _=>none else fun δ h=>(v.E st e δ h).bind fun p=>(v.G st tg p.1 δ p.2).bind fun q=>some (.nx q.1,q.2))):=by
 split
 ·rename_i htt;exact cY3 S G
 rename_i htt;have htt:bK1 e tg=false:=by simpa using htt
 split
 ·exact jH fun _ _=>rfl
 ·rename_i hc;simp only [Bool.or_eq_true,not_or,Bool.not_eq_true,Bool.not_eq_true',Bool.not_eq_false] at hc;have hst:aN tg=true:=by simpa using hc.2
  refine tF (cC5 (S.E G e) (S.G G tg) (oO hc.1 _ _ _) (yC htt _) (bL5 (fun t p z=>by rw [z] at hst;cases hst) _)) fun E δ h q=>?_;obtain ⟨fl,h',e,q⟩:=q;obtain ⟨⟨w,h1⟩,e1,e⟩:=bind_some e;obtain ⟨⟨δ2,h2⟩,e2,e⟩:=bind_some e;cases e;exact ⟨w,h1,e1,δ2,_,e2,q⟩
def cJ9 (S:Snd v) (G:bA X st d):∀ s,DS X s (OfS (oG v st s)):=fun s=>by
 cases s<;>first | exact jH fun _ _=>rfl | skip
 case Return o p =>
  cases o with
  | none=>exact jH fun _ _=>rfl
  | some e =>
   unfold oG;dsimp only;refine tF (cC3 (S.E G e)) fun E δ h q=>?_;obtain ⟨fl,h',e,q⟩:=q;obtain ⟨⟨w,h1⟩,e1,e⟩:=bind_some e;cases e;exact ⟨w,_,e1,q⟩
 case Assign ts e p =>
  cases ts with
  | nil=>exact jH fun _ _=>rfl
  | cons tg r =>
   cases r with
   | cons _ _=>exact jH fun _ _=>by cases tg<;>rfl
   | nil =>
    cases tg
    case Name y px =>
     unfold oG;dsimp only;split
     ·rename_i i hi;split
      ·rename_i hc;rw [Bool.and_eq_true] at hc;split
       ·rename_i hcm;split
        ·rename_i hw;have hfs:=bL4 S G hi hc.1 hc.2 hcm hw (pos:=p);split
         ·exact vU (aO7 hfs) aA1
         ·exact vU (cC6 hfs) cJ8
        ·exact jH fun _ _=>rfl
       ·rename_i hcm;have hsw:∀ t l,swapsWith e t l X.env=pure false:=fun t l=>oO (by simpa using hcm) _ _ _;split
        ·rename_i hz;rw [Bool.and_eq_true] at hz;have hd:∃ pp,e=.Dict [] [] pp:=by
          unfold cX0 at hz;have:=hz.2;split at this
          ·exact ⟨_,rfl⟩
          ·cases this
         obtain ⟨pp,rfl⟩:=hd;refine vU (bJ4 (by rw [G.N];exact G.nd) (eQ G hi) (oH G hc.1) (hsw _ _) (aU1 G hc.2)) fun δ h Q q=>?_;obtain ⟨w,h',e,q⟩:=q;cases e;exact q
        split
        ·exact vU (aO7 (aO6 (by rw [G.N];exact G.nd) (S.F G e) (eQ G hi) (oH G hc.1) (hsw _ _) (aU1 G hc.2))) aA1
        ·exact vU (xK (by rw [G.N];exact G.nd) (S.E G e) (eQ G hi) (oH G hc.1) (hsw _ _) (aU1 G hc.2)) fun _ _ _ q=>q
      ·exact jH fun _ _=>rfl
     ·exact jH fun _ _=>rfl
    all_goals exact cY4 S G
 case For tg iter body o p =>
  cases o with
  | cons _ _=>exact jH fun _ _=>rfl
  | nil =>
   unfold oG;dsimp only;split
   ·exact jH fun _ _=>rfl
   ·rename_i hs;refine tF (cD0 G.xe G.calm (xY S G iter) (S.G G tg) (rG S G body) (xZ (by simpa using hs) _)) fun E δ h q=>?_;obtain ⟨fl,h',e,q⟩:=q;obtain ⟨⟨⟨xs,c⟩,h1⟩,e1,e⟩:=bind_some e;exact ⟨xs,c,h1,e1,tJ _ _ _ _ _ e q⟩
 case If c a b p =>
  unfold oG;dsimp only;refine tF (cU4 (S.T G c) (rG S G a) (rG S G b)) fun E δ h q=>?_;obtain ⟨fl,h',e,q⟩:=q;obtain ⟨⟨t,h1⟩,e1,e⟩:=bind_some e;refine ⟨t,h1,e1,?_⟩;dsimp only at e ⊢;split at e
  ·rename_i ht;rw [if_pos ht];exact ⟨fl,h',e,q⟩
  ·rename_i ht;rw [if_neg ht];exact ⟨fl,h',e,q⟩
 case Expr e p =>
  unfold oG;dsimp only;split
  ·exact jH fun _ _=>rfl
  ·rename_i hc;refine tF (bF5 (S.E G e) (oO (by simpa using hc) _ _ _)) fun E δ h q=>?_;obtain ⟨fl,h',e,q⟩:=q;obtain ⟨⟨w,h1⟩,e1,e⟩:=bind_some e;cases e;exact ⟨w,_,e1,q⟩
 case Pass =>
  refine tF bF4 fun E δ h q=>?_;obtain ⟨fl,h',e,q⟩:=q;cases e;exact q
 case Break=>exact aV5
 case Continue=>exact vR
end
def aV6 {v:Evs} (S:Snd v):Snd (step v):=⟨fun G=>cJ5 S G,fun G=>cJ6 S G,fun G=>lB S G,fun G=>cJ7 S G,fun G=>cJ9 S G⟩
def cK0:Snd Evs.no:=⟨fun _ _=>cR,fun _ _=>mG,fun _ _=>iX,fun _ _=>aH3 fun _ _ _=>rfl,fun _ _=>jH fun _ _=>rfl⟩
theorem tK:∀ n,Snd (evs n)
 | 0=>cK0
 | n+1=>aV6 (tK n)
def cY {s:Stmt} (h:fnB s=true):FnScope (eD s) (aO s) (aF s):=by
 unfold fnB at h;simp only [Bool.and_eq_true,decide_eq_true_eq,List.all_eq_true,Bool.not_eq_true'] at h;obtain ⟨h1,h2,h3,h4,h5,h6⟩:=h;refine ⟨h1,h2,h3,h4,?_,fun x hx=>?_,fun y hy e=>?_⟩
 ·unfold eD;rw [List.take_left'];rfl
 ·have:=h5 x hx;unfold xS at this;split at this
  ·rename_i q;exact .inl q
  ·rename_i q;exact .inr q
  ·cases this
 ·have:=h6 y hy;rw [e] at this;cases this
section
variable {P:Program} {w:World} {K:Frag} {mg:Str->Option Value} {base:Heap}
structure TopOk (t:Top) (P:Program) (w:World) (K:Frag) (mg:Str->Option Value) (base:Heap):Prop where
 bl:∀ x,t.bl.contains x=true->mg x=none
 gc:∀ x z,t.gc x=some z->∃ v u,mg x=some u/\RelV v u/\∀ A H,Rep K A H z v
 tk:∀ x f,t.tk x=some f->∃ p,mg x=some (.ref p)/\TabK w K p f
 defs:∀ x s,t.defs x=some s->∃ f fd,Fun K x x s f fd/\mg x=some (.ref f)/\Binds K fd (aO s) []
 ini:∀ x C s,t.ini x=some (C,s)->∃ n q f fd,Fun K n q s f fd/\Mk K C f/\mg x=some (.ref C)/\Binds K fd (aO s) []
 mt:∀ x C s,t.mt x=some (C,s)->Cls K C/\∃ n q f fd,Fun K n q s f fd/\Meth K C x f/\Binds K fd (aO s) []
 fo:∀ C f,t.fo C f=true->Cls K C/\wY K C f
structure TabOk (P:Program) (w:World) (K:Frag) (mg:Str->Option Value) (base:Heap) (d:Nat) (fn:Str->Option XF) (ob:ObS):Prop where
 fn:∀ x m,fn x=some m->DFn P w K mg base d x (jY m)
 fnW:∀ x m,ob.fnW x=some m->DFnW P w K mg base d x (hG m)
 cls:∀ x C m,ob.cls x=some (C,m)->(∀ ws h,m ws h=none)\/∃ k f fd ps,k+1<=d/\Mk K C f/\FnOk P w K mg base CX0 k f fd ps (gY K (hG m))/\mg x=some (.ref C)/\Binds K fd ps []
 om:∀ x C m,ob.om x=some (C,m)->Cls K C/\∃ f fd ps,Meth K C x f/\FnOk P w K mg base CX0 d f fd ps (gY K (hG m))/\Binds K fd ps []
 fo:∀ C f,ob.fo C f=true->Cls K C/\wY K C f
def aA2 {t:Top} {fn:Str->Option XF} {ob:ObS} {x q:Str} {s:Stmt} {f:Addr} {k:Nat} {cdv:Value} {A:Around} {outer:List Env} {s':Shared} {H:Hp} {E:XK} (T:TopOk t P w K mg base) (B:TabOk P w K mg base k fn ob) (hb:fnB s=true) (hr:Room k (A.deeper (envOfC q (aF s) s'.heap.objs.size f cdv))) :
  bA ((lY CX0 P w K mg base (eD s) q (aF s) f cdv A outer s' H E).nox) (t.sta fn ob x s) k :=
 ⟨T.bl,T.gc,T.tk,B.fn,rfl,rfl,(cY hb).nd,rfl,rfl,hr,fun _ _=>rfl,(cY hb).kind,B.fnW,B.cls,B.om,B.fo⟩
def bU9 {t:Top} {fn:Str->Option XF} {ob:ObS} {x n q:Str} {s:Stmt} {f:Addr} {fd:FuncData} {k:Nat} (T:TopOk t P w K mg base) (F:Fun K n q s f fd) (B:TabOk P w K mg base k fn ob) :
  FnOk P w K mg base CX0 (k+1) f fd (aO s) (mB K (jY (lU t fn ob x s))):=by
 by_cases hb:fnB s=true
 ·refine dfn F (cY hb) (fun ws h kk ⟨z,h',e,_⟩=>?_) fun cdv A outer s' H E hcd hr=>?_
  ·unfold lU at e;split at e
   ·rename_i hc;exact hc.2
   ·cases e
  ·refine ⟨_,rG (tK t.deep) (aA2 (x:=x) T B hb hr) _,fun ws h kk ⟨z,h',e,q⟩=>?_⟩;unfold lU at e;split at e
   ·obtain ⟨⟨fl,h1⟩,e1,e2⟩:=bind_some e;refine ⟨fl,h1,e1,?_⟩;unfold ends at e2;dsimp only at e2;split at e2
    ·rename_i ok;cases fl with
     | nx δ=>cases e2;exact ⟨ok,q⟩
     | bk δ=>cases e2
     | ct δ=>cases e2
     | rt w =>
      refine ⟨ok,?_⟩;cases w with
      | d z=>cases e2;exact q
      | v u=>cases e2
      | c i =>
       show (match h1[i]? with
        | some (.l xs)=>h.length<=i/\kk (.list xs) (h1.take h.length)
        | some (.k kvs)=>h.length<=i/\kk (.dict kvs) (h1.take h.length)
        | _=>False)
       dsimp only at e2;split at e2
       ·rename_i xs ex;try rw [ex]
        split at e2
        ·rename_i hi;cases e2;exact ⟨hi,q⟩
        ·cases e2
       ·rename_i xs ex;try rw [ex]
        split at e2
        ·rename_i hi;cases e2;exact ⟨hi,q⟩
        ·cases e2
       ·cases e2
    ·cases e2
   ·cases e
 ·have no:∀ ws h kk,¬ jY (lU t fn ob x s) ws h kk:=fun ws h kk ⟨z,h',e,_⟩=>by
   unfold lU at e;rw [if_neg fun z=>hb z.1] at e;cases e
  exact ⟨fun vs H Q E ⟨_,_,_,_,_,_,_,q,_⟩=>(no _ _ _ q).elim,fun A outer s H args us vs Q E _ _ _ _ ⟨_,_,_,_,_,_,_,q,_⟩=>(no _ _ _ q).elim⟩
def aV7 {t:Top} {fn:Str->Option XF} {ob:ObS} {x n q:Str} {s:Stmt} {f:Addr} {fd:FuncData} {k:Nat} (T:TopOk t P w K mg base) (F:Fun K n q s f fd) (B:TabOk P w K mg base k fn ob) :
  FnOk P w K mg base CX0 (k+1) f fd (aO s) (gY K (hG (iI t fn ob x s))):=by
 by_cases hb:fnB s=true
 ·refine dQ2 F (cY hb) (fun ws h kk ⟨z,h',e,_⟩=>?_) fun cdv A outer s' H E hcd hr=>?_
  ·unfold iI at e;split at e
   ·rename_i hc;exact hc.2
   ·cases e
  ·refine ⟨_,rG (tK t.deep) (aA2 (x:=x) T B hb hr) _,fun ws h kk ⟨z,h',e,q⟩=>?_⟩;unfold iI at e;split at e
   ·obtain ⟨⟨fl,h1⟩,e1,e2⟩:=bind_some e;refine ⟨fl,h1,e1,?_⟩;unfold zR at e2;dsimp only at e2;cases fl with
    | nx δ=>cases e2;exact q
    | bk δ=>cases e2
    | ct δ=>cases e2
    | rt w=>cases e2;exact q
   ·cases e
 ·have no:∀ ws h kk,¬ hG (iI t fn ob x s) ws h kk:=fun ws h kk ⟨z,h',e,_⟩=>by
   unfold iI at e;rw [if_neg fun z=>hb z.1] at e;cases e
  exact ⟨fun vs H Q E ⟨_,_,_,_,_,_,_,q,_⟩=>(no _ _ _ q).elim,fun A outer s H args us vs Q E _ _ _ _ ⟨_,_,_,_,_,_,_,q,_⟩=>(no _ _ _ q).elim⟩
def bV0 {m:XFW} (hm:∀ ws h,m ws h=none) {f:Addr} {fd:FuncData} {ps:List Str} {d:Nat}:FnOk P w K mg base CX0 d f fd ps (gY K (hG m)):=by
 have no:∀ ws h kk,¬ hG m ws h kk:=fun ws h kk ⟨z,h',e,_⟩=>by rw [hm] at e;cases e
 exact ⟨fun vs H Q E ⟨_,_,_,_,_,_,_,q,_⟩=>(no _ _ _ q).elim,fun A outer s H args us vs Q E _ _ _ _ ⟨_,_,_,_,_,_,_,q,_⟩=>(no _ _ _ q).elim⟩
abbrev aA3 (t:Top) (P:Program) (w:World) (K:Frag) (mg:Str->Option Value) (base:Heap) (d:Nat):Prop:=TabOk P w K mg base d (fnT t fun y=>aD t d y) (obT t (fun y=>callW t d y) (fun y=>callI t d y) fun y=>callM t d y)
def vV {t:Top} (T:TopOk t P w K mg base):aA3 t P w K mg base 0:=by
 refine ⟨fun x m e=>?_,fun x m e=>?_,fun x C m e=>?_,fun x C m e=>?_,T.fo⟩
 ·obtain ⟨s,hs,rfl⟩:=map_some e;obtain ⟨f,fd,F,hm,hb⟩:=T.defs x s hs;have no:∀ ws h kk,¬ jY (aD t 0 x) ws h kk:=fun ws h kk ⟨z,h',e,_⟩=>nomatch e
  exact ⟨f,fd,aO s,⟨fun vs H Q E ⟨_,_,_,_,_,_,_,q,_⟩=>(no _ _ _ q).elim,fun A outer s H args us vs Q E _ _ _ _ ⟨_,_,_,_,_,_,_,q,_⟩=>(no _ _ _ q).elim⟩,hm,F.kp,hb⟩
 ·dsimp only at e;split at e
  ·obtain ⟨s,hs,rfl⟩:=map_some e;obtain ⟨f,fd,F,hm,hb⟩:=T.defs x s hs;exact ⟨f,fd,aO s,bV0 fun _ _=>rfl,hm,F.kp,hb⟩
  ·cases e
 ·obtain ⟨p,hs,e2⟩:=map_some e;cases e2;exact .inl fun _ _=>rfl
 ·obtain ⟨⟨C',s⟩,hs,e2⟩:=map_some e;cases e2;obtain ⟨hc,n,q,f,fd,F,hM,hb⟩:=T.mt x _ s hs;exact ⟨hc,f,fd,aO s,hM,bV0 fun _ _=>rfl,hb⟩
def vW {t:Top} (T:TopOk t P w K mg base) {d:Nat} (B:aA3 t P w K mg base d) (hI:∀ x C s,t.ini x=some (C,s)->(∀ ws h,callI t (d+1) x ws h=none)\/∃ k f fd ps,k+1<=d+1/\Mk K C f/\FnOk P w K mg base CX0 k f fd ps (gY K (hG (callI t (d+1) x)))/\mg x=some (.ref C)/\Binds K fd ps []):aA3 t P w K mg base (d+1):=by
 refine ⟨fun x m e=>?_,fun x m e=>?_,fun x C m e=>?_,fun x C m e=>?_,T.fo⟩
 ·obtain ⟨s,hs,rfl⟩:=map_some e;obtain ⟨f,fd,F,hm,hb⟩:=T.defs x s hs;have e:aD t (d+1) x=lU t (fnT t fun y=>aD t d y) (obT t (fun y=>callW t d y) (fun y=>callI t d y) fun y=>callM t d y) x s:=by
   rw [aD,hs]
  dsimp only;rw [e];exact aP1 (bU9 T F B) hm F hb
 ·dsimp only at e;split at e
  ·obtain ⟨s,hs,rfl⟩:=map_some e;obtain ⟨f,fd,F,hm,hb⟩:=T.defs x s hs;have e:callW t (d+1) x=iI t (fnT t fun y=>aD t d y) (obT t (fun y=>callW t d y) (fun y=>callI t d y) fun y=>callM t d y) x s:=by
    rw [callW,hs]
   try dsimp only
   rw [e];exact ⟨f,fd,aO s,aV7 T F B,hm,F.kp,hb⟩
  ·cases e
 ·obtain ⟨⟨C',s⟩,hs,e2⟩:=map_some e;cases e2;exact hI x _ s hs
 ·obtain ⟨⟨C',s⟩,hs,e2⟩:=map_some e;cases e2;obtain ⟨hc,n,q,f,fd,F,hM,hb⟩:=T.mt x _ s hs;have e:callM t (d+1) x=iI t (fnT t fun y=>aD t d y) (obT t (fun y=>callW t d y) (fun y=>callI t d y) fun y=>callM t d y) x s:=by
   rw [callM,hs]
  dsimp only;rw [e];exact ⟨hc,f,fd,aO s,hM,aV7 T F B,hb⟩
theorem tL {t:Top} (T:TopOk t P w K mg base):∀ d,aA3 t P w K mg base d
 | 0=>vV T
 | 1=>vW T (vV T) fun x C s _=>.inl fun _ _=>rfl
 | d+2=>vW T (tL T (d+1)) fun x C s hs=>by
  obtain ⟨n,q,f,fd,F,hM,hm,hb⟩:=T.ini x C s hs;have e:callI t (d+2) x=iI t (fnT t fun y=>aD t d y) (obT t (fun y=>callW t d y) (fun y=>callI t d y) fun y=>callM t d y) x s:=by
   rw [callI,hs]
  refine .inr ⟨d+1,f,fd,aO s,Nat.le_refl _,hM,?_,hm,hb⟩;show FnOk P w K mg base CX0 (d+1) f fd (aO s) (gY K (hG (callI t (d+2) x)));rw [e];exact aV7 T F (tL T d)
end
noncomputable def bV1 (x:Str):Stmt->Bool
 | .FunctionDef n _ _ _ _ _ _ _ _ _=>n==x
 | _=>false
noncomputable def yD (b:List Stmt) (x:Str):Option Stmt:=b.find? (bV1 x)
noncomputable def aV8:Nat->Expr->Option PyData
 | _,.Constant (.int i) _ _=>some (.int i)
 | _,.Constant (.str x) _ _=>some (.str x)
 | _,.Constant (.bool x) _ _=>some (.bool x)
 | _,.Constant .none _ _=>some .none
 | n+1,.Tuple es _ _=>(es.mapM (aV8 n)).map .tuple
 | _,_=>none
noncomputable def cK1 (b:List Stmt) (x:Str):Option PyData:=b.findSome? fun s=>match s with
 | .Assign [.Name y _] e _=>if y==x&&!(x==("__name__":Str)) then aV8 4 e else none
 | _=>none
noncomputable def cK2:List (Option Expr)->List Expr->Option (List (Str×Int))
 | [],[]=>some []
 | some (.Constant (.str x) _ _)::ks,.Constant (.int i) _ _::vs=>(cK2 ks vs).map ((x,i)::·)
 | _,_=>none
noncomputable def cK3 (b:List Stmt) (x:Str):Option (Str->Option Int):=b.findSome? fun s=>match s with
 | .Assign [.Name y _] (.Dict ks vs _) _=>if y==x then (cK2 ks vs).map fun t z=>t.lookup z else none
 | _=>none
noncomputable def blAll:List Str:=["len","tuple","all","any","isinstance","int","bool","str","list","range","sorted","set","zip","enumerate","dict","max","min","sum","reversed","abs"]
noncomputable def cY5 (b:List Stmt) (ac:Str->List Nat) (cv:Str->List Str) (fuel deep:Nat) (wf:Str->Bool:=fun _=>false) (ini mt:Str->Option (Addr×Stmt):=fun _=>none) (fo:Addr->Str->Bool:=fun _ _=>false):Top:=⟨blAll,cK1 b,cK3 b,yD b,ac,cv,fuel,deep,wf,ini,mt,fo⟩
end CI
namespace CI
open PySem DL
@[simp] theorem bV2 {α β:Type} (x:XR α) (f:α->XR β) (δ:DSt) (h:aA):xb x f δ h=(x δ h).bind fun p=>f p.1 δ p.2:=rfl
@[simp] theorem kA {α:Type} (a:α) (δ:DSt) (h:aA):aE a δ h=some (a,h):=rfl
@[simp] theorem dQ9 {α:Type} (δ:DSt) (h:aA):(xno:XR α) δ h=none:=rfl
@[simp] theorem bL6 (i:Nat) (δ:DSt) (h:aA):aB i δ h=match δ[i]? with
 | some (some w)=>some (w,h)
 | _=>none:=rfl
def gQ (h:aA):okP h h:=fun i c _ e=>.inr e
def oP {h h1:aA} (L:aA) (hl:h1.length=h.length) (k:okP h h1):okP h (h1++L):=fun i c hi e=>k i c hi (by rwa [List.getElem?_append_left (by omega)] at e)
def cK4 {h h1:aA} (i:Nat) (xs:List PyData) (k:okP h h1):okP h (h1.set i (.l xs)):=fun j c hj e=>by
 by_cases q:i=j
 ·subst q
  by_cases hi:i < h1.length
  ·rw [List.getElem?_set_self hi] at e;cases e;exact .inl fun m hm=>by cases hm
  ·rw [List.set_eq_of_length_le (by omega)] at e;exact k i c hj e
 ·rw [List.getElem?_set_ne q] at e;exact k j c hj e
@[simp] theorem dW3 (h:aA):okP h h=True:=eq_true (gQ h)
@[simp] theorem dW4 (h L:aA):okP h (h++L)=True:=eq_true (oP L rfl (gQ h))
def aV9 (h0:aA) (z:PyData) (h:aA) (ok:okP h0 h):ends h0 (.rt (.d z),h)=some (z,h.take h0.length):=by
 unfold ends;rw [if_pos ok]
def aW0 (h0:aA) (δ:DSt) (h:aA) (ok:okP h0 h):ends h0 (.nx δ,h)=some (.none,h.take h0.length):=by
 unfold ends;rw [if_pos ok]
@[simp] theorem bL7 (h:aA) (z:PyData):ends h (.rt (.d z),h)=some (z,h):=by rw [aV9 _ _ _ (gQ h),List.take_length]
@[simp] theorem dJ5 (h:aA) (δ:DSt):ends h (.nx δ,h)=some (.none,h):=by rw [aW0 _ _ _ (gQ h),List.take_length]
@[simp] theorem dJ6 (h L:aA) (z:PyData):ends h (.rt (.d z),h++L)=some (z,h):=by rw [aV9 _ _ _ (oP L rfl (gQ h)),List.take_left'];rfl
@[simp] theorem dJ7 (h L:aA) (δ:DSt):ends h (.nx δ,h++L)=some (.none,h):=by rw [aW0 _ _ _ (oP L rfl (gQ h)),List.take_left'];rfl
@[simp] theorem dJ8 (δ:DSt) (h:aA):zR (.nx δ,h)=some (.d .none,h):=rfl
@[simp] theorem dJ9 (w:W) (h:aA):zR (.rt w,h)=some (w,h):=rfl
@[simp] theorem cP7 (δ:DSt):bS [] δ=[]:=rfl
@[simp] theorem cK5 (r:List (Option Nat)) (δ:DSt):bS (none::r) δ=none::bS r δ:=rfl
@[simp] theorem cK6 (i:Nat) (r:List (Option Nat)) (δ:DSt):bS (some i::r) δ=(δ[i]?).bind id::bS r δ:=rfl
@[simp] theorem cY6 (gs:List XG) (xs:List PyData) (δ:DSt) (h:aA):jA gs (.d (.tuple xs)) δ h=tD gs xs δ h:=rfl
@[simp] theorem cY7 (δ:DSt) (h:aA):tD [] [] δ h=some (δ,h):=rfl
@[simp] theorem cP8 (g:XG) (gs:List XG) (x:PyData) (xs:List PyData) (δ:DSt) (h:aA):tD (g::gs) (x::xs) δ h=(g (.d x) δ h).bind fun p=>tD gs xs p.1 p.2:=rfl
@[simp] theorem dU7 (h:aA) (x:PyData):ref h (.d x)=some x:=rfl
end CI
namespace CI
open PySem PySem.Spec PyProof.Rows L2 DL
section
variable {δ:DSt} {h:aA}
@[simp] theorem cY8 (x:XR Bool):cI x δ h=(x δ h).map asW:=rfl
@[simp] theorem dR0 (b:Bool):asW (b,h)=(.d (.bool b),h):=rfl
@[simp] theorem dR1 (op:CmpOp) (x y:XR W):xC1 op x y δ h=(x δ h).bind fun u=>(y δ u.2).bind fun w=>cO op u.1 w.1 w.2:=rfl
@[simp] theorem dR2 (op op':CmpOp) (x y z:XR W):xC2 op op' x y z δ h=(x δ h).bind fun u=>(y δ u.2).bind fun w=>(cO op u.1 w.1 w.2).bind fun p=>if p.1=true then (z δ p.2).bind fun q=>cO op' w.1 q.1 q.2 else some (false,p.2):=rfl
@[simp] theorem dR3 (op op' op'':CmpOp) (x y z t:XR W):xC3 op op' op'' x y z t δ h=(x δ h).bind fun u=>(y δ u.2).bind fun w=>(cO op u.1 w.1 w.2).bind fun p =>
 if p.1=true then (z δ p.2).bind fun q=>(cO op' w.1 q.1 q.2).bind fun p'=>if p'.1=true then (t δ p'.2).bind fun q'=>cO op'' q.1 q'.1 q'.2 else some (false,p'.2) else some (false,p.2):=rfl
@[simp] theorem cY9 (f:Str->Option Int) (x:XR W):rA f x δ h=(x δ h).bind fun p=>(match p.1 with
 | .d (.str s)=>some (!(f s).isSome,p.2)
 | .d .none=>some (true,p.2)
 | _=>none):=by
 unfold rA;rw [bV2]
 congr 1
 funext p
 obtain ⟨w,h'⟩:=p;cases w with
 | d x=>cases x<;>rfl
 | c i=>rfl
 | v u=>rfl
@[simp] theorem dK0 (x:XR (List PyData)):aQ x δ h=(x δ h).bind fun p=>some (.d (.list p.1),p.2):=rfl
@[simp] theorem cZ0 (x:XR (List PyData)):cX x δ h=(x δ h).bind fun p=>some (.c p.2.length,p.2++[.l p.1]):=rfl
@[simp] theorem dR4 (x:XR (List W)):xPl x δ h=(x δ h).bind fun p=>(match dQ p.1 with
 | some xs=>if xs.length<=sizeLine then some (xs,p.2) else none
 | none=>none):=rfl
@[simp] theorem dK1 (i:Nat) (x:XR W):aW i x δ h=(x δ h).bind fun p=>some (.nx (δ.set i (some p.1)),p.2):=rfl
@[simp] theorem aW1 (x:XR W):cJ x δ h=(x δ h).bind fun p=>(match p.1 with
 | .d (.list xs)=>some ((xs,none),p.2)
 | .d (.tuple xs)=>some ((xs,none),p.2)
 | .c i=>(match p.2[i]? with
  | some (.l xs)=>some ((xs,some i),p.2)
  | _=>none)
 | _=>none):=rfl
@[simp] theorem cK7:dQ []=some []:=rfl
@[simp] theorem cZ1 (x:PyData) (r:List W):dQ (.d x::r)=(dQ r).map (x::·):=rfl
@[simp] theorem dR5 (i j:Int):cO .Lt (.d (.int i)) (.d (.int j)) h=some (decide (i < j),h):=rfl
@[simp] theorem dR6 (i j:Int):cO .LtE (.d (.int i)) (.d (.int j)) h=some (decide (i<=j),h):=rfl
@[simp] theorem dR7 (i j:Int):cO .Gt (.d (.int i)) (.d (.int j)) h=some (decide (j < i),h):=rfl
@[simp] theorem dR8 (i j:Int):cO .GtE (.d (.int i)) (.d (.int j)) h=some (decide (j<=i),h):=rfl
@[simp] theorem dR9 (u w:W):cO .Eq u w h=(xEq u w h).map fun b=>(b,h):=rfl
@[simp] theorem dS0 (u w:W):cO .NotEq u w h=(xEq u w h).map fun b=>(!b,h):=rfl
@[simp] theorem dS1 (u w:W):cO .Is u w h=(xIs u w).map fun b=>(b,h):=rfl
@[simp] theorem cP9 (u w:W):cO .IsNot u w h=(xIs u w).map fun b=>(!b,h):=rfl
@[simp] theorem dS2 (u w:W):cO .In u w h=(xIn u w h).map fun b=>(b,h):=rfl
@[simp] theorem cQ0 (u w:W):cO .NotIn u w h=(xIn u w h).map fun b=>(!b,h):=rfl
def aA4 (a b:PyData):xEq (.d a) (.d b) h=if (aT 64 a&&aT 64 b)=true then some (PyData.eqv a b) else none:=rfl
@[simp] theorem dK2 (n:Nat):aT n .none=true:=by rw [aT]
@[simp] theorem dK3 (n:Nat) (b:Bool):aT n (.bool b)=true:=by rw [aT]
@[simp] theorem dS3 (n:Nat) (i:Int):aT n (.int i)=true:=by rw [aT]
@[simp] theorem dS4 (n:Nat) (x:Str):aT n (.str x)=true:=by rw [aT]
@[simp] theorem dK4 (n:Nat) (xs:List PyData):aT (n+1) (.list xs)=plainsB n xs:=by rw [aT]
@[simp] theorem cZ2 (n:Nat) (xs:List PyData):aT (n+1) (.tuple xs)=plainsB n xs:=by rw [aT]
@[simp] theorem dK5 (n:Nat):plainsB n []=true:=by rw [plainsB]
@[simp] theorem cZ3 (n:Nat) (x:PyData) (xs:List PyData):plainsB n (x::xs)=(aT n x&&plainsB n xs):=by rw [plainsB]
@[simp] theorem dK6 (i j:Int):xEq (.d (.int i)) (.d (.int j)) h=some (decide (i=j)):=by rw [aA4];simp [PyData.eqv];exact Bool.beq_eq_decide_eq i j
@[simp] theorem dK7 (x y:Str):xEq (.d (.str x)) (.d (.str y)) h=some (x==y):=by simp [aA4,PyData.eqv]
@[simp] theorem cZ4 (x y:Bool):xEq (.d (.bool x)) (.d (.bool y)) h=some (x==y):=by cases x<;>cases y<;>simp [aA4,PyData.eqv]
@[simp] theorem eq_none_str (y:Str):xEq (.d .none) (.d (.str y)) h=some false:=by simp [aA4,PyData.eqv]
@[simp] theorem dU8 (x:PyData):cA [.d x] h=(match x with
  | .list xs=>some (.d (.int xs.length),h)
  | .tuple xs=>some (.d (.int xs.length),h)
  | _=>none):=by cases x<;>rfl
@[simp] theorem dK8 (xs:List PyData):cQ [.d (.list xs)] h=some (.d (.tuple xs),h):=rfl
@[simp] theorem dK9 (xs:List PyData):cQ [.d (.tuple xs)] h=some (.d (.tuple xs),h):=rfl
@[simp] theorem bV3 (xs:List PyData):jW [.d (.list xs)] h=(dH xs).map fun bs=>(.d (.bool (bs.all id)),h):=rfl
@[simp] theorem dW5 (xs:List PyData) (i:Int):xIx (.d (.tuple xs)) (.d (.int i)) h=(atI xs i).map fun v=>(.d v,h):=rfl
@[simp] theorem dW6 (xs:List PyData) (i:Int):xIx (.d (.list xs)) (.d (.int i)) h=(atI xs i).map fun v=>(.d v,h):=rfl
@[simp] theorem dW7 (xs:List PyData) (lo hi:Option Int):xSl (.d (.tuple xs)) lo hi h=some (.d (.tuple (cut xs lo hi)),h):=rfl
@[simp] theorem dW8 (xs:List PyData) (lo hi:Option Int):xSl (.d (.list xs)) lo hi h=some (.d (.list (cut xs lo hi)),h):=rfl
@[simp] theorem cQ1 (i j:Int):dU .Add (.d (.int i)) (.d (.int j)) h=some (.d (.int (i+j)),h):=rfl
@[simp] theorem cQ2 (i j:Int):dU .Sub (.d (.int i)) (.d (.int j)) h=some (.d (.int (i - j)),h):=rfl
@[simp] theorem cQ3 (i j:Int):dU .Mult (.d (.int i)) (.d (.int j)) h=if gZ i j=true then some (.d (.int (i*j)),h) else none:=rfl
@[simp] theorem cQ4 (i j:Int):dU .FloorDiv (.d (.int i)) (.d (.int j)) h=if aX j=true then some (.d (.int (i / j)),h) else none:=rfl
@[simp] theorem cQ5 (i j:Int):dU .Mod (.d (.int i)) (.d (.int j)) h=if 0 < j then some (.d (.int (i%j)),h) else none:=rfl
@[simp] theorem cQ6 (i j:Int):dU .Pow (.d (.int i)) (.d (.int j)) h=if vJ i j=true then some (.d (.int (i^j.toNat)),h) else none:=rfl
@[simp] theorem cQ7 (xs ys:List PyData):dU .Add (.d (.tuple xs)) (.d (.tuple ys)) h=if xs.length+ys.length<=sizeLine then some (.d (.tuple (xs++ys)),h) else none:=rfl
@[simp] theorem cQ8 (xs ys:List PyData):dU .Add (.d (.list xs)) (.d (.list ys)) h=if xs.length+ys.length<=sizeLine then some (.d (.list (xs++ys)),h) else none:=rfl
@[simp] theorem dI (xs:List PyData):oE none xs h=true:=rfl
theorem bK {g:XG} {te:XR W} {all:List PyData} (f:PyData->PyData) (k:Nat) (hg:∀ w δ h,g w δ h=some (δ.set k (some w),h)) :
  ∀ (rest:List PyData) (δ:DSt) (ac:List PyData),(∀ x∈rest,∀ u,te ((δ.set k u).set k (some (.d x))) h=some (.d (f x),h))->aV g (aE true) te none all rest δ h ac=some (ac++rest.map f,h)
 | [],δ,ac,_=>by simp [aV]
 | x::r,δ,ac,hf=>by
  have e:=hf x List.mem_cons_self none;rw [List.set_set] at e;rw [aV,dI,if_pos rfl,hg];simp only [Option.bind_some,kA,if_true,e];rw [bK f k hg r _ _ fun y hy u=>by
   have:=hf y (List.mem_cons_of_mem _ hy) u;rw [List.set_set] at this ⊢;rw [List.set_set];exact this]
  simp
theorem fG {f:PyData->Bool}:∀ xs:List PyData,dH (xs.map fun x=>.bool (f x))=some (xs.map f)
 | []=>rfl
 | x::r=>by rw [List.map_cons,dH,fG r];rfl
theorem all_map {f:PyData->Bool} {h:aA} (xs:List PyData):jW [.d (.list (xs.map fun x=>.bool (f x)))] h=some (.d (.bool (xs.all f)),h):=by
 rw [bV3,fG,Option.map_some,List.all_map];rfl
end
abbrev S3:=Int×Int×Int
noncomputable def stL (s:S3):Cell:=.l [.int s.1,.int s.2.1,.int s.2.2]
def iV {i:Int} (h1:-(2^64) < i) (h2:i < 2^64) (j:Int):gZ i j=true:=by
 unfold gZ;rw [decide_eq_true h1,decide_eq_true h2];rfl
def aA5 {j:Int} (h1:-(2^64) < j) (h2:j < 2^64) (i:Int):gZ i j=true:=by
 unfold gZ;rw [decide_eq_true h1,decide_eq_true h2,Bool.and_self,Bool.or_true]
def eS {j:Int} (h1:0 < j) (h2:j < 1073741824):aX j=true:=by
 unfold aX;rw [decide_eq_true h1,decide_eq_true h2];rfl
def fH {h L:aA} {i:Nat} {c:Cell} (hi:i < h.length):h.set i c++L=(h++L).set i c:=(List.set_append_left _ _ hi).symm
def aA6 {h:aA} {i:Nat} {xs:List PyData} (hi:i < h.length):ref (h.set i (.l xs)) (.c i)=some (.list xs):=by
 simp [ref,hi]
@[simp] theorem dW9 {h:aA} {i:Nat} {xs:List PyData} (hi:i < h.length) (k:Int):xIx (.c i) (.d (.int k)) (h.set i (.l xs))=(atI xs k).map fun v=>(.d v,h.set i (.l xs)):=by
 unfold xIx;rw [aA6 hi]
noncomputable def thr (f:PyData->S3->PyData) (n:PyData->S3->S3):List PyData->S3->List PyData×S3
 | [],s=>([],s)
 | x::r,s=>(f x s::(thr f n r (n x s)).1,(thr f n r (n x s)).2)
theorem rH {g:XG} {te:XR W} {all:List PyData} {h:aA} {i:Nat} (f:PyData->S3->PyData) (n:PyData->S3->S3) (k:Nat) (hg:∀ w δ h,g w δ h=some (δ.set k (some w),h)) :
  ∀ (rest:List PyData) (δ:DSt) (ac:List PyData) (s:S3),(∀ x∈rest,∀ u s,te ((δ.set k u).set k (some (.d x))) (h.set i (stL s))=some (.d (f x s),h.set i (stL (n x s)))) ->
   aV g (aE true) te none all rest δ (h.set i (stL s)) ac=some (ac++(thr f n rest s).1,h.set i (stL (thr f n rest s).2))
 | [],δ,ac,s,_=>by simp [aV,thr]
 | x::r,δ,ac,s,hf=>by
  have e:=hf x List.mem_cons_self none s;rw [List.set_set] at e;rw [aV,dI,if_pos rfl,hg];simp only [Option.bind_some,kA,if_true,e];rw [rH f n k hg r _ _ _ fun y hy u s=>by
   have:=hf y (List.mem_cons_of_mem _ hy) u s;rw [List.set_set] at this ⊢;rw [List.set_set];exact this]
  simp [thr]
variable (h:aA)
def aI1 (xs:List PyData) (k:Int):dU .Mult (.d (.tuple xs)) (.d (.int k)) h=if k=1 then some (.d (.tuple xs),h) else if xs≠[]/\1 < k/\k < 2^63/\xs.length*k.toNat<=sizeLine then some (.d (.tuple (List.replicate k.toNat xs).flatten),h) else none:=rfl
@[simp] theorem dS5 (L:aA) (i:Nat) (c:Cell):(h.set i c++L).take h.length=h.set i c:=by
 rw [List.take_append_of_le_length (by simp)];simp
end CI
namespace CI
open PySem PySem.Spec PyProof.Rows L2 DL
theorem rJ {g:XG} {te:XR W} {all:List PyData} {h:aA} (f:PyData->PyData) (J:DSt->Prop) :
  ∀ (rest:List PyData) (δ:DSt) (ac:List PyData),J δ->(∀ x∈rest,∀ δ,J δ->∃ δ1,g (.d x) δ h=some (δ1,h)/\J δ1/\te δ1 h=some (.d (f x),h))->aV g (aE true) te none all rest δ h ac=some (ac++rest.map f,h)
 | [],δ,ac,_,_=>by simp [aV]
 | x::r,δ,ac,j,hf=>by
  obtain ⟨δ1,e1,j1,e2⟩:=hf x List.mem_cons_self δ j;rw [aV];simp [e1,e2,aE];rw [rJ f J r δ1 (ac++[f x]) j1 fun y hy=>hf y (List.mem_cons_of_mem _ hy)];simp
theorem dG {g:XG} {te:XR W} {all:List PyData} {h:aA} (J:DSt->Prop) :
  ∀ (ps:List (PyData×PyData)) (δ:DSt) (ac:List PyData),J δ->(∀ p∈ps,∀ δ,J δ->∃ δ1,g (.d p.1) δ h=some (δ1,h)/\J δ1/\te δ1 h=some (.d p.2,h))->aV g (aE true) te none all (ps.map (·.1)) δ h ac=some (ac++ps.map (·.2),h)
 | [],δ,ac,_,_=>by simp [aV]
 | x::r,δ,ac,j,hf=>by
  obtain ⟨δ1,e1,j1,e2⟩:=hf x List.mem_cons_self δ j;rw [List.map_cons,aV];simp [e1,e2,aE];rw [dG J r δ1 (ac++[x.2]) j1 fun y hy=>hf y (List.mem_cons_of_mem _ hy)];simp
@[simp] theorem dS6 (xs:List PyData):mE (.d (.tuple xs))=some xs:=rfl
@[simp] theorem dS7 (xs:List PyData):mE (.d (.list xs))=some xs:=rfl
def cK8 (a:PyData) (xs:List PyData) (h:aA):xIn (.d a) (.d (.tuple xs)) h=if (aT 64 (.tuple xs)&&aT 64 a)=true then some (xs.any fun z=>PyData.eqv z a) else none:=rfl
@[simp] theorem cZ5 (x a b:Str) (h:aA):xIn (.d (.str x)) (.d (.tuple [.str a,.str b])) h=some (a==x||b==x):=by
 rw [cK8];simp [PyData.eqv]
end CI
namespace CI
open PySem PySem.Spec PyProof.Rows L2 DL ST
def cK9 {a b:String} (h:Str.ofString a=Str.ofString b):a=b:=by
 simp only [Str.ofString_eq_byList] at h;unfold Str.ofStringByList at h;have h1:=congrArg Str.cps h;have h2:(a.toList.map Char.toNat)=(b.toList.map Char.toNat):=by
  have:=congrArg Array.toList h1
  simpa using this
 have h3:a.toList=b.toList:=by
  refine (List.map_inj_right ?_).mp h2;intro x y e;exact Char.toNat_inj.mp e
 exact String.toList_inj.mp h3
@[simp] theorem cZ6 (a b:String):(Str.ofString a=Str.ofString b)=(a=b):=propext ⟨cK9,fun e=>by rw [e]⟩
@[simp] theorem dS8 (a b:String):(Str.ofString a==Str.ofString b)=(a==b):=by
 rw [Bool.eq_iff_iff,beq_iff_eq,beq_iff_eq,cZ6]
theorem vX {g:XG} {tb:XS} {all:List PyData} (I:DSt->aA->Prop):∀ (rest:List PyData),(∀ x∈rest,∀ δ h,I δ h->∃ δ1 h1 δ2 h2,g (.d x) δ h=some (δ1,h1)/\tb δ1 h1=some (.nx δ2,h2)/\I δ2 h2) ->
  ∀ (δ:DSt) (h:aA),I δ h->∃ δ' h',cW g tb none all rest δ h=some (.nx δ',h')/\I δ' h'
 | [],_,δ,h,i=>⟨δ,h,by simp [cW],i⟩
 | x::r,ht,δ,h,i=>by
  obtain ⟨δ1,h1,δ2,h2,e1,e2,i2⟩:=ht x List.mem_cons_self δ h i;obtain ⟨δ3,h3,e3,i3⟩:=vX I r (fun y hy=>ht y (List.mem_cons_of_mem _ hy)) δ2 h2 i2;refine ⟨δ3,h3,?_,i3⟩;rw [cW,dI,if_pos rfl,e1];simp only [Option.bind_some,e2];exact e3
def rK {g:XG} {tb:XS} {all:List PyData} (I:DSt->aA->Prop) (rest:List PyData) (ht:∀ x∈rest,∀ δ h,I δ h->∃ δ1 h1,g (.d x) δ h=some (δ1,h1)/\∃ δ2 h2,tb δ1 h1=some (.nx δ2,h2)/\I δ2 h2) (δ:DSt) (h:aA) (i:I δ h) :
  ∃ δ' h',cW g tb none all rest δ h=some (.nx δ',h')/\I δ' h':=vX I rest (fun x hx δ h i=>let ⟨δ1,h1,e1,δ2,h2,e2,i2⟩:=ht x hx δ h i;⟨δ1,h1,δ2,h2,e1,e2,i2⟩) δ h i
def fL {x:Option (Fl×aA)} {f:Fl×aA->Option (Fl×aA)} {P:DSt->aA->Prop} (δ':DSt) (h':aA) (e:x=some (.nx δ',h')) (k:∃ δ2 h2,f (.nx δ',h')=some (.nx δ2,h2)/\P δ2 h2):∃ δ2 h2,x.bind f=some (.nx δ2,h2)/\P δ2 h2:=by
 rw [e];exact k
section
variable (h:aA)
@[simp] theorem cZ7:gX []=some []:=rfl
@[simp] theorem cQ9 (i:Int) (r:List PyData):gX (.int i::r)=(gX r).map (i::·):=rfl
@[simp] theorem dU9:xIs (.d .none) (.d .none)=some true:=rfl
@[simp] theorem dV0 (i:Int):xIs (.d (.int i)) (.d .none)=some false:=rfl
@[simp] theorem dV1 (xs:List PyData):xIs (.d (.tuple xs)) (.d .none)=some false:=rfl
def get_last (c:Cell):(h++[c])[h.length]?=some c:=by simp
def mpre_last (xs:List PyData):pQ "append" (.c h.length) (h++[.l xs])=true:=by
 unfold pQ;rw [if_pos rfl];simp
def bL8 {lo:Int} {n:Nat} {x:PyData} (hx:x∈rng lo n):∃ k:Nat,k < n/\x=.int (lo+k):=by
 unfold rng at hx;obtain ⟨k,hk,rfl⟩:=List.mem_map.mp hx;exact ⟨k,by simpa using hk,rfl⟩
end
@[simp high] theorem bs {α β:Type} (a:α) (f:α->Option β):(some a).bind f=f a:=id rfl
@[simp high] theorem xv0 (w:W) (l:DSt) (h:aA):aB 0 (some w::l) h=some (w,h):=id rfl
@[simp high] theorem xv1 {x0:Option W} (w:W) (l:DSt) (h:aA):aB 1 (x0::some w::l) h=some (w,h):=id rfl
@[simp high] theorem xv2 {x0 x1:Option W} (w:W) (l:DSt) (h:aA):aB 2 (x0::x1::some w::l) h=some (w,h):=id rfl
@[simp high] theorem xv3 {x0 x1 x2:Option W} (w:W) (l:DSt) (h:aA):aB 3 (x0::x1::x2::some w::l) h=some (w,h):=id rfl
@[simp high] theorem xv4 {x0 x1 x2 x3:Option W} (w:W) (l:DSt) (h:aA):aB 4 (x0::x1::x2::x3::some w::l) h=some (w,h):=id rfl
@[simp high] theorem xv5 {x0 x1 x2 x3 x4:Option W} (w:W) (l:DSt) (h:aA):aB 5 (x0::x1::x2::x3::x4::some w::l) h=some (w,h):=id rfl
@[simp high] theorem xv6 {x0 x1 x2 x3 x4 x5:Option W} (w:W) (l:DSt) (h:aA):aB 6 (x0::x1::x2::x3::x4::x5::some w::l) h=some (w,h):=id rfl
@[simp high] theorem xv7 {x0 x1 x2 x3 x4 x5 x6:Option W} (w:W) (l:DSt) (h:aA):aB 7 (x0::x1::x2::x3::x4::x5::x6::some w::l) h=some (w,h):=id rfl
@[simp high] theorem xv9 {x0 x1 x2 x3 x4 x5 x6 x7 x8:Option W} (w:W) (l:DSt) (h:aA):aB 9 (x0::x1::x2::x3::x4::x5::x6::x7::x8::some w::l) h=some (w,h):=id rfl
@[simp high] theorem dX0 {x0 x1 x2 x3 x4 x5 x6 x7 x8 x9 x10:Option W} (w:W) (l:DSt) (h:aA):aB 11 (x0::x1::x2::x3::x4::x5::x6::x7::x8::x9::x10::some w::l) h=some (w,h):=id rfl
@[simp high] theorem dX1 {x0 x1 x2 x3 x4 x5 x6 x7 x8 x9 x10 x11 x12 x13:Option W} (w:W) (l:DSt) (h:aA):aB 14 (x0::x1::x2::x3::x4::x5::x6::x7::x8::x9::x10::x11::x12::x13::some w::l) h=some (w,h):=id rfl
theorem mY {g:XG} {tt:XR Bool} {te:XR W} {all:List PyData} {h:aA} (p:PyData->Bool) (f:PyData->PyData) (I:DSt->Prop):∀ (xs:List PyData) (δ:DSt) (ac:List PyData),I δ ->
  (∀ x∈xs,∀ δ,I δ->∃ δ',g (.d x) δ h=some (δ',h)/\I δ'/\tt δ' h=some (p x,h)/\(p x=true->te δ' h=some (.d (f x),h)))->aV g tt te none all xs δ h ac=some (ac++(xs.filter p).map f,h)
 | [],δ,ac,_,_=>by simp [aV]
 | x::r,δ,ac,i,hx=>by
  obtain ⟨δ',e1,i',e2,e3⟩:=hx x List.mem_cons_self δ i;have ih:=fun ac=>mY (all:=all) p f I r δ' ac i' fun y hy=>hx y (List.mem_cons_of_mem _ hy);rw [aV,dI,if_pos rfl,e1];simp only [bs,e2];cases hp:p x with
  | true=>rw [if_pos rfl,e3 hp];simp only [bs];rw [ih];simp [hp]
  | false=>rw [if_neg (by simp)];rw [ih];simp [hp]
def cL0 {g:XG} {te:XR W} {all:List PyData} {h:aA} (f:PyData->PyData) (I:DSt->Prop) (xs:List PyData) (δ:DSt) (i:I δ)
  (hx:∀ x∈xs,∀ δ,I δ->∃ δ',g (.d x) δ h=some (δ',h)/\I δ'/\te δ' h=some (.d (f x),h)):aV g (aE true) te none all xs δ h []=some (xs.map f,h):=by
 have:=mY (g:=g) (tt:=aE true) (te:=te) (all:=all) (h:=h) (fun _=>true) f I xs δ [] i fun x m δ i=>by
  obtain ⟨δ',a,b,c⟩:=hx x m δ i;exact ⟨δ',a,b,rfl,fun _=>c⟩
 rw [this,List.filter_eq_self.mpr (fun _ _=>rfl),List.nil_append]
def yE {σ α:Type} {g:XG} {tb:XS} {all:List PyData} {P:DSt->aA->Prop} (F:α->PyData) (st:σ->α->σ) (R:σ->DSt->aA->Prop) (s:σ) (qs:List α) {δ:DSt} {h:aA} (hi:R s δ h) (hP:∀ δ h,R (qs.foldl st s) δ h->P δ h)
  (ht:∀ q∈qs,∀ s δ h,R s δ h->∃ δ1 h1,g (.d (F q)) δ h=some (δ1,h1)/\∃ δ2 h2,tb δ1 h1=some (.nx δ2,h2)/\R (st s q) δ2 h2):∃ δ' h',cW g tb none all (qs.map F) δ h=some (.nx δ',h')/\P δ' h':=by
 suffices H:∀ (qs:List α) (s:σ) (δ:DSt) (h:aA),R s δ h->(∀ q∈qs,∀ s δ h,R s δ h->∃ δ1 h1,g (.d (F q)) δ h=some (δ1,h1)/\∃ δ2 h2,tb δ1 h1=some (.nx δ2,h2)/\R (st s q) δ2 h2)->∃ δ' h',cW g tb none all (qs.map F) δ h=some (.nx δ',h')/\R (qs.foldl st s) δ' h' by
  obtain ⟨δ',h',e,r⟩:=H qs s δ h hi ht;exact ⟨δ',h',e,hP _ _ r⟩
 clear hP hi ht;intro qs;induction qs with
 | nil=>exact fun s δ h i _=>⟨δ,h,by simp [cW],i⟩
 | cons q r ih =>
  intro s δ h i ht;obtain ⟨δ1,h1,e1,δ2,h2,e2,i2⟩:=ht q List.mem_cons_self s δ h i;obtain ⟨δ3,h3,e3,i3⟩:=ih _ δ2 h2 i2 fun y hy=>ht y (List.mem_cons_of_mem _ hy);refine ⟨δ3,h3,?_,i3⟩;rw [List.map_cons,cW,dI,if_pos rfl,e1];simp only [bs,e2];exact e3
def eJ {g:XG} {tb:XS} {all:List PyData} {P:DSt->aA->Prop} (I:Nat->DSt->aA->Prop) {rest:List PyData} {δ:DSt} {h:aA} (hi:I 0 δ h) (hP:∀ δ h,I rest.length δ h->P δ h)
  (ht:∀ n (hn:n < rest.length) δ h,I n δ h->∃ δ1 h1,g (.d rest[n]) δ h=some (δ1,h1)/\∃ δ2 h2,tb δ1 h1=some (.nx δ2,h2)/\I (n+1) δ2 h2):∃ δ' h',cW g tb none all rest δ h=some (.nx δ',h')/\P δ' h':=by
 suffices H:∀ (r:List PyData) (n:Nat) (δ:DSt) (h:aA),(∃ p,rest=p++r/\p.length=n)->I n δ h->∃ δ' h',cW g tb none all r δ h=some (.nx δ',h')/\I rest.length δ' h' by
  obtain ⟨δ',h',e,i⟩:=H rest 0 δ h ⟨[],rfl,rfl⟩ hi;exact ⟨δ',h',e,hP δ' h' i⟩
 intro r;induction r with
 | nil =>
  rintro n δ h ⟨p,e1,e2⟩ i;subst e2;simp at e1;subst e1;exact ⟨δ,h,by simp [cW],i⟩
 | cons x r ih =>
  rintro n δ h ⟨p,e1,e2⟩ i;have hn:n < rest.length:=by rw [e1];simp;omega
  have hx:rest[n]=x:=by subst e2;subst e1;simp
  obtain ⟨δ1,h1,e1',δ2,h2,e2',i2⟩:=ht n hn δ h i;rw [hx] at e1';obtain ⟨δ3,h3,e3,i3⟩:=ih (n+1) δ2 h2 ⟨p++[x],by simp [e1],by simp [e2]⟩ i2;refine ⟨δ3,h3,?_,i3⟩;rw [cW,dI,if_pos rfl,e1'];simp only [bs,e2'];exact e3
def rng_len (lo:Int) (n:Nat):(rng lo n).length=n:=by simp [rng]
@[simp] theorem at4 (a b c e f:PyData) (r:List PyData):atI (a::b::c::e::f::r) 4=some f:=fQ (j:=4) (by simp)
@[simp] theorem at5 (a b c e f g:PyData) (r:List PyData):atI (a::b::c::e::f::g::r) 5=some g:=fQ (j:=5) (by simp)
end CI
namespace CI
open PySem PySem.Spec PyProof.Rows L2 DL
noncomputable def gcl (b:List Stmt):List (Str×PyData):=b.filterMap fun s=>match s with
 | .Assign [.Name y _] e _=>if !(y==("__name__":Str)) then (aV8 4 e).map (y,·) else none
 | _=>none
def cL1 {b:List Stmt} {x:Str} {z:PyData} (h:cK1 b x=some z):(x,z)∈gcl b:=by
 obtain ⟨s,hs,e⟩:=List.exists_of_findSome?_eq_some h;refine List.mem_filterMap.mpr ⟨s,hs,?_⟩;split at e
 ·rename_i y p e0 q;split at e
  ·rename_i hc;rw [Bool.and_eq_true] at hc;have:y=x:=eq_of_beq hc.1;subst this;try simp only []
   rw [if_pos hc.2,e];rfl
  ·cases e
 ·cases e
noncomputable def tkl (b:List Stmt):List (Str×List (Str×Int)):=b.filterMap fun s=>match s with
 | .Assign [.Name y _] (.Dict ks vs _) _=>(cK2 ks vs).map (y,·)
 | _=>none
def cL2 {b:List Stmt} {x:Str} {f:Str->Option Int} (h:cK3 b x=some f):∃ t,(x,t)∈tkl b/\f=fun z=>t.lookup z:=by
 obtain ⟨s,hs,e⟩:=List.exists_of_findSome?_eq_some h;split at e
 ·rename_i y p ks vs p2 q;split at e
  ·rename_i hc;have:y=x:=eq_of_beq hc;subst this;obtain ⟨t,et,rfl⟩:=Option.map_eq_some_iff.mp e;refine ⟨t,List.mem_filterMap.mpr ⟨_,hs,?_⟩,rfl⟩;simp only [];rw [et];rfl
  ·cases e
 ·cases e
noncomputable def dfl (b:List Stmt):List (Str×Stmt):=b.filterMap fun s=>match s with
 | .FunctionDef n _ _ _ _ _ _ _ _ _=>some (n,s)
 | _=>none
def cL3 {b:List Stmt} {x:Str} {s:Stmt} (h:yD b x=some s):(x,s)∈dfl b:=by
 have h1:=List.find?_some h;have h2:=List.mem_of_find?_eq_some h;refine List.mem_filterMap.mpr ⟨s,h2,?_⟩;unfold bV1 at h1;split at h1
 ·simp only [eq_of_beq h1]
 ·cases h1
section
variable {P:Program} {w:World} {K:Frag} {mg:Str->Option Value} {base:Heap}
theorem lC (K:Frag) (A:List Addr) (H:Hp):∀ ns:List Int,Reps K A H (ns.map .int) (ns.map V.int)
 | []=>.nil
 | n::r=>.cons jR (lC K A H r)
def vY {x k:Str} {hh:Int} {t:Tok} {v:Value} {es:List DictEntry}:findBy Value.isStrOf (⟨hh,.str k t,v⟩::es).toArray x=if k=x then some v else findBy Value.isStrOf es.toArray x:=by
 unfold findBy;simp only [List.find?_toArray,List.find?_cons,Value.isStrOf]
 by_cases e:k=x
 ·simp [e]
 ·have:(k==x)=false:=beq_eq_false_iff_ne.mpr e;simp [e,this]
end
theorem vZ {K:Frag} {A:List Addr} {H:Hp}:∀ {ws:List Str},(ws.all PyData.strOk)=true->Reps K A H (ws.map .str) (ws.map V.str)
 | [],_=>by rw [List.map_nil,List.map_nil,Reps]
 | x::r,h=>by
  rw [List.all_cons,Bool.and_eq_true] at h;rw [List.map_cons,List.map_cons,Reps];exact ⟨_,_,rfl,by rw [Rep];exact ⟨rfl,h.1⟩,vZ h.2⟩
def cL4 {K:Frag} {a:Addr} {n:Nat} {ws:List Str} {its:Array Value} (h:K.lookup a=some ⟨.type "tuple",none,.seq its n,#[]⟩) (hv:Vals (ws.map V.str) its.toList) (hs:its.size<=sizeLine) (ho:(ws.all PyData.strOk)=true) (A:List Addr) (H:Hp):Rep K A H (.tuple (ws.map .str)) (.ref a):=by
 rw [Rep];exact ⟨a,ws.map V.str,rfl,.inr ⟨_,its,n,h,rfl,rfl,rfl,hs,hv⟩,vZ ho⟩
def FI (K:Frag) (n:Str) (s:Stmt):Prop:=∃ (f:Addr) (od an:Option Addr) (sl:Array (Option Value)) (oc kV dc pm cd ct:Value),PySem.W.nsIn K mainGlobals n=some (some (.ref f))/\K.lookup f=some ⟨oc,od,.func (PySem.W.fnOf n n (cF s) (bI s) (aF s) .none kV dc pm an cd ct),sl⟩/\PySem.W.codeIn K cd n=true/\PySem.W.keepIn K (.ref f)=true
def fi_mk {K:Frag} {n:Str} {s:Stmt} {f:Addr} {od an:Option Addr} {sl:Array (Option Value)} {oc kV dc pm cd ct:Value} (a:PySem.W.nsIn K mainGlobals n=some (some (.ref f))) (l:K.lookup f=some ⟨oc,od,.func (PySem.W.fnOf n n (cF s) (bI s) (aF s) .none kV dc pm an cd ct),sl⟩) (c:PySem.W.codeIn K cd n=true) (k:PySem.W.keepIn K (.ref f)=true):FI K n s:=⟨_,_,_,_,_,_,_,_,_,_,a,l,c,k⟩
def FI.ok {K:Frag} {n:Str} {s:Stmt} {h:Heap} {mg:Str->Option Value} {ps:List Str} (a:FI K n s) (X:K.In h) (G:h.Ns mainGlobals mg) (hp:aO s=ps)
  (hb:∀ (kV doc pm:Value) (an:Option Addr) (cdv ct:Value) (us:List Value),us.length=ps.length->bindArgs (PySem.W.fnOf n n (cF s) (bI s) (aF s) .none kV doc pm an cdv ct) ⟨us,[]⟩=pure (ps.zip us)):∃ f fd,Fun K n n s f fd/\mg n=some (.ref f)/\Binds K fd (aO s) []:=by
 obtain ⟨f,od,an,sl,oc,kV,dc,pm,cd,ct,a,l,c,k⟩:=a;have F:=aN1 (st:=s) l c k;exact ⟨f,_,F,PySem.W.mg_of X G a,by rw [hp];exact F.binds hb⟩
def cL5 {K:Frag} {a:Addr} {n:Nat} {ws:List Int} {its:Array Value} (h:K.lookup a=some ⟨.type "tuple",none,.seq its n,#[]⟩) (hv:Vals (ws.map V.int) its.toList) (hs:its.size<=sizeLine) (A:List Addr) (H:Hp):Rep K A H (.tuple (ws.map .int)) (.ref a):=by
 rw [Rep];exact ⟨a,ws.map V.int,rfl,.inr ⟨_,its,n,h,rfl,rfl,rfl,hs,hv⟩,lC K A H ws⟩
def FI.ok1 {K:Frag} {n:Str} {s:Stmt} {h:Heap} {mg:Str->Option Value} (a:FI K n s) (X:K.In h) (G:h.Ns mainGlobals mg) (hn:(aO s).length=1) (hb:∀ (kV doc pm:Value) (an:Option Addr) (cdv ct u:Value),bindArgs (PySem.W.fnOf n n (cF s) (bI s) (aF s) .none kV doc pm an cdv ct) ⟨[u],[]⟩=pure ((aO s).zip [u])):∃ f fd,Fun K n n s f fd/\mg n=some (.ref f)/\Binds K fd (aO s) []:=a.ok X G rfl fun kV doc pm an cdv ct us hl=>by
 rw [hn] at hl
 match us,hl with
 | [u],_=>exact hb kV doc pm an cdv ct u
def FI.ok2 {K:Frag} {n:Str} {s:Stmt} {h:Heap} {mg:Str->Option Value} (a:FI K n s) (X:K.In h) (G:h.Ns mainGlobals mg) (hn:(aO s).length=2) (hb:∀ (kV doc pm:Value) (an:Option Addr) (cdv ct u v:Value),bindArgs (PySem.W.fnOf n n (cF s) (bI s) (aF s) .none kV doc pm an cdv ct) ⟨[u,v],[]⟩=pure ((aO s).zip [u,v])):∃ f fd,Fun K n n s f fd/\mg n=some (.ref f)/\Binds K fd (aO s) []:=a.ok X G rfl fun kV doc pm an cdv ct us hl=>by
 rw [hn] at hl
 match us,hl with
 | [u,v],_=>exact hb kV doc pm an cdv ct u v
def FI.ok3 {K:Frag} {n:Str} {s:Stmt} {h:Heap} {mg:Str->Option Value} (a:FI K n s) (X:K.In h) (G:h.Ns mainGlobals mg) (hn:(aO s).length=3) (hb:∀ (kV doc pm:Value) (an:Option Addr) (cdv ct u v x:Value),bindArgs (PySem.W.fnOf n n (cF s) (bI s) (aF s) .none kV doc pm an cdv ct) ⟨[u,v,x],[]⟩=pure ((aO s).zip [u,v,x])):∃ f fd,Fun K n n s f fd/\mg n=some (.ref f)/\Binds K fd (aO s) []:=a.ok X G rfl fun kV doc pm an cdv ct us hl=>by
 rw [hn] at hl
 match us,hl with
 | [u,v,x],_=>exact hb kV doc pm an cdv ct u v x
end CI
namespace CI
open PySem DL
variable {h L:aA} {i:Nat} {c c':Cell}
open Classical in
@[simp] theorem dS9 (h0:aA) (z:PyData) (h1:aA):ends h0 (.rt (.d z),h1)=if okP h0 h1 then some (z,h1.take h0.length) else none:=rfl
open Classical in
@[simp] theorem dT0 (h0:aA) (δ:DSt) (h1:aA):ends h0 (.nx δ,h1)=if okP h0 h1 then some (PyData.none,h1.take h0.length) else none:=rfl
def aA7 (xs:List PyData):okP (h.set i c) (h.set i (.l xs)):=by
 have:=cK4 i xs (gQ (h.set i c))
 rwa [List.set_set] at this
@[simp] theorem dV2 (xs:List PyData):okP (h.set i c) (h.set i (.l xs))=True:=eq_true (aA7 xs)
@[simp] theorem dV3 (s:S3):okP (h.set i c) (h.set i (stL s))=True:=eq_true (aA7 _)
@[simp] theorem dV4 (xs:List PyData):okP (h.set i c) (h.set i (.l xs)++L)=True:=eq_true (oP L (by simp) (aA7 xs))
@[simp] theorem cL6 (s:S3):okP (h.set i c) (h.set i (stL s)++L)=True:=eq_true (oP L (by simp) (aA7 _))
@[simp] theorem aW2 (s:S3) (hi:i < h.length):okP (h.set i c) ((h++L).set i (stL s))=True:=by rw [<- fH hi,cL6]
@[simp] theorem dT1:(h.set i c).take h.length=h.set i c:=List.take_of_length_le (by simp)
@[simp] theorem cZ8:(h.set i c++L).take h.length=h.set i c:=by rw [List.take_append_of_le_length (by simp),dT1]
@[simp] theorem aW3 (hi:i < h.length):((h++L).set i c).take h.length=h.set i c:=by rw [<- fH hi,cZ8]
end CI
namespace L2
open PySem PySem.Spec PyProof.Rows
section
variable {P:Program} {w:World} {H H':Hp} {h h':Heap} {a:Addr} {o:HO}
def ObjOk.ex (x:ObjOk P w H h a o):∃ u,h.get? a=some u:=by
 cases o with
 | lst xs=>obtain ⟨_,_,_,_,e⟩:=x;exact ⟨_,e⟩
 | tup xs=>obtain ⟨_,_,_,ob,e,_⟩:=x;exact ⟨_,e⟩
 | dK kvs=>obtain ⟨_,_,_,_,ob,_,_,e,_⟩:=x;exact ⟨_,e⟩
 | dT kvs=>obtain ⟨_,_,_,_,ob,_,_,e,_⟩:=x;exact ⟨_,e⟩
 | set S n=>obtain ⟨ob,_,_,_,e,_⟩:=x;exact ⟨_,e⟩
 | ins C dx fs=>obtain ⟨_,_,_,e,_⟩:=x;exact ⟨_,e⟩
 | own y=>exact x
 | xd fs=>obtain ⟨_,⟨ob,_,_,e,_⟩,_⟩:=x;exact ⟨_,e⟩
 | rng lo hi=>obtain ⟨_,_,_,e⟩:=x;exact ⟨_,e⟩
 | frz ob u=>exact ⟨_,x.1⟩
 | tbl ps=>exact ⟨_,show h.get? a=some _ from x⟩
 | met f y=>exact ⟨_,show h.get? a=some _ from x⟩
 | ext φ=>exact x.2.1
def HOk.keptT (x:HOk P w H h) (k:∀ b u,H b≠none->h.get? b=some u->h'.get? b=some u):HOk P w H h':=fun a o e =>
 (x a o e).stay (fun b u hb q=>k b u (by
  rcases hb with z | z
  ·rw [z,e];exact fun n=>nomatch n
  ·rw [z];exact fun n=>nomatch n) q) (fun _ q=>q) fun _ _ q=>q
def HOk.exT (x:HOk P w H h) (n:H a≠none):∃ u,h.get? a=some u:=by
 cases z:H a with
 | none=>exact absurd z n
 | some o'=>exact (x a o' z).ex
end
def aW4 {env:Env} {l:List Env} {L:Addr} (hf:env.frame=some L):frs (env::l)=L::frs l:=by
 show List.filterMap _ _=_;rw [List.filterMap_cons,hf];rfl
structure Flies (P:Program) (w:World) (C:Addr) (outer:List Env) (H:Hp) (s:Shared) (E:XK) (ea:Addr) (H':Hp) (s':Shared):Prop where
 os:s'.os=s.os
 bare:AllBare s'.gens
 un:Un (frs outer) [] H H' s.heap s'.heap
 hok:HOk P w H' s'.heap
 want:E (.ref C) none H'
 fly:∃ B t,Heap.FlyingW B outer ea (.ref C) (.ref t) s'.heap/\∀ b o,s'.heap.get? b=some o->b∉frs outer->(H' b≠none\/∃ u,s.heap.get? b=some u)->B.get? b=some o
noncomputable def CXN (P:Program) (w:World) (C:Addr):CXT:=fun outer H s E e s'=>∃ ea H',e=.ref ea/\Flies P w C outer H s E ea H' s'
structure Cx.Body (X:Cx):Prop where
 st:X.stack=X.env::X.outer
 fr:X.env.frame=some X.env.locals
 ex:X.ex=[]
section
variable {X:Cx} {C:Addr} {E E':XK} {Ex:Value->Shared->Prop} {pins:List (Addr×Obj)} {σ:St} {H H':Hp} {s s':Shared} {h1:Heap} {e:Addr} {vs:List Value}
def Inv.neL (I:Inv X pins σ H s) {b:Addr} {o:Obj} (q:X.s₀.heap.get? b=some o):b≠X.env.locals:=Nat.ne_of_lt (Nat.lt_of_lt_of_le (Heap.lt_size q) I.ok.above)
def Cx.Body.fs (b:X.Body):frs X.stack=X.env.locals::frs X.outer:=by rw [b.st];exact aW4 b.fr
def Cx.Body.out (b:X.Body) {a:Addr} (h1:a≠X.env.locals) (h2:a∉frs X.outer):a∉frs X.stack:=fun z=>by
 rw [b.fs] at z;exact (List.mem_cons.mp z).elim h1 h2
def aW5 (I:Inv X pins σ H s) (b:X.Body) (hx:Heap.MadeExcOf s.heap h1 e (.ref C) vs) (want:E (.ref C) none H) :
  wpAny (model X.prog X.w) X.A (leaving X.env (.ref e)) (fun _ s''=>CXN X.prog X.w C X.outer X.H₀ X.s₀ E (.ref e) s'') Ex { s with heap:=h1 }:=by
 have hst:=I.stack;have fr:s.heap.FunFrames (PySem.W.hideAll s.heap (frs X.stack)) (X.env::X.outer):=by
  have:=PySem.W.funFrames_hide (as:=frs X.stack) hst fun env he a ha=>List.mem_filterMap.mpr ⟨env,he,ha⟩
  rwa [b.st] at this ⊢
 have kB:∀ a o,s.heap.get? a=some o->a∉frs X.stack->(PySem.W.hideAll s.heap (frs X.stack)).get? a=some o:=fun a o q n=>PySem.W.hideAll_get _ q n;have ub:Un X.fs [] X.H₀ H X.s₀.heap s.heap:=by have:=I.base;rwa [b.ex] at this
 have nil:∀ a:Addr,a∉([]:List Addr):=fun a z=>nomatch z
 refine wpAny_leaves_madeW (base:=PySem.W.hideAll s.heap (frs X.stack)) (h:=s.heap) (env:=X.env) (outer:=X.outer) (by rw [I.ok.frames,b.st]) b.fr (fun a o q=>PySem.W.of_hideAll _ q) fr hx fun h' t fl _ _ up=>?_;have kh:∀ a o,s.heap.get? a=some o->a∉frs X.stack->h'.get? a=some o:=fun a o q n=>fl.1 a o (kB a o q n);have sl:∀ a o,s.heap.get? a=some o->a∈frs X.stack->∃ sl,h'.get? a=some { o with slots:=sl }:=fun a o q m=>by
  obtain ⟨_,o',ho',hd⟩:=hst.mem m;rw [q] at ho';cases ho';exact up a o (hx.keeps a o q) hd
 have tr:∀ a,H a≠none->a∉frs X.stack:=fun a n m=>n (I.stkFree a m);refine ⟨e,H,rfl,⟨I.os,I.bare,⟨fun a o q n ha _=>kh a o (ub.keep a o q n ha (nil a)) (b.out (I.neL q) ha),fun a o q n ha _=>?_,fun a o q n _=>ub.free a o q n (nil a),fun a o q _=>?_,ub.tups,ub.frzs,ub.tbls⟩,I.hok.keptT fun a u n q=>kh a u q (tr a n),want,_,t,fl,fun a o q na hc=>?_⟩⟩
 ·obtain ⟨s1,e1⟩:=ub.slot a o q n ha (nil a);obtain ⟨s2,e2⟩:=sl a _ e1 (by rw [b.fs];exact List.mem_cons_of_mem _ ha);exact ⟨s2,e2⟩
 ·obtain ⟨o',e1⟩:=ub.there a o q (nil a)
  by_cases m:a∈frs X.stack
  ·obtain ⟨s2,e2⟩:=sl a o' e1 m;exact ⟨_,e2⟩
  ·exact ⟨o',kh a o' e1 m⟩
 ·obtain ⟨u,hu⟩:∃ u,s.heap.get? a=some u:=hc.elim (fun n=>I.hok.exT n) fun ⟨u,q0⟩=>ub.there a u q0 (nil a);have na':a∉frs X.stack:=hc.elim (tr a) fun ⟨u,q0⟩=>b.out (I.neL q0) na;have z:=kh a u hu na';rw [q] at z;cases z;exact kB a _ hu na'
def cL7 {ea:Addr} (I:Inv X pins σ H s) (b:X.Body) (F:Flies X.prog X.w C X.stack H s E ea H' s') (want:E' (.ref C) none H') :
  wpAny (model X.prog X.w) X.A (leaving X.env (.ref ea)) (fun _ s''=>CXN X.prog X.w C X.outer X.H₀ X.s₀ E' (.ref ea) s'') Ex s':=by
 obtain ⟨B,t,fl,pr⟩:=F.fly;have ub:Un X.fs [] X.H₀ H X.s₀.heap s.heap:=by have:=I.base;rwa [b.ex] at this
 have nil:∀ a:Addr,a∉([]:List Addr):=fun a z=>nomatch z
 have fl0:Heap.FlyingW B (X.env::X.outer) ea (.ref C) (.ref t) s'.heap:=by rw [<- b.st];exact fl
 refine wpAny_leaves_onW (env:=X.env) (outer:=X.outer) (by rw [I.ok.frames,b.st]) b.fr fl0 fun h' fl' up=>?_;have kh:∀ a o,s'.heap.get? a=some o->a∉frs X.stack->(H' a≠none\/∃ u,s.heap.get? a=some u)->h'.get? a=some o:=fun a o q n hc=>fl'.1 a o (pr a o q n hc);have sl:∀ a o,s'.heap.get? a=some o->a∈frs X.stack->∃ sl,h'.get? a=some { o with slots:=sl }:=fun a o q m=>by
  obtain ⟨_,o',ho',hd⟩:=fl.2.2.1.mem m;rw [q] at ho';cases ho';exact up a o q hd
 have tr:∀ a,H' a≠none->a∉frs X.stack:=fun a n m=>by
  obtain ⟨_,o',ho',_⟩:=I.stack.mem m;exact n (F.un.free a o' ho' (I.stkFree a m) (nil a))
 have hv:∀ a u,X.s₀.heap.get? a=some u->∃ u',s'.heap.get? a=some u'/\∃ u'',s.heap.get? a=some u'':=fun a u q=>by
  obtain ⟨o1,e1⟩:=ub.there a u q (nil a);obtain ⟨o2,e2⟩:=F.un.there a o1 e1 (nil a);exact ⟨o2,e2,o1,e1⟩
 refine ⟨ea,H',rfl,⟨F.os.trans I.os,F.bare,⟨fun a o q n ha _=>?_,fun a o q n ha _=>?_,fun a o q n _=>?_,fun a o q _=>?_,fun a xs q=>F.un.tups a xs (ub.tups a xs q),fun a o u q=>F.un.frzs a o u (ub.frzs a o u q),fun a ps q=>?_⟩,F.hok.keptT fun a u n q=>kh a u q (tr a n) (.inl n),want,B,t,fl',fun a o q na hc=>?_⟩⟩
 ·have e1:=ub.keep a o q n ha (nil a);have na:=b.out (I.neL q) ha;exact kh a o (F.un.keep a o e1 (ub.free a o q n (nil a)) na (nil a)) na (.inr ⟨o,e1⟩)
 ·obtain ⟨s1,e1⟩:=ub.slot a o q n ha (nil a);have m:a∈frs X.stack:=by rw [b.fs];exact List.mem_cons_of_mem _ ha
  obtain ⟨s2,e2⟩:=F.un.slot a _ e1 (ub.free a o q n (nil a)) m (nil a);obtain ⟨s3,e3⟩:=sl a _ e2 m;exact ⟨s3,e3⟩
 ·obtain ⟨o1,e1⟩:=ub.there a o q (nil a);exact F.un.free a o1 e1 (ub.free a o q n (nil a)) (nil a)
 ·obtain ⟨u',e',ou⟩:=hv a o q
  by_cases m:a∈frs X.stack
  ·obtain ⟨s2,e2⟩:=sl a u' e' m;exact ⟨_,e2⟩
  ·exact ⟨u',kh a u' e' m (.inr ou)⟩
 ·obtain ⟨m1,e1⟩:=ub.tbls a ps q;obtain ⟨m2,e2⟩:=F.un.tbls a _ e1;exact ⟨m1++m2,by rw [e2,Array.append_assoc]⟩
 ·have na':a∉frs X.stack:=hc.elim (tr a) fun ⟨u,q0⟩=>b.out (I.neL q0) na;have hc':H' a≠none\/∃ u,s.heap.get? a=some u:=hc.elim .inl fun ⟨u,q0⟩=>by obtain ⟨_,_,u2,e2⟩:=hv a u q0;exact .inr ⟨u2,e2⟩
  obtain ⟨u,hu⟩:∃ u,s'.heap.get? a=some u:=hc.elim (fun n=>F.hok.exT n) fun ⟨u,q0⟩=>by obtain ⟨u',e',_⟩:=hv a u q0;exact ⟨u',e'⟩
  have z:=kh a u hu na' hc';rw [q] at z;cases z;exact pr a _ hu na' hc'
end
section
variable {X:Cx} {CX:CXT} {k:Nat} {f C:Addr} {fd:FuncData} {ps:List Str} {sp:Sp} {E:XK} {Ex:Value->Shared->Prop} {x:Str} {p pos epos:Pos} {e:Expr} {es:List Expr} {t:TA}
def lW {pins:List (Addr×Obj)} {σ:St} {H:Hp} {s:Shared} (F:FnOk X.prog X.w X.K X.mg X.base CX k f fd ps sp) (hr:Room k X.A) (hg:Gl X x) (hm:X.mg x=some (.ref f)) (hk:PySem.W.keepIn X.K (.ref f)=true) (hb:Binds X.K fd ps [])
  (ha:PA (X.wish Ex) (e::es) t) (I:Inv X pins σ H s) (q:t σ H fun vs H1=>sp vs H1 (fun _ _=>False) E) (hE:∀ H1 s1 ex s',Inv X pins σ H1 s1->CX X.stack H1 s1 E ex s'->Ex ex s')
  (hdb:autoParam ((x==("__debug__":Str))=false) ZD) (he:autoParam (starEach (e::es) X.env=(false,eval e X.env)::starEach es X.env) ZR) (hpl:autoParam ((backTo pos (starEach es X.env)).any (·.1)=false) ZR) :
  wpAny (model X.prog X.w) X.A (eval (.Call (.Name x p) (e::es) [] pos) X.env) (fun _ _=>False) Ex s:=by
 refine wpAny_Call_Name_kw (iP I hg hm ?_ hdb);refine PySem.W.callWith_K (h₀:=X.base) I.ok.mod.kin hk (thn (ha pos pins s σ H _ (I.wish Ex) q) fun us s1 ⟨vs,H1,I1,r,q1⟩=>⟨I1.kIn,?_⟩) he hpl;have I2:Inv X pins σ H1 s1:=I1.unwish;have hl:us.length=ps.length:=by rw [<- r.length];exact F.len _ _ _ _ q1
 have hb2:BindsTo s1 fd ⟨us,[]⟩ (ps.zip us):=by
  have:=hb s1 us I2.kIn (by rw [List.append_nil];exact hl)
  rwa [List.append_nil] at this
 refine wpAny_call (codeAny_mono (F.run X.A X.stack s1 H1 ⟨us,[]⟩ us vs _ E hr I2.env0 hb2 r q1) fun r s' hq=>?_);cases r with
 | error ex=>exact hE H1 s1 ex s' I2 hq
 | ok fl =>
  cases fl with
  | ret u=>obtain ⟨_,_,_,_,_,_,_,z⟩:=hq;exact False.elim z
  | next=>exact False.elim hq
  | brk=>exact False.elim hq
  | cont=>exact False.elim hq
def aW6 {np:Pos} {B newId initId:String} {bmB:List Value} {EX:Hp->Prop} (O:OwnCls x C bmB newId X.mg X.base) (FB:ExcBaseFacts B newId initId bmB) (ha:PA X (e::es) t)
  (hx:∀ pins σ H s h' ea vs,Inv X pins σ H s->EX H->Heap.MadeExcOf s.heap h' ea (.ref C) vs->X.xe (.ref ea) { s with heap:=h' }) (hc:autoParam (X.calm=true) ZR)
  (hg:autoParam (Gl X x) ZR) (hdb:autoParam ((x==("__debug__":Str))=false) ZD) (he:autoParam (starEach (e::es) X.env=(false,eval e X.env)::starEach es X.env) ZR) (hpl:autoParam ((backTo pos (starEach es X.env)).any (·.1)=false) ZR) :
  PS X (.Raise (some (.Call (.Name x np) (e::es) [] pos)) none epos) (fun _ σ H=>t σ H fun vs H1=>vs.length<=sizeLine/\EX H1):=by
 intro pins s σ H D I q;obtain ⟨tl,N,nm,qn,bs,hdct,sn,sub,ab,col,dd,k0,k1,k2,k3,k5,mN,hC,hN,hni,T⟩:=O.obj;have hall:(backTo pos (starEach (e::es) X.env)).any (·.1)=false:=by
  rw [he];show (false||(backTo pos (starEach es X.env)).any (·.1))=false;rw [hpl];rfl
 refine wpAny_Raise_call_subT (C:=C) (N:=N) (nm:=nm) (q:=qn) (bs:=bs) (bm:=tl) (hdct:=hdct) (sn:=sn) (sub:=sub) (ab:=ab) (col:=col) (dd:=dd) (k0:=k0) (k1:=k1) (k2:=k2) (k3:=k3) (k5:=k5) (mN:=mN) FB (T.hasType FB.hasBase) (I.ok.hd hc) hall hni (iP I hg O.bound ⟨rfl,?_⟩ hdb);have hq:=ha pos pins s σ H _ I q;rw [he] at hq ⊢;exact Calls.evalArgs_plain (thn hq fun us s2 ⟨vs,H2,I2,r,z,w⟩=>⟨rfl,by rw [<- r.length];exact z,I2.bk _ _ hC,hN.keeps I2.bk,T.keeps I2.bk,fun h' ea hm=>hx pins σ H2 s2 h' ea us I2 w hm⟩)
end
abbrev Cx.suite (X:Cx) (ea:Addr) (oe:Obj):Cx:={ X with A:=X.A.mark (some (.ref ea)),calm:=false,pn:=(ea,oe)::X.pn,xe:=fun _ _=>False }
def Cx.Ok.suite {X:Cx} (ok:X.Ok) (ea:Addr) (oe:Obj):(X.suite ea oe).Ok :=
 ⟨ok.mod,ok.kind,ok.glob,ok.blt,ok.above,ok.inj,ok.has,ok.cab,(fun z=>nomatch z),ok.frames,ok.stk,ok.exf,ok.bs,ok.bsz,ok.noex,ok.exfs,ok.funs,ok.frf⟩
section
variable {X:Cx} {pins:List (Addr×Obj)} {σ:St} {H:Hp} {s:Shared} {ea:Addr} {oe:Obj}
def Inv.suite (I:Inv X pins σ H s) (h1:s.heap.get? ea=some oe) (h2:H ea=none) (h3:ea≠X.env.locals) (h4:ea∉X.fs) (h5:∀ v,oe.data≠.cell v):Inv (X.suite ea oe) pins σ H s :=
 ⟨I.ok.suite ea oe,I.os,I.bare,I.base,I.loc,I.cell,I.free,I.freeC,fun p hp=>by
  rcases List.mem_cons.mp hp with z | z
  ·rw [z];exact ⟨h1,h2,h3,h4,h5⟩
  ·exact I.pin p z,I.hok,I.len⟩
def Inv.unsuite (I:Inv (X.suite ea oe) pins σ H s) (ok:X.Ok):Inv X pins σ H s :=
 ⟨ok,I.os,I.bare,I.base,I.loc,I.cell,I.free,I.freeC,fun p hp=>I.pin p (List.mem_cons_of_mem _ hp),I.hok,I.len⟩
def mZ {A:Around} {Ex:Value->Shared->Prop} {i:Nat} {n:Str} {pos:Pos} {Q:Unit->Shared->Prop} (I:Inv X pins σ H s) (hN:X.N.Nodup) (hi:X.N[i]?=some n) (hk:X.env.scope.names.lookup n=some .local)
  (h:∀ s',Inv X pins (σ.set i none) H s'->Q () s'):wpAny (model X.prog X.w) A (do bindName X.env n .none;unbindBehindTheSuite X.env n pos) Q Ex s:=by
 obtain ⟨m,hn,hl⟩:=id I.loc;refine wpAny_nameGoes_keeps (m:=m) hk hn (by rw [I.ok.kind];rfl) fun h' v hn' hs=>h _ ?_;have far:∀ a,a≠X.env.locals->h'.get? a=s.heap.get? a:=fun a z=>hs.2 a z;have trk:∀ a,H a≠none->a≠X.env.locals:=fun a z q=>z (by rw [q];exact I.free);refine ⟨I.ok,I.os,I.bare,⟨fun a o q n1 ha hx=>?_,fun a o q n1 ha hx=>?_,I.base.free,fun a o q hx=>?_,I.base.tups,I.base.frzs,I.base.tbls⟩,⟨_,hn',fun j y v' e1 e2 e3=>?_⟩,fun y c e=>?_,I.free,I.freeC,fun p hp=>?_,
  I.hok.keptT fun a u z q=>by rw [far a (trk a z)];exact q,by rw [List.length_set];exact I.len⟩
 ·rw [far a (I.neL q)];exact I.base.keep a o q n1 ha hx
 ·rw [far a (I.neL q)];exact I.base.slot a o q n1 ha hx
 ·rw [far a (I.neL q)];exact I.base.there a o q hx
 ·have hj:i≠j:=by
   intro z;subst z;have hlt:i < σ.length:=by
    have:=(List.getElem?_eq_some_iff.mp e2).1
    rwa [List.length_set] at this
   rw [List.getElem?_set_self hlt] at e2;cases e2
  rw [List.getElem?_set_ne hj] at e2;obtain ⟨u,r,lk⟩:=hl j y v' e1 e2 e3;refine ⟨u,r,?_⟩;rcases lk with ⟨z1,z2⟩ | ⟨z1,c,z2,o,z3,z4⟩
  ·refine .inl ⟨z1,?_⟩;have ny:y≠n:=by
    intro z;subst z;have a1:=List.getElem?_eq_some_iff.mp e1;have a2:=List.getElem?_eq_some_iff.mp hi;exact hj ((List.getElem_inj hN).mp (a2.2.trans a1.2.symm))
   show (if y=n then v else m y)=some u;rw [if_neg ny];exact z2
  ·exact .inr ⟨z1,c,z2,o,by rw [far c (I.cne y c z2)];exact z3,z4⟩
 ·obtain ⟨v,o,ho,hd⟩:=I.cell y c e;exact ⟨v,o,by rw [far c (I.cne y c e)];exact ho,hd⟩
 ·obtain ⟨p1,p2,p3,p4,p5⟩:=I.pin p hp;exact ⟨by rw [far _ p3];exact p1,p2,p3,p4,p5⟩
end
noncomputable def cZ9 (i:Nat) (D:Ends):Ends where
 nx:=fun σ H=>D.nx (σ.set i none) H
 rt:=D.rt
 bk:=fun σ H=>D.bk (σ.set i none) H
 ct:=fun σ H=>D.ct (σ.set i none) H
section
variable {X:Cx} {k:Nat} {f C CJ:Addr} {fd:FuncData} {ps:List Str} {sp:Sp} {x n J:Str} {p pos epos jp hpos tpos:Pos} {e:Expr} {es:List Expr} {t:TA} {i:Nat} {b₀:Stmt} {su:List Stmt} {ts:Addr->TS}
end
section
variable {prog:Program} {w:World} {A:Around} {E:Value->Shared->Prop} {h:Heap} {g:Array GenState} {d:Drawn} {t:Nat} {os:OsState} {K:Frag} {x C:Addr} {ox:Obj}
structure XCls (K:Frag) (C:Addr):Prop where
 ga:PySem.W.findIn K (.ref C) "__getattribute__"=some (some (.builtin "BaseException.__getattribute__"))
 gn:PySem.W.findIn K (.ref C) "__getattr__"=some none
 cl:PySem.W.findIn K (.ref C) "__class__"=some (some (.builtin "object.__class__"))
 be:PySem.W.mroIn K C (.type "BaseException")=some true
 ob:PySem.W.mroIn K C (.type "object")=some true
def cL8 {tp:Value} {R:Result->Shared->Prop} (Z:XCls K C) (X:K.In h) (hx:h.get? x=some ox) (hc:ox.cls=.ref C) (hq:R (.ok (.ret (.ref C))) ⟨h,g,d,t,os⟩) :
  codeAny (model prog w) A (.call (.builtin "getset_descriptor.__get__") ⟨[.builtin "object.__class__",.ref x,tp],[]⟩) R ⟨h,g,d,t,os⟩:=by
 have L0:PySem.W.Looks (model prog w) h (typeOf (.ref x)) (.ref C):=hc ▸ (PySem.W.Looks.ld hx).andThen .now;have L1:PySem.W.Looks (model prog w) h (isSubtype (.ref C) (.type "object")) true:=PySem.W.looks_mroIn X Z.ob;have hT5:(⟨h,g,d,t,os⟩:Shared).TypeIs (.builtin "object.__class__") "getset_descriptor":=F.typeOf_object_class;have ow:=F.owner_object_class;refine codeAny_call_builtin F.slot_gs_get.plain F.entry_gs_get ?_;refine F.slot_gs_get.check _ _ _ _ _ _ _ _ hT5 (F.args_gs_get _ _ _) ?_
 repeat (any_goals (first | assumption | (with_reducible refine wpAny_loadPart_at hx ?_;rw [hc]) | (rw [ow];with_reducible refine L1.at ?_) | with_reducible refine L1.at ?_ | wp_step))
 refine ⟨Code.quiet_builtin _ (by decide +kernel),codeAny_builtin F.entry_object_class ?_⟩
 repeat (any_goals (first | assumption | (with_reducible refine wpAny_loadPart_at hx ?_;rw [hc]) | wp_step))
def aW7 {tk:Tok} {Q:Fin->Shared->Prop} (Z:XCls K C) (X:K.In h) (hx:h.get? x=some ox) (hc:ox.cls=.ref C) (hq:Q (.done (.ret (.ref C))) ⟨h,g,d,t,os⟩) :
  wpAny (model prog w) A (Builtin.«object.__getattribute__» ⟨[.ref x,.str "__class__" tk],[]⟩) Q E ⟨h,g,d,t,os⟩:=by
 have L6:PySem.W.Looks (model prog w) h (typeLookup (.ref C) "__class__") (some (.builtin "object.__class__")):=PySem.W.looks_findIn X Z.cl;have hT5:(⟨h,g,d,t,os⟩:Shared).TypeIs (.builtin "object.__class__") "getset_descriptor":=F.typeOf_object_class;have f5:=F.typeOf_object_class;have f6:=F.slot_gs_get.lookup;have f7:=F.slot_gs_set.lookup
 repeat (any_goals (first | assumption | (with_reducible refine wpAny_loadPart_at hx ?_;rw [hc]) | with_reducible refine L6.at ?_ | wp_step))
 refine cL8 Z X hx hc ?_
 repeat (any_goals (first | assumption | wp_step))
def aW8 {M:Model} {nameV:Value} {Q:Unit->Shared->Prop} (Z:XCls K C) (X:K.In h) (hx:h.get? x=some ox) (hc:ox.cls=.ref C) (hq:Q () ⟨h,g,d,t,os⟩) :
  wpAny M A (checkBuiltinCall "BaseException.__getattribute__" ⟨[.ref x,nameV],[]⟩) Q E ⟨h,g,d,t,os⟩:=by
 have k1:builtinKind "BaseException.__getattribute__"=some .slot:=by decide +kernel
 have k2:splitId "BaseException.__getattribute__"=some ("BaseException","__getattribute__"):=by decide +kernel
 have L3:PySem.W.Looks M h (isSubtype (.ref C) (.type "BaseException")) true:=PySem.W.looks_mroIn X Z.be;have k3:=F.args_bexc_ga (.ref x) nameV;simp only [checkBuiltinCall,k1,k2];unfold isInstance
 repeat (any_goals (first | assumption | (with_reducible refine wpAny_loadPart_at hx ?_;rw [hc]) | with_reducible refine L3.at ?_ | wp_step))
def dA0 {tk:Tok} {Q:Value->Shared->Prop} (FB:Slot "ValueError" "__getattribute__" "BaseException.__getattribute__") (Z:XCls K C) (X:K.In h) (hx:h.get? x=some ox) (hc:ox.cls=.ref C) (hq:Q (.ref C) ⟨h,g,d,t,os⟩) :
  wpAny (model prog w) A (getAttrBy (.ref x) (.str "__class__" tk) false) Q E ⟨h,g,d,t,os⟩:=by
 have L4:PySem.W.Looks (model prog w) h (typeLookup (.ref C) "__getattribute__") (some (.builtin "BaseException.__getattribute__")):=PySem.W.looks_findIn X Z.ga;have L5:PySem.W.Looks (model prog w) h (typeLookup (.ref C) "__getattr__") none:=PySem.W.looks_findIn X Z.gn;have f3:=FB.bind (.ref x);have y2:(Value.builtin "BaseException.__getattribute__"==Value.builtin "object.__getattribute__")=false:=by decide +kernel
 have y1:(onTheHeap (Value.ref C)&&Value.builtin "BaseException.__getattribute__"==Value.builtin "object.__getattribute__")=false:=by rw [y2];rfl
 repeat (any_goals (first | assumption | (with_reducible refine wpAny_loadPart_at hx ?_;rw [hc]) | with_reducible refine L4.at ?_ | with_reducible refine L5.at ?_ | wp_step))
 refine codeAny_call_builtin FB.plain F.entry_bexc_ga ?_;refine aW8 Z X hx hc (aW7 Z X hx hc ?_)
 repeat (any_goals (first | assumption | wp_step))
def bL9 {Q:Option Value->Shared->Prop} (FB:Slot "ValueError" "__getattribute__" "BaseException.__getattribute__") (Z:XCls K C) (X:K.In h) (hx:h.get? x=some ox) (hc:ox.cls=.ref C) (hq:Q (some (.ref C)) ⟨h,g,d,t+1,os⟩) :
  wpAny (model prog w) A (getAttr? (.ref x) "__class__") Q E ⟨h,g,d,t,os⟩:=by
 unfold getAttr? getAttrBy?
 repeat (any_goals (first | assumption | with_reducible apply dA0 FB Z X hx hc | wp_step))
def aW9 (FB:Slot "ValueError" "__getattribute__" "BaseException.__getattribute__") (Z:XCls K C) (hc:ox.cls=.ref C):PySem.W.KitX K (.ref x) (.ref C) (fun h=>h.get? x=some ox) where
 ty:=fun M h _ hx=>hc ▸ (PySem.W.Looks.ld hx).andThen .now
 it:=fun M h X _=>by
  have z:=Z.ob;unfold PySem.W.mroIn at z;obtain ⟨cd,a,_⟩:=Option.bind_eq_some_iff.mp z;unfold PySem.W.clsIn at a;split at a
  ·rename_i ho;intro A' Q' E' s' k q;unfold isType loadHead;exact wpAny_bind (wpAny_loadPart (k _ _ (X _ _ ho)) (wpAny_pure q))
  ·cases a
 ne:=fun h tp dd its n sl X htp=>by
  refine Bool.eq_false_iff.mpr fun q=>?_;have e:C=tp:=Value.ref.inj (beq_iff_eq.mp q);subst e;have z:=Z.ob;unfold PySem.W.mroIn at z;obtain ⟨cd,a,_⟩:=Option.bind_eq_some_iff.mp z;unfold PySem.W.clsIn at a;split at a
  ·rename_i ho;cases (X _ _ ho).symm.trans htp
  ·cases a
 ca:=fun {_ _ _ _ _ s} X hx q=>by
  obtain ⟨h,g,d,t,os⟩:=s;exact bL9 FB Z X hx hc q
end
end L2
namespace DL
open PySem PySem.Spec PyProof.Rows L2
def Wx (K:Frag) (C:Addr) (E:XK) (A μ:List Addr) (h:aA) (H:Hp):Prop:=∀ H',Ext A A μ μ H H'->HeapRep K A μ h H'->E (.ref C) none H'
def Wx.step {K:Frag} {C:Addr} {E:XK} {A A' μ μ':List Addr} {h:aA} {H H':Hp} (W:Wx K C E A μ h H) (R:HeapRep K A μ h H) (x:Ext A A' μ μ' H H'):Wx K C E A' μ' h H':=fun H'' y R''=>by
 obtain ⟨z,R2⟩:=iT R R'' (x.trans y) (fun i c _ e=>.inr e);rw [List.take_length] at R2;exact W H'' z R2
noncomputable def upX (K:Frag) (C:Addr) (pre:List W->Prop):Sp:=fun vs H _ E=>∃ (ws:List W) (h:aA) (A μ:List Addr),HeapRep K A μ h H/\iB K A μ H ws vs/\pre ws/\Wx K C E A μ h H
abbrev DTR:=DSt->aA->Prop
def aX0 (K:Frag) (C:Addr) (E:XK) (tr:DTR):TS:=fun _ σ H=>∃ (δ:DSt) (h:aA) (A μ:List Addr),Ab K A μ δ h σ H/\tr δ h/\Wx K C E A μ h H
def DR (X:Cx) (C:Addr) (E:XK) (st:List Stmt) (tr:DTR):Prop:=PSs X st (aX0 X.K C E tr)
section
variable {X:Cx} {C:Addr} {E:XK} {st:Stmt} {rest sa:List Stmt} {e c:Expr} {es:List Expr} {t:DTA} {tr:DTR} {x:Str} {p np pos epos:Pos} {f:Addr} {fd:FuncData} {ps:List Str} {k:Nat} {pre:List W->Prop} {tc:DTT} {t1:DTS}
def kC (h:PS X st (aX0 X.K C E tr)):DR X C E (st::rest) tr:=jQ (jL (u:=fun _ _ _=>False) h fun _ _ _ _ _ _ q=>q.elim) fun D σ H q=>q
def dA1 (hc:DT X c tc) (ha:DR X C E sa tr):DR X C E [.If c sa [] pos] (fun δ h=>tc δ h fun b h1=>h1=h/\b=true/\tr δ h) :=
 mK (bN (bP9 (u:=fun _ _ _=>False) hc ha fun _ _ _ _ _ _ q=>q.elim) fun D σ H ⟨δ,h,A,μ,R,q,W⟩=>⟨δ,h,A,μ,_,R,q,fun b h1 H1 A1 μ1 ⟨e1,eb,q'⟩ x1 R1=>by
  subst e1 eb;rw [if_pos rfl];exact ⟨δ,_,A1,μ1,⟨R1,R.2.ext x1 R.1.sub⟩,q',W.step R.1 x1⟩⟩)
end
section
variable {P:Program} {w:World} {K:Frag} {mg:Str->Option Value} {base:Heap}
end
section
variable {X:Cx} {k:Nat} {f C CJ:Addr} {fd:FuncData} {ps:List Str} {x n J:Str} {p pos epos jp hpos tpos:Pos} {e:Expr} {es:List Expr} {t:DTA} {i:Nat} {b₀:Stmt} {su:List Stmt} {ts:Addr->DTS} {pre:List W->Prop}
end
def dA2 (ea:Addr) (i:Nat) (b:Bool):DTE:=fun δ h Q=>δ[i]?=some (some (.v (.ref ea)))/\Q (.d (.bool b)) h
section
variable {X:Cx} {C:Addr} {ea:Addr} {oe:Obj} {i:Nat} {n Cn:Str} {b:Bool} {p p1 p2 pos:Pos} {cv:V} {cu:Value}
def jJ (Z:XCls X.K C) (hc:oe.cls=.ref C) (hp:(ea,oe)∈X.pn) (hm:X.mg "isinstance"=none) (hC:PE X (.Name Cn p2) (tC cv)) (hr:∀ u,RelV cv u->u=cu) (hk:PySem.W.kitOne X.K (.ref C) cu=some b) (hN:autoParam (X.N[i]?=some n) ZR)
  (hv:Vis X.env.scope n:=by exact Or.inl rfl) (hg:autoParam (Gl X "isinstance") ZR) (hd:autoParam ((n==("__debug__":Str))=false) ZD) (hcd:autoParam ((n==("__classdict__":Str))=false) ZD)
  (hs:autoParam (starEach (.Name n p1::[.Name Cn p2]) X.env=(false,eval (.Name n p1) X.env)::starEach [.Name Cn p2] X.env) ZR) (hs2:autoParam (starEach ([.Name Cn p2]:List Expr) X.env=(false,eval (.Name Cn p2) X.env)::starEach [] X.env) ZR)
  (hpl:autoParam ((backTo pos (starEach ([.Name Cn p2]:List Expr) X.env)).any (·.1)=false) ZR):DE X (.Call (.Name "isinstance" p) [.Name n p1,.Name Cn p2] [] pos) (dA2 ea i b):=by
 have ha:PA X [.Name n p1,.Name Cn p2] (uF (cR1 i) (uF (tC cv) bC2)):=iQ (nD hN hv hd hcd) (iQ hC nG hs2) hs;have hcl:cU X (.builtin "isinstance") (fun xs H Q=>xs=[.ref ea,cv]/\Q (.bl b) H):=by
  intro pins s σ H xs us Q I r h;obtain ⟨rfl,q⟩:=h;cases r with
  | cons r1 r2 =>
   cases r2 with
   | cons r3 r4 =>
    cases r4;cases r1;obtain rfl:=hr _ r3;exact PySem.W.kia_one (aW9 PySem.F.excAttr_ValueError.ga Z hc) I.kIn (I.pin (ea,oe) (List.mem_append_left _ hp)).1 hk (fun z=>nomatch z) fun tk=>⟨.bl b,H,I.tok tk,rfl,q⟩
 refine aI (nJ hcl hg hm (by rfl) ha (by decide) (by decide) hs hpl) fun σ H Q q=>?_;obtain ⟨δ,h,A,μ,k,R,⟨e1,q⟩,c⟩:=q;obtain ⟨v,e2,r⟩:=R.2.val i _ e1;have r':v=.ref ea:=r;subst r';exact ⟨_,e2,rfl,c _ h _ H A μ q .refl R.1 bB⟩
end
section
variable {X:Cx}
end
section
variable {X:Cx} {a:Expr} {ta:DTE} {pos:Pos}
end
end DL
set_option maxHeartbeats 400000
namespace DL
open PySem PySem.Spec PyProof.Rows L2
section
variable {X:Cx} {C ea a1 a2 a3 a4:Addr} {oe:Obj} {i k:Nat} {n c1 c2 c3 c4:Str} {b:Bool} {p p1 q1 q2 q3 q4 pt pos:Pos}
end
end DL
set_option maxHeartbeats 4000000
namespace PySem
section
variable {prog:Program} {w:World} {A:Around} {E:Value->Shared->Prop} {h:Heap} {g:Array GenState} {d:Drawn} {t:Nat} {os:OsState}
variable {nm q:Str} {C N:Addr} {bs bm bmB:List Value} {hdct:Bool} {sn:List Str} {sub:List Value} {ab:Bool} {col:Option Bool} {dd:Option Addr} {k0 k1 k2 k3 k5:Option Value} {B newId initId:String}
end
end PySem
set_option maxHeartbeats 200000
namespace PySem
noncomputable def Kp (P:Obj->Prop) {α:Type}:Sem α->Prop
 | .rule _ k=>Kp P (k ())
 | .at _ k=>Kp P (k ())
 | .load _ _ k=>∀ o,Kp P (k o)
 | .update _ _ f k=>(∀ o,P o->P (f o))/\Kp P (k ())
 | .alloc _ k=>∀ a,Kp P (k a)
 | .loadIfAlive _ k=>∀ o,Kp P (k o)
 | .point _ k=>Kp P (k ())
 | .fresh k=>∀ x,Kp P (k x)
 | .ask k=>∀ x,Kp P (k x)
 | .stack k=>∀ x,Kp P (k x)
 | .pure _=>True
 | .unsupported _=>True
 | .raise _=>True
 | _=>False
def Kp.bind {P:Obj->Prop} {α β:Type} {f:α->Sem β} (hf:∀ a,Kp P (f a)) {x:Sem α} (h:Kp P x):Kp P (x >>= f):=by
 show Kp P (x.bind f);induction x with
 | pure a=>exact hf a
 | raise e=>exact True.intro
 | unsupported u=>exact True.intro
 | rule t k ih=>exact ih () h
 | «at» t k ih=>exact ih () h
 | load a p k ih=>exact fun o=>ih o (h o)
 | update a p g k ih=>exact ⟨h.1,ih () h.2⟩
 | alloc o k ih=>exact fun o=>ih o (h o)
 | loadIfAlive a k ih=>exact fun o=>ih o (h o)
 | point l k ih=>exact ih () h
 | fresh k ih=>exact fun o=>ih o (h o)
 | ask k ih=>exact fun o=>ih o (h o)
 | stack k ih=>exact fun o=>ih o (h o)
 | _=>exact False.elim h
def AtP (P:Obj->Prop) (e:Addr) (h:Heap):Prop:=∃ o,h.get? e=some o/\P o
def AtP.upd {P:Obj->Prop} {e a:Addr} {h:Heap} {f:Obj->Obj} (hP:∀ o,P o->o.isFreed=false) (x:AtP P e h) (hf:∀ o,P o->P (f o)):AtP P e (h.update a f):=by
 obtain ⟨o,e1,p⟩:=x
 by_cases q:a=e
 ·subst q;exact ⟨_,Heap.get?_update_self _ e1 (hP _ (hf _ p)),hf _ p⟩
 ·exact ⟨o,(Heap.get?_update_other _ _ q).trans e1,p⟩
def Kp.wp {P:Obj->Prop} (hP:∀ o,P o->o.isFreed=false) {M:Model} {Γ:Ctx} {e:Addr} {α:Type} {Q:α->Pos->Shared->Prop} {E:Value->Pos->Shared->Prop} {t:Sem α} (h:Kp P t):∀ {p:Pos} {s:Shared},AtP P e s.heap->Sem.wp M Γ t Q E p s->Sem.wp M Γ t (fun a p s'=>Q a p s'/\AtP P e s'.heap) E p s:=by
 induction t with
 | pure a=>exact fun x w=>⟨w,x⟩
 | raise e=>exact fun x w=>w
 | unsupported u=>exact fun x w=>w
 | rule t k ih=>exact fun x w=>ih () h x w
 | «at» t k ih=>exact fun x w=>ih () h x w
 | load a p k ih=>exact fun x ⟨o,e1,w⟩=>⟨o,e1,ih o (h o) x w⟩
 | update a p g k ih=>exact fun x ⟨e1,w⟩=>⟨e1,ih () h.2 (x.upd hP h.1) w⟩
 | alloc o k ih=>exact fun x w=>ih _ (h _) (let ⟨o',e1,p1⟩:=x;⟨o',Heap.get?_push_of_some _ e1,p1⟩) w
 | loadIfAlive a k ih=>exact fun x w=>ih _ (h _) x w
 | point l k ih=>exact fun x w=>ih () h x w
 | fresh k ih=>exact fun x w=>ih _ (h _) x w
 | ask k ih=>exact fun x w=>ih _ (h _) x w
 | stack k ih=>exact fun x w=>ih _ (h _) x w
 | _=>exact False.elim h
def Kp.any {P:Obj->Prop} (hP:∀ o,P o->o.isFreed=false) {M:Model} {A:Around} {e:Addr} {α:Type} {Q:α->Shared->Prop} {E:Value->Shared->Prop} {t:Sem α} {s:Shared} (h:Kp P t) (x:AtP P e s.heap) (w:wpAny M A t Q E s):wpAny M A t (fun a s'=>Q a s'/\AtP P e s'.heap) E s :=
 fun Γ p hΓ=>Kp.wp hP h x (w Γ p hΓ)
section
variable {c:Value} {D:Addr}
end
end PySem
set_option maxHeartbeats 400000
namespace PySem
def ErC (c:Value) (o:Obj):Prop:=o.cls=c/\∃ vs,o.data=.fields vs/\vs[2]?=some .none
def ErC.freed {c:Value} (o:Obj) (h:ErC c o):o.isFreed=false:=let ⟨_,_,e,_⟩:=h;Obj.isFreed_of_fields e
def ErC.map {c x:Value} {i:Nat} (hi:i≠2) (o:Obj) (h:ErC c o):ErC c (Obj.mapFields (·.setIfInBounds i x) o):=by
 obtain ⟨h1,vs,h3,h4⟩:=h;refine ⟨(Obj.cls_mapFields _ _).trans h1,_,Obj.data_mapFields h3 _,?_⟩;rw [Array.getElem?_setIfInBounds_ne hi];exact h4
section
variable {c:Value}
def aI2 (v:Value):Kp (ErC c) (fieldsOf v):=by
 unfold fieldsOf;cases v with
 | ref a=>exact Kp.bind (fun o=>by cases o.data<;>trivial) (x:=load a) (fun _=>trivial)
 | _=>trivial
def kD (v:Value) (i:Nat):Kp (ErC c) (field v i):=Kp.bind (fun vs=>by cases vs[i]?<;>trivial) (aI2 v)
def iK (v:Value) (i:Nat) (hi:i≠2) (x:Value):Kp (ErC c) (setField v i x):=by
 unfold setField;cases v with
 | ref a =>
  refine Kp.bind (fun o=>?_) (x:=load a) (fun _=>trivial);cases o.data with
  | fields vs =>
   dsimp only;split
   ·exact ⟨ErC.map hi,trivial⟩
   ·trivial
  | _=>trivial
 | _=>trivial
def lD (e:Value) (f:Option Addr):Kp (ErC c) (setFlight e f):=Kp.bind (fun tb=>by split<;>first | exact iK _ _ (by decide) _ | trivial) (kD e 1)
def oQ:Kp (ErC c) stack:=fun _=>True.intro
theorem wA:∀ l:List Env,Kp (ErC c) (readyFrames l)
 | []=>trivial
 | env::outer=>by
  have ih:=wA outer;unfold readyFrames;cases env.frame with
  | none=>trivial
  | some f =>
   refine Kp.bind (fun o=>?_) (x:=load f) (fun _=>trivial);split
   ·trivial
   ·refine Kp.bind (fun b=>?_) ?_
    ·refine Kp.bind (fun b'=>?_) ?_
     ·refine Kp.bind (fun _=>ih) ?_;exact ⟨fun o h=>h,True.intro⟩
     ·unfold keptBack;split
      ·split
       ·exact True.intro
       ·refine Kp.bind (fun _=>?_) ?_
        ·exact True.intro
        ·unfold underTheClaimsCaller;refine Kp.bind (fun _=>?_) oQ;exact True.intro
      ·exact True.intro
    ·unfold behindIsImport;split
     ·trivial
     ·split
      ·trivial
      ·refine Kp.bind (fun _=>?_) (kD _ _);exact True.intro
def bM0:Kp (ErC c) frameEnvs:=by
 unfold frameEnvs;refine Kp.bind (fun _=>?_) oQ;exact True.intro
def yF (env:Env):Kp (ErC c) (frameOf env):=by
 unfold frameOf;refine Kp.bind (fun l=>Kp.bind (fun o=>by cases o<;>trivial) ?_) bM0;unfold frameObject;cases List.dropWhile (fun x=>x.frame != env.frame) l with
 | nil=>trivial
 | cons a r =>
  refine Kp.bind (fun _=>?_) (wA _);exact True.intro
def aA8 (e:Value) (env:Env):Kp (ErC c) (noteFrame e env):=by
 unfold noteFrame;cases env.frame with
 | none=>trivial
 | some f =>
  have tail:∀ head:Value,Kp (ErC c) (do setField e 1 (<- EntryCells.newEntry head (<- frameOf env) .none (rawInt f) .none (<- entryPlaceOf f (head != .none)))):=fun head=>by
   refine Kp.bind (fun fr=>Kp.bind (fun pl=>Kp.bind (fun b=>iK _ _ (by decide) _) ?_) ?_) (yF env)
   ·unfold EntryCells.newEntry newFields newObj;dsimp only;generalize ([head,fr,Value.none,rawInt f,Value.none]++(if pl.isEmpty=true then List.replicate 6 Value.none else pl))=L;split
    ·exact True.intro
    ·unfold newObjAsIs;refine Kp.bind (fun _=>?_) ?_
     ·exact True.intro
     ·exact fun _=>True.intro
   ·unfold entryPlaceOf;exact Kp.bind (fun _=>by split<;>trivial) oQ
  refine Kp.bind (fun head=>?_) (kD e 1);dsimp only;split
  ·refine Kp.bind (fun y=>?_) (kD _ _);split
   ·trivial
   ·exact Kp.bind (fun _=>tail _) (iK _ _ (by decide) _)
  ·exact tail _
def oR (e:Value) (env:Env):Kp (ErC c) (leaving env e):=Kp.bind (fun _=>lD _ _) (aA8 e env)
end
end PySem
namespace PySem
open Sem (wp)
def pU:entryFor table "proto.unchain"=some Builtin.«proto.unchain»:=entryFor_of_fast (by kernel_rfl)
section
variable {prog:Program} {w:World} {A:Around} {E:Value->Shared->Prop} {s:Shared}
def pV {α:Type} {a b:Addr} {o ob:Obj} {vs ws:Array Value} {Q:α->Shared->Prop} (hh:A.handled=some (.ref b)) (hne:b≠a) (hb:s.heap.get? b=some ob) (hbd:ob.data=.fields ws) (h2:ws[2]?=some .none)
  (ha:s.heap.get? a=some o) (had:o.data=.fields vs) (hz:2 < vs.size) (h:E (.ref a) { s with heap:=s.heap.update a (Obj.mapFields (·.setIfInBounds 2 (.ref b))) }):wpAny (model prog w) A (raiseNew (α:=α) (.ref a)) Q E s:=by
 unfold raiseNew;refine wpAny_bind (wpAny_handled ?_);rw [hh];dsimp only;have e1:((Value.ref b) != (Value.ref a))=true:=by simp [hne]
 rw [e1];refine wpAny_bind (wpAny_holding (wpAny_runValue (codeAny_builtin pU ?_)));unfold Builtin.«proto.unchain»;refine wpAny_bind (wpAny_field hb hbd h2 ?_);rw [if_pos (by decide)];refine wpAny_pure ?_;refine wpAny_bind ?_;unfold updateField;refine wpAny_bind (wpAny_load ha ?_);rw [had];dsimp only;rw [if_pos hz];exact wpAny_update ha (wpAny_throw h)
def aI3 {it l b:Addr} {i:Nat} {items:Array Value} {ob:Obj} {ws:Array Value} {Q:Option Value->Shared->Prop} (hh:A.handled=some (.ref b)) (hb:s.heap.get? b=some ob) (hbd:ob.data=.fields ws) (h2:ws[2]?=some .none) (hbi:b≠it)
  (hit:s.heap.IsListIter it l i) (hl:s.heap.IsList l items) (hx:items[i]?=none) (hQ:∀ h',Heap.ExtBut it s.heap h'->Q none { s with heap:=h' }):wpAny (model prog w) A (pyNext (.ref it)) Q E s:=by
 obtain ⟨oi,hoi,hci,hdi⟩:=id hit;obtain ⟨ol,hol,_,nl,hdl⟩:=hl;unfold pyNext;refine wpAny_bind (wpAny_attempt (wpAny_callSpecial?_slot (name:=Str.ofString "__next__") hit.typeIs slot_listiter_next (wpAny_call_entry slot_listiter_next hit.typeIs entry_listiter_next ?_ (args_listiter_next _))));show wpAny _ _ (field (.ref it) 0 >>= _) _ _ s;refine wpAny_bind (wpAny_field hoi hdi (x:=.ref l) rfl ?_);show wpAny _ _ (if (Value.ref l==Value.none)=true then _ else _) _ _ s;rw [if_neg (show ¬ ((Value.ref l==Value.none)=true) from Bool.false_ne_true)];show wpAny _ _ (field (.ref it) 1 >>= _) _ _ s;refine wpAny_bind (wpAny_field hoi hdi (x:=.int i 0) rfl ?_);show wpAny _ _ (seqItems? (.ref l) >>= _) _ _ s;refine wpAny_bind (wpAny_seqItems hol hdl ?_);simp only [Int.toNat_natCast,hx];refine wpAny_bind (wpAny_rule (wpAny_bind (wpAny_setField hoi hdi (by simp) ?_)));show wpAny _ _ (newExc (.type "StopIteration") [] >>= _) _ _ _;refine wpAny_bind ?_;simp only [newExc,newTuple];refine wpAny_bind (wpAny_newObj_type ?_ (by size_fits));refine wpAny_bind (m:=firstArgMember _ _) (wpAny_of_eq (a:=Value.none) (by first | rfl | (simp only [firstArgMember];rfl)) ?_);refine wpAny_newObj_type ?_ (by size_fits);have k1:(s.heap.update it (Obj.mapFields fun x=>x.setIfInBounds 0 Value.none)).get? b=some ob:=(Heap.get?_update_other _ _ (Ne.symm hbi)).trans hb;refine pV (A:=A.in1) (b:=b) hh ?_ (Heap.get?_push_of_some _ (Heap.get?_push_of_some _ k1)) hbd h2 (Heap.get?_push_size _ rfl) rfl (by rw [Array.size_append];exact Nat.lt_of_lt_of_le (by decide:2 < 6) (Nat.le_add_right _ _)) ?_
 ·exact Nat.ne_of_lt (Heap.lt_size (Heap.get?_push_of_some _ k1))
 ·refine wpAny_bind (wpAny_isInstance (T:="StopIteration") (b:=true) ⟨_,Heap.get?_update_self _ (Heap.get?_push_size _ rfl) rfl,rfl⟩ isSubtype_stop ?_);refine wpAny_pure (hQ _ fun x o hx e=>?_);have k2:(s.heap.update it (Obj.mapFields fun x=>x.setIfInBounds 0 Value.none)).get? x=some o:=(Heap.get?_update_other _ _ (Ne.symm hx)).trans e;exact (Heap.get?_update_other _ _ (Ne.symm (Nat.ne_of_lt (Heap.lt_size (Heap.get?_push_of_some _ k2))))).trans (Heap.get?_push_of_some _ (Heap.get?_push_of_some _ k2))
def bM1 {b:Addr} {ob:Obj} {ws:Array Value} (hh:A.handled=some (.ref b)) (hbd:ob.data=.fields ws) (h2:ws[2]?=some .none) (I ax:Addr) (hne:ax≠I) (hbi:b≠I) (items:Array Value) :
  Walks prog w A I [I,ax,b] [I] items.size (fun i v=>items[i]?=some v) (fun i h=>(h.IsListIter I ax i/\h.IsList ax items)/\h.get? b=some ob) where
 sub:=fun b hb=>by simp at hb;simp [hb]
 frame:=fun _ _ _ st hk=>⟨⟨st.1.1.at fun o e=>hk I (by simp) o e,st.1.2.at fun o e=>hk ax (by simp) o e⟩,hk b (by simp) _ st.2⟩
 item:=fun i s Q E hi st hQ=>by
  refine wpAny_pyNext_list_item st.1.1 st.1.2 (x:=items[i]) (by simp [hi]) fun h' hit' hs'=>?_;exact hQ _ h' s.toks (by simp [hi]) ⟨⟨hit',st.1.2.extBut hs'.extBut hne⟩,hs'.extBut b ob hbi st.2⟩ fun b o hb e=>hs'.extBut b o (fun h=>hb (by simp [h])) e
 done:=fun s Q E st hQ=>aI3 hh st.2 hbd h2 hbi st.1.1 st.1.2 (by simp) fun h' he'=>hQ h' s.toks fun b o hb e=>he' b o (fun h=>hb (by simp [h])) e
 self:=fun _ _ _ _ st hQ=>wpAny_pyIter_listiter st.1.1 hQ
end
end PySem
namespace DL
open PySem PySem.Spec PyProof.Rows L2 ST
section
variable {X:Cx}
def aI4 {C ea:Addr} {oe:Obj} (hh:X.A.handled=some (.ref ea)) (hp:(ea,oe)∈X.pn) (hE:ErC (.ref C) oe):cU X (.builtin "any") (fun xs H Q=>∃ (p:Addr) (bs:List Bool),xs=[.ref p]/\SqL X.K H p (bs.map V.bl)/\Q (.bl (bs.any id)) H):=by
 intro pins s σ H xs us Q I r h;obtain ⟨p,bs,rfl,sq,q⟩:=h;obtain ⟨u,rfl,ru⟩:=lK r;cases ru;obtain ⟨its,rv,pl,hz⟩:=I.list sq;obtain ⟨_,ws,hd,h2⟩:=hE;have he:s.heap.get? ea=some oe:=(I.pin (ea,oe) (List.mem_append_left _ hp)).1;have hl:=rv.length;rw [List.length_map] at hl;have hlt:p < s.heap.objs.size:=by obtain ⟨o,n,e,_⟩:=pl;exact Heap.lt_size e
 refine call_any_walk (wpAny_pyIter_list pl.isList ⟨s.heap.objs.size,_,_,its.toArray.size,_,_,fun i=>(bs[i]?).getD true,rfl,bM1 (A:=X.A.in1) hh hd h2 s.heap.objs.size p (Nat.ne_of_lt hlt) (Nat.ne_of_lt (Heap.lt_size he)) its.toArray,⟨⟨⟨_,Heap.get?_push_size _ rfl,rfl,rfl⟩,?_⟩,Heap.get?_push_of_some _ he⟩,fun i v s' Q' E' hP hQ=>?_,fun h' tk hk=>?_⟩)
 ·obtain ⟨o,ho,r⟩:=pl.isList;exact ⟨o,Heap.get?_push_of_some _ ho,r⟩
 ·have hi:i < its.length:=by
   have:=(Array.getElem?_eq_some_iff.mp hP).1
   simpa using this
  have eb:bs[i]?=some (bs[i]'(by omega)):=by simp
  obtain ⟨u',e1,e2⟩:=rv.get (i:=i) (x:=V.bl (bs[i]'(by omega))) (by rw [List.getElem?_map,eb];rfl);have e3:v=u':=by
   have hP':its[i]?=some v:=by simpa using hP
   rw [hP'] at e1;exact Option.some.inj e1
  subst e3;cases e2;dsimp only at hQ;rw [eb] at hQ;exact wpAny_truthy_bool hQ
 ·have e:(List.range its.toArray.size).any (fun i=>(bs[i]?).getD true)=bs.any id:=by
   have:=aG7 (f:=fun i=>(bs[i]?).getD true) bs (fun i b e=>by simp [e]);rw [List.size_toArray,<- hl];exact this
  refine ⟨.bl (bs.any id),H,I.kept fun b o eo=>hk b o ?_ (Heap.get?_push_of_some _ eo),by rw [e];rfl,q⟩;intro z;rw [List.mem_singleton.mp z] at eo;exact absurd (Heap.lt_size eo) (Nat.lt_irrefl _)
end
end DL
namespace L2
open PySem PySem.Spec PyProof.Rows
noncomputable def CXC (P:Program) (w:World) (C:Addr):CXT:=fun outer H s E e s'=>∃ ea,e=.ref ea/\CXN P w C outer H s E e s'/\AtP (ErC (.ref C)) ea s'.heap
section
variable {X:Cx} {C:Addr} {E E':XK} {Ex:Value->Shared->Prop} {pins:List (Addr×Obj)} {σ:St} {H:Hp} {s s':Shared} {h1:Heap} {e:Addr} {vs:List Value}
def aI5 (I:Inv X pins σ H s) (b:X.Body) (hx:Heap.MadeExcOf s.heap h1 e (.ref C) vs) (want:E (.ref C) none H) :
  wpAny (model X.prog X.w) X.A (leaving X.env (.ref e)) (fun _ s''=>CXC X.prog X.w C X.outer X.H₀ X.s₀ E (.ref e) s'') Ex { s with heap:=h1 }:=by
 obtain ⟨t,g1,_⟩:=hx.there;have x0:AtP (ErC (.ref C)) e h1:=⟨_,g1,rfl,_,rfl,rfl⟩;exact wpAny_mono (Kp.any (s:={ s with heap:=h1 }) ErC.freed (oR (.ref e) X.env) x0 (aW5 I b hx want)) (fun _ s'' z=>⟨e,rfl,z.1,z.2⟩) fun _ _ z=>z
def bM2 {ex:Value} (I:Inv X pins σ H s) (b:X.Body) (F:CXC X.prog X.w C X.stack H s E ex s') :
  wpAny (model X.prog X.w) X.A (leaving X.env ex) (fun _ s''=>CXC X.prog X.w C X.outer X.H₀ X.s₀ E ex s'') Ex s':=by
 obtain ⟨ea,rfl,⟨ea',H',e',F⟩,x0⟩:=F;cases e';exact wpAny_mono (Kp.any ErC.freed (oR (.ref ea) X.env) x0 (cL7 I b F F.want)) (fun _ s'' z=>⟨ea,rfl,z.1,z.2⟩) fun _ _ z=>z
end
end L2
namespace DL
open PySem PySem.Spec PyProof.Rows L2
structure LeavesC (X:Cx) (C:Addr) (E:XK):Prop where
 made:∀ pins σ H s h' ea vs,Inv X pins σ H s->E (.ref C) none H->Heap.MadeExcOf s.heap h' ea (.ref C) vs->X.xe (.ref ea) { s with heap:=h' }
 on:∀ pins σ H1 s1 ex s',Inv X pins σ H1 s1->CXC X.prog X.w C X.stack H1 s1 E ex s'->X.xe ex s'
section
variable {X:Cx} {C:Addr} {E:XK} {st:Stmt} {rest sa:List Stmt} {e c:Expr} {es args:List Expr} {t:DTA} {tr:DTR} {x y m:Str} {p np pos epos ap cp rp yp:Pos} {f:Addr} {fd:FuncData} {ps:List Str} {k:Nat} {pre:List W->Prop} {tc:DTT} {t1:DTS}
def fM {P:Program} {w:World} {K:Frag} {mg:Str->Option Value} {base:Heap} {N:List Str} {qual:Str} {scope:Scope} {cdv:Value} {A:Around} {outer:List Env} {s:Shared} {H:Hp} :
  LeavesC (lY (CXC P w C) P w K mg base N qual scope f cdv A outer s H E) C E where
 made:=fun pins σ H s h' ea vs I want hx=>aI5 I ⟨rfl,rfl,rfl⟩ hx want
 on:=fun pins σ H1 s1 ex s' I F=>bM2 I ⟨rfl,rfl,rfl⟩ F
def aI6 {B newId initId:String} {bmB:List Value} (O:OwnCls x C bmB newId X.mg X.base) (FB:ExcBaseFacts B newId initId bmB) (L:LeavesC X C E) (ha:DA X (e::es) t) (hc:autoParam (X.calm=true) ZR) (hg:autoParam (Gl X x) ZR) (hdb:autoParam ((x==("__debug__":Str))=false) ZD)
  (he:autoParam (starEach (e::es) X.env=(false,eval e X.env)::starEach es X.env) ZR) (hpl:autoParam ((backTo pos (starEach es X.env)).any (·.1)=false) ZR) :
  DR X C E [.Raise (some (.Call (.Name x np) (e::es) [] pos)) none epos] (fun δ h=>t δ h fun ws h1=>h1=h/\ws.length<=sizeLine) :=
 mK (bN (aW6 (EX:=fun H=>E (.ref C) none H) O FB ha L.made hc hg hdb he hpl) fun D σ H ⟨δ,h,A,μ,R,q,W⟩=>⟨δ,h,A,μ,_,R,q,fun ws h1 vs H1 A1 μ1 ⟨e1,l⟩ x1 R1 r1=>by
  subst e1;exact ⟨by rw [dZ r1];exact l,W.step R.1 x1 H1 .refl R1⟩⟩)
def aX1 (F:FnOk X.prog X.w X.K X.mg X.base (CXC X.prog X.w C) k f fd ps (upX X.K C pre)) (hr:Room k X.A) (hm:X.mg x=some (.ref f)) (hk:PySem.W.keepIn X.K (.ref f)=true) (hb:Binds X.K fd ps []) (L:LeavesC X C E) (ha:DA X (e::es) t)
  (hg:Gl X x) (hdb:(x==("__debug__":Str))=false) (he:starEach (e::es) X.env=(false,eval e X.env)::starEach es X.env) (hpl:(backTo pos (starEach es X.env)).any (·.1)=false)
  {pins:List (Addr×Obj)} {s:Shared} {σ:L2.St} {H:Hp} (I:Inv X pins σ H s) (q:∃ (δ:DSt) (h:aA) (A μ:List Addr),Ab X.K A μ δ h σ H/\(t δ h fun ws h1=>h1=h/\pre ws)/\Wx X.K C E A μ h H) :
  wpAny (model X.prog X.w) X.A (eval (.Call (.Name x p) (e::es) [] pos) X.env) (fun _ _=>False) X.xe s:=by
 obtain ⟨δ,h,A,μ,R,q,W⟩:=q;refine lW (Ex:=X.xe) (t:=upA X.K t) (E:=E) F hr hg hm hk hb ha I ⟨δ,h,A,μ,_,R,q,fun ws h1 vs H1 A1 μ1 ⟨e1,l⟩ x1 R1 r1=>?_⟩ (fun H1 s1 ex s' I1 z=>L.on pins σ H1 s1 ex s' I1 z) hdb he hpl;subst e1;exact ⟨ws,_,A1,μ1,R1,r1,l,W.step R.1 x1⟩
def aX2 (F:FnOk X.prog X.w X.K X.mg X.base (CXC X.prog X.w C) k f fd ps (upX X.K C pre)) (hr:Room k X.A) (hm:X.mg x=some (.ref f)) (hk:PySem.W.keepIn X.K (.ref f)=true) (hb:Binds X.K fd ps []) (L:LeavesC X C E) (ha:DA X (e::es) t)
  (hg:autoParam (Gl X x) ZR) (hs:autoParam (swapsWith (.Call (.Name x p) (e::es) [] pos) none epos.line X.env=pure false) ZR) (hdb:autoParam ((x==("__debug__":Str))=false) ZD)
  (he:autoParam (starEach (e::es) X.env=(false,eval e X.env)::starEach es X.env) ZR) (hpl:autoParam ((backTo pos (starEach es X.env)).any (·.1)=false) ZR) :
  PS X (.Expr (.Call (.Name x p) (e::es) [] pos) epos) (aX0 X.K C E fun δ h=>t δ h fun ws h1=>h1=h/\pre ws):=fun pins s σ H D I q =>
 wpAny_Expr_any (wpAny_mono (aX1 F hr hm hk hb L ha hg hdb he hpl I q) (fun _ _ z=>z.elim) fun _ _ z=>z) I.quiet hs
def bM3 (F:FnOk X.prog X.w X.K X.mg X.base (CXC X.prog X.w C) k f fd ps (upX X.K C pre)) (hr:Room k X.A) (hm:X.mg x=some (.ref f)) (hk:PySem.W.keepIn X.K (.ref f)=true) (hb:Binds X.K fd ps []) (L:LeavesC X C E) (ha:DA X (e::es) t)
  (hg:autoParam (Gl X x) ZR) (hs:autoParam (swapsWith (.Call (.Name x p) (e::es) [] pos) (some (.Name y yp)) epos.line X.env=pure false) ZR) (hdb:autoParam ((x==("__debug__":Str))=false) ZD)
  (he:autoParam (starEach (e::es) X.env=(false,eval e X.env)::starEach es X.env) ZR) (hpl:autoParam ((backTo pos (starEach es X.env)).any (·.1)=false) ZR) :
  PS X (.Assign [.Name y yp] (.Call (.Name x p) (e::es) [] pos) epos) (aX0 X.K C E fun δ h=>t δ h fun ws h1=>h1=h/\pre ws):=fun pins s σ H D I q =>
 wpAny_Assign_Name (wpAny_mono (aX1 F hr hm hk hb L ha hg hdb he hpl I q) (fun _ _ z=>z.elim) fun _ _ z=>z) hs
def aA9 (F:FnOk X.prog X.w X.K X.mg X.base (CXC X.prog X.w C) k f fd ps (upX X.K C pre)) (hr:Room k X.A) (hm:X.mg x=some (.ref f)) (hk:PySem.W.keepIn X.K (.ref f)=true) (hb:Binds X.K fd ps []) (L:LeavesC X C E) (ha:DA X (e::es) t)
  {kk:Value->Sem Value} (ht:eval (.Call (.Attribute (.Call (.Name x p) (e::es) [] pos) m ap) args [] cp) X.env=eval (.Call (.Name x p) (e::es) [] pos) X.env >>= kk)
  (hg:autoParam (Gl X x) ZR) (hdb:autoParam ((x==("__debug__":Str))=false) ZD) (he:autoParam (starEach (e::es) X.env=(false,eval e X.env)::starEach es X.env) ZR) (hpl:autoParam ((backTo pos (starEach es X.env)).any (·.1)=false) ZR) :
  PS X (.Return (some (.Call (.Attribute (.Call (.Name x p) (e::es) [] pos) m ap) args [] cp)) rp) (aX0 X.K C E fun δ h=>t δ h fun ws h1=>h1=h/\pre ws):=fun pins s σ H D I q=>by
 refine wpAny_Return_some ?_;rw [ht];exact wpAny_bind (wpAny_mono (aX1 F hr hm hk hb L ha hg hdb he hpl I q) (fun _ _ z=>z.elim) fun _ _ z=>z)
end
section
variable {P:Program} {w:World} {K:Frag} {mg:Str->Option Value} {base:Heap}
def aX3 {x qual:Str} {st:Stmt} {f C:Addr} {fd:FuncData} {N ps:List Str} {k:Nat} {pre:List W->Prop} (F:Fun K x qual st f fd) (S:FnScope N ps (aF st)) (len:∀ ws,pre ws->ws.length=ps.length)
  (hbody:∀ (cdv:Value) (A:Around) (outer:List Env) (s:Shared) (H:Hp) (E:XK),Room k (A.deeper (envOfC qual (aF st) s.heap.objs.size f cdv))->∀ ws h,pre ws ->
   ∃ tr,DR (lY (CXC P w C) P w K mg base N qual (aF st) f cdv A outer s H E) C E (bI st) tr/\tr (cM N ws) h):FnOk P w K mg base (CXC P w C) (k+1) f fd ps (upX K C pre):=by
 obtain ⟨oc,od,kV,doc,pm,an,cdv,ct,osl,rfl,lk,hcd⟩:=F.ex;refine aM3 lk hcd S (fun vs H Q E ⟨ws,h,A,μ,R,r,q,c⟩=>by rw [dZ r];exact len _ q) fun A outer s H vs Q E hr hsp=>?_;obtain ⟨ws,h,B,μ,R,r,q,c⟩:=hsp;obtain ⟨tr,h1,h2⟩:=hbody cdv A outer s H E hr ws h q;exact ⟨_,h1,cM N ws,h,B,μ,⟨R,iS r⟩,h2,c⟩
end
end DL
namespace L2
open PySem PySem.Spec PyProof.Rows
section
variable {X:Cx} {C CJ:Addr} {n J:Str} {jp hpos tpos:Pos} {i:Nat} {b₀:Stmt} {su bd:List Stmt} {ts:Addr->TS} {tb:XK->L2.St->Hp->Prop}
def bM4 (b:X.Body) (hmJ:X.mg J=some (.ref CJ)) (hJ:PySem.W.exmOne X.K (.ref C) (.ref CJ)=some true) (hN:X.N.Nodup) (hi:X.N[i]?=some n) (hl:X.env.scope.names.lookup n=some .local)
  (hbd:∀ (Ex:Value->Shared->Prop) (E:XK) (pins:List (Addr×Obj)) (s:Shared) (σ:L2.St) (H:Hp),(∀ H1 s1 ex s',Inv X pins σ H1 s1->CXC X.prog X.w C X.stack H1 s1 E ex s'->Ex ex s')->Inv X pins σ H s->tb E σ H->wpAny (model X.prog X.w) X.A (execs bd X.env) (fun fl s'=>False) Ex s)
  (hsu:∀ ea oe,ErC (.ref C) oe->PSs (X.suite ea oe) (b₀::su) (ts ea)) (hgJ:autoParam (Gl X J) ZR) (hdJ:autoParam ((J==("__debug__":Str))=false) ZD) :
  PS X (.Try bd [.ExceptHandler (some (.Name J jp)) (some n) (b₀::su) hpos] [] [] tpos)
   (fun D σ H=>∃ E:XK,tb E σ H/\∀ H2,E (.ref C) none H2->∀ ea,ts ea (cZ9 i D) (σ.set i (some (.ref ea))) H2):=by
 intro pins s σ H D I ⟨E,q,hE⟩;refine wpAny_Try_except ?_;refine wpAny_mono (hbd _ E pins s σ H (fun H1 s1 ex s' I1 hq=>?_) I q) (fun _ _ z=>z.elim) fun _ _ z=>z;obtain ⟨ea,rfl,⟨ea',H2,e',Fl⟩,x0⟩:=hq;cases e';obtain ⟨B,tt,fl,pr⟩:=Fl.fly;have nil:∀ a:Addr,a∉([]:List Addr):=fun a z=>nomatch z
 have fl0:Heap.FlyingW B (X.env::X.outer) ea (.ref C) (.ref tt) s'.heap:=by rw [<- b.st];exact fl
 have tr:∀ a,H2 a≠none->a∉frs X.stack:=fun a z m=>by
  obtain ⟨_,o',ho',_⟩:=I1.stack.mem m;exact z (Fl.un.free a o' ho' (I1.stkFree a m) (nil a))
 have inv:∀ h' tk,B.StaysIn h'->s'.heap.UpToSlots h'->Inv X pins σ H2 { s' with heap:=h',toks:=tk }:=fun h' tk hB up=>by
  have sl:∀ a o,s'.heap.get? a=some o->a∈frs X.stack->∃ sl,h'.get? a=some { o with slots:=sl }:=fun a o q m=>by
   obtain ⟨_,o',ho',hd⟩:=fl.2.2.1.mem m;rw [q] at ho';cases ho';exact up a o q hd
  refine I1.call' (ch:=[]) Fl.os ⟨fun a o q z ha _=>?_,fun a o q z ha _=>?_,Fl.un.free,fun a o q _=>?_,Fl.un.tups,Fl.un.frzs,Fl.un.tbls⟩ (Fl.hok.keptT fun a u z q=>hB a u (pr a u q (tr a z) (.inl z))) Fl.bare fun a z=>nomatch z
  ·exact hB a o (pr a o (Fl.un.keep a o q z ha (nil a)) ha (.inr ⟨o,q⟩))
  ·obtain ⟨s2,e2⟩:=Fl.un.slot a o q z ha (nil a);obtain ⟨s3,e3⟩:=sl a _ e2 ha;exact ⟨s3,e3⟩
  ·obtain ⟨o2,e2⟩:=Fl.un.there a o q (nil a)
   by_cases m:a∈frs X.stack
   ·obtain ⟨s3,e3⟩:=sl a o2 e2 m;exact ⟨_,e3⟩
   ·exact ⟨o2,hB a o2 (pr a o2 e2 m (.inr ⟨o,q⟩))⟩
 have nS:ea∉frs X.stack:=fun m=>by
  obtain ⟨_,o,ho,hd⟩:=fl.2.2.1.mem m;obtain ⟨oe,vs,he,_,hd',_⟩:=fl.first
  rw [he] at ho;cases ho;exact hd vs hd'
 have nN:∀ u,s1.heap.get? ea=some u->False:=fun u hu=>by
  obtain ⟨u',hu'⟩:=Fl.un.there ea u hu (nil ea);have y:=pr ea u' hu' nS (.inr ⟨u,hu⟩);rw [fl.2.1] at y;cases y
 have n0:X.s₀.heap.get? ea=none:=by
  cases z:X.s₀.heap.get? ea with
  | none=>rfl
  | some o =>
   have ub:Un X.fs [] X.H₀ H1 X.s₀.heap s1.heap:=by have:=I1.base;rwa [b.ex] at this
   obtain ⟨o',z'⟩:=ub.there ea o z (nil ea);exact (nN o' z').elim
 have nH:H2 ea=none:=by
  cases z:H2 ea with
  | none=>rfl
  | some o =>
   have z':H2 ea≠none:=by rw [z];exact fun y=>nomatch y
   obtain ⟨u,hu⟩:=Fl.hok.exT z';have y:=pr ea u hu nS (.inl z');rw [fl.2.1] at y;cases y
 have nL:ea≠X.env.locals:=fun z=>nS (by rw [b.fs,z];exact List.mem_cons_self);have nF:ea∉X.fs:=fun z=>nS (by rw [b.fs];exact List.mem_cons_of_mem _ z);have nP:∀ p∈X.pn++pins,p.1≠ea:=fun p hp z=>nN p.2 (by rw [<- z];exact (I1.pin p hp).1);refine wpAny_mono (Kp.any ErC.freed (aA8 (.ref ea) X.env) x0 (wpAny_looks_onW (env:=X.env) (outer:=X.outer) (Q:=fun _ s4=>∃ h4,s4={ s' with heap:=h4 }/\Heap.HeldW B (X.env::X.outer) ea (.ref C) (.ref tt) X.env.locals h4/\s'.heap.UpToSlots h4) (by rw [I.ok.frames,b.st]) b.fr fl0 fun h4 held4 up4=>⟨h4,rfl,held4,up4⟩)) (fun _ s4 z=>?_) fun _ _ z=>z;obtain ⟨⟨h4,rfl,held4,up4⟩,x4⟩:=z;refine wpAny_mono (Kp.any ErC.freed (lD (.ref ea) none) x4 (wpAny_landsW (Q:=fun _ s5=>∃ h5,s5={ s' with heap:=h5 }/\Heap.FlyingW B (X.env::X.outer) ea (.ref C) (.ref tt) h5/\h4.UpToSlots h5) held4 fun h5 fl5 up5=>⟨h5,rfl,fl5,up5⟩)) (fun _ s5 z=>?_) fun _ _ z=>z;obtain ⟨⟨h5,rfl,fl5,up5⟩,x5⟩:=z;have I5:=inv h5 s'.toks fl5.1 (up4.trans up5);obtain ⟨oe5,he5,hc5,ws5,hd5,hn5⟩:=x5;have I5s:=I5.suite (ea:=ea) (oe:=oe5) he5 nH nL nF (fun v z=>by rw [hd5] at z;cases z);refine wpAny_handleBy_cons (codeAny_handlers_test (iP (X:=X.suite ea oe5) I5s hgJ hmJ ?_ hdJ)) (by intro q;cases q);have LT:PySem.W.Looks (model X.prog X.w) h5 (typeOf (.ref ea)) (.ref C):=hc5 ▸ (PySem.W.Looks.ld he5).andThen .now;refine (PySem.W.exm_one (K:=X.K) I5.kIn LT hJ).here ?_;refine codeAny_handlers_suite_as ?_;refine wpAny_mono (Kp.any ErC.freed (lD (.ref ea) none) (⟨oe5,he5,hc5,ws5,hd5,hn5⟩:AtP (ErC (.ref C)) ea h5) (lands_againW (Q:=fun _ s6=>∃ h6,s6={ s' with heap:=h6 }/\Heap.FlyingW B (X.env::X.outer) ea (.ref C) (.ref tt) h6/\h5.UpToSlots h6) fl5 fun h6 fl6 up6=>⟨h6,rfl,fl6,up6⟩)) (fun _ s6 z=>?_) fun _ _ z=>z;obtain ⟨⟨h6,rfl,fl6,up6⟩,x6⟩:=z;have I6:=inv h6 s'.toks fl6.1 ((up4.trans up5).trans up6);obtain ⟨oe,he6,er6⟩:=x6;obtain ⟨_,ws,hd6,_⟩:=id er6;have ncl:∀ v,oe.data≠.cell v:=fun v z=>by rw [hd6] at z;cases z
 have I6s:=I6.suite (ea:=ea) (oe:=oe) he6 nH nL nF ncl;refine gC (X:=X.suite ea oe) (v:=.ref ea) I6s hN hi (.inl hl) rfl (fun s7 I7=>?_) (.inr hl);refine wpAny_mono (hsu ea oe er6 pins s7 _ H2 (cZ9 i D) I7 (hE H2 Fl.want ea)) (fun fl s8 hq=>?_) fun _ _ z=>z.elim;cases fl with
 | next=>obtain ⟨σ8,H8,I8,q8⟩:=hq;exact mZ (I8.unsuite I.ok) hN hi hl fun s9 I9=>⟨_,H8,I9,q8⟩
 | brk=>obtain ⟨σ8,H8,I8,q8⟩:=hq;exact mZ (I8.unsuite I.ok) hN hi hl fun s9 I9=>⟨_,H8,I9,q8⟩
 | cont=>obtain ⟨σ8,H8,I8,q8⟩:=hq;exact mZ (I8.unsuite I.ok) hN hi hl fun s9 I9=>⟨_,H8,I9,q8⟩
 | ret u=>obtain ⟨v,σ8,H8,I8,rv,q8⟩:=hq;exact mZ (I8.unsuite I.ok) hN hi hl fun s9 I9=>⟨v,_,H8,I9,rv,q8⟩
end
end L2
set_option maxHeartbeats 4000000
noncomputable section
namespace K13
open PySem PySem.Spec PyProof.Rows L2 DL CI SJ
noncomputable def body:List Stmt:=PySem.Challenge.pw_storejudge_k13_what_is_a_problem.main.body
noncomputable def cv (x:Str):List Str:=if x="_law_problem" then ["_law_state"] else if x="_law_items" then ["_law_options","_law_items_here"] else if x="_law_pairs" then ["_law_pairs_here"] else if x="_law_triples" then ["_law_triples_here"] else if x="_law_bad" then ["_law_found"] else if x="deal_done" then ["answers"] else []
noncomputable def T:Top:=cY5 body (fun _=>[]) cv 1000 60
end K13
namespace K13
open PySem PySem.Spec PyProof.Rows L2 DL CI
noncomputable def YE:Fl×aA->Option (Fl×aA):=fun p=>match p.1 with
  | Fl.nx δ'=>some (Fl.nx δ',p.2)
  | f=>some (f,p.2)
@[simp] theorem dA3 :YE=fun p=>match p.1 with
  | Fl.nx δ'=>some (Fl.nx δ',p.2)
  | f=>some (f,p.2):=rfl
noncomputable def YN:W->XR (List W):=fun w=>xb (aE []) fun ws=>aE (w::ws)
@[simp] theorem dA4 :YN=fun w=>xb (aE []) fun ws=>aE (w::ws):=rfl
noncomputable def YC (w:W):List W->XR (List W):=fun ws=>aE (w::ws)
@[simp] theorem dA5 (w:W):YC w=fun ws=>aE (w::ws):=rfl
noncomputable def YF (d:Nat) (s:String):List W->XR W:=fun ws x h=>Option.bind (aD T d (Str.ofString s) ws h) fun p=>some (W.d p.1,p.2)
@[simp] theorem dA6 (d:Nat) (s:String):YF d s=fun ws x h=>Option.bind (aD T d (Str.ofString s) ws h) fun p=>some (W.d p.1,p.2):=rfl
noncomputable def YI (n:Int):W->XR W:=fun x=>xb (aE (W.d (PyData.int n))) fun y x_1 h=>xIx x y h
@[simp] theorem dA7 (n:Int):YI n=fun x=>xb (aE (W.d (PyData.int n))) fun y x_1 h=>xIx x y h:=rfl
noncomputable def YB (o:Operator) (n:Int):W->XR W:=fun u=>xb (aE (W.d (PyData.int n))) fun w x h=>dU o u w h
@[simp] theorem dA8 (o:Operator) (n:Int):YB o n=fun u=>xb (aE (W.d (PyData.int n))) fun w x h=>dU o u w h:=rfl
noncomputable def YO (o:Operator) (u:W):W->XR W:=fun w x h=>dU o u w h
@[simp] theorem dA9 (o:Operator) (u:W):YO o u=fun w x h=>dU o u w h:=rfl
noncomputable def YT:List PyData->XR W:=fun xs=>aE (W.d (PyData.tuple xs))
@[simp] theorem dB0 :YT=fun xs=>aE (W.d (PyData.tuple xs)):=rfl
noncomputable def YW:W×aA->Option (Fl×aA):=fun p=>some (Fl.rt p.1,p.2)
@[simp] theorem dB1 :YW=fun p=>some (Fl.rt p.1,p.2):=rfl
noncomputable def YS (s:String):XR W:=aE (W.d (PyData.str (Str.ofString s)))
@[simp] theorem dB2 (s:String):YS s=aE (W.d (PyData.str (Str.ofString s))):=rfl
noncomputable def YJ (n:Int):XR W:=aE (W.d (PyData.int n))
@[simp] theorem dB3 (n:Int):YJ n=aE (W.d (PyData.int n)):=rfl
noncomputable def YK (f:List W->aA->Option (W×aA)):List W->XR W:=fun ws x h=>f ws h
@[simp] theorem dB4 (f:List W->aA->Option (W×aA)):YK f=fun ws x h=>f ws h:=rfl
noncomputable def YQ (k:DSt->Fl×aA->Option (Fl×aA)):Fl×aA->Option (Fl×aA):=fun p=>match p.1 with
  | Fl.nx δ'=>k δ' p
  | f=>some (f,p.2)
@[simp] theorem bM5 (k:DSt->Fl×aA->Option (Fl×aA)):YQ k=fun p=>match p.1 with
  | Fl.nx δ'=>k δ' p
  | f=>some (f,p.2):=rfl
noncomputable def YP {α β:Type} (x:Option α) (f:α->Option β):Option β:=Option.bind x f
@[simp] theorem aI7 {α β:Type} (x:Option α) (f:α->Option β):YP x f=Option.bind x f:=rfl
noncomputable def YG (i:Nat):XG:=fun w δ h=>some (List.set δ i (some w),h)
@[simp] theorem dB5 (i:Nat):YG i=fun w δ h=>some (List.set δ i (some w),h):=rfl
noncomputable def YZ:XR W:=aE (W.d PyData.none)
@[simp] theorem dB6:YZ=aE (W.d PyData.none):=rfl
noncomputable def YV (i:Nat) (n:Int):XR W:=xb (aB i) (YI n)
@[simp] theorem dB7 (i:Nat) (n:Int):YV i n=xb (aB i) (YI n):=rfl
noncomputable def YA (e:XR (List W)):W->XR W:=fun w δ h=>if pQ (Str.ofString "append") w h=true then Option.bind (e δ h) fun p=>match w,p.1 with
  | W.c j,[W.d x]=>match p.2[j]? with
    | some (Cell.l xs)=>if List.length xs < sizeLine then some (W.d PyData.none,List.set p.2 j (Cell.l (xs++[x]))) else none
    | x=>none
  | x,x_2=>none else none
@[simp] theorem dB8 (e:XR (List W)):YA e=fun w δ h=>if pQ (Str.ofString "append") w h=true then Option.bind (e δ h) fun p=>match w,p.1 with
  | W.c j,[W.d x]=>match p.2[j]? with
    | some (Cell.l xs)=>if List.length xs < sizeLine then some (W.d PyData.none,List.set p.2 j (Cell.l (xs++[x]))) else none
    | x=>none
  | x,x_2=>none else none:=rfl
noncomputable def YR :W->XR (List PyData×Option Nat):=fun w x h=>match w with
  | W.d (PyData.int j)=>if iW 0 j=true then some ((rng 0 (Int.toNat j),none),h) else none
  | x=>none
@[simp] theorem dT2 :YR =fun w x h=>match w with
  | W.d (PyData.int j)=>if iW 0 j=true then some ((rng 0 (Int.toNat j),none),h) else none
  | x=>none:=rfl
noncomputable def YD :W->XR Bool:=fun w=>match w with
  | W.d (PyData.bool b)=>aE b
  | x=>xno
@[simp] theorem dB9 :YD =fun w=>match w with
  | W.d (PyData.bool b)=>aE b
  | x=>xno:=rfl
noncomputable def YU :W->XR (Option Int):=fun w=>match w with
  | W.d (PyData.int i)=>aE (some i)
  | x=>xno
@[simp] theorem dC0 :YU =fun w=>match w with
  | W.d (PyData.int i)=>aE (some i)
  | x=>xno:=rfl
noncomputable def YX (x:W):W->XR W:=fun y _ h=>xIx x y h
@[simp] theorem dC1 (x:W):YX x=fun y _ h=>xIx x y h:=rfl
noncomputable def YS3 (x:W) (l:Option Int):Option Int->XR W:=fun u _ h=>xSl x l u h
@[simp] theorem bV4 (x:W) (l:Option Int):YS3 x l=fun u _ h=>xSl x l u h:=rfl
noncomputable def YT2 (b:Bool) (δ:DSt):Bool×aA->Option (Fl×aA):=fun p=>if p.1=true then YP (YP (aE (W.d (PyData.bool b)) δ p.2) YW) YE else some (Fl.nx δ,p.2)
@[simp] theorem dV5 (b:Bool) (δ:DSt):YT2 b δ=fun p=>if p.1=true then YP (YP (aE (W.d (PyData.bool b)) δ p.2) YW) YE else some (Fl.nx δ,p.2):=rfl
noncomputable def YI2 (s:String):W->XR W:=fun w x h=>Option.bind (ref h w) fun d=>some (W.d (PyData.bool (isi d s)),h)
@[simp] theorem dV6 (s:String):YI2 s=fun w x h=>Option.bind (ref h w) fun d=>some (W.d (PyData.bool (isi d s)),h):=rfl
noncomputable def YNg :W->XR W:=fun w=>match w with
  | W.d (PyData.int i)=>aE (W.d (PyData.int (-i)))
  | x=>xno
@[simp] theorem bV5 :YNg =fun w=>match w with
  | W.d (PyData.int i)=>aE (W.d (PyData.int (-i)))
  | x=>xno:=rfl
noncomputable def Y1 (a:XR W):XR (List W):=xb a YN
@[simp] theorem dC2 (a:XR W):Y1 a=xb a YN:=rfl
noncomputable def Y2 (a b:XR W):XR (List W):=xb a fun w=>xb (Y1 b) (YC w)
@[simp] theorem dC3 (a b:XR W):Y2 a b=xb a fun w=>xb (Y1 b) (YC w):=rfl
noncomputable def Y3 (a b c:XR W):XR (List W):=xb a fun w=>xb (Y2 b c) (YC w)
@[simp] theorem dC4 (a b c:XR W):Y3 a b c=xb a fun w=>xb (Y2 b c) (YC w):=rfl
noncomputable def Y4 (a b c e:XR W):XR (List W):=xb a fun w=>xb (Y3 b c e) (YC w)
@[simp] theorem dC5 (a b c e:XR W):Y4 a b c e=xb a fun w=>xb (Y3 b c e) (YC w):=rfl
noncomputable def Y5 (a b c e f:XR W):XR (List W):=xb a fun w=>xb (Y4 b c e f) (YC w)
@[simp] theorem dC6 (a b c e f:XR W):Y5 a b c e f=xb a fun w=>xb (Y4 b c e f) (YC w):=rfl
noncomputable def Y6 (a b c e f g:XR W):XR (List W):=xb a fun w=>xb (Y5 b c e f g) (YC w)
@[simp] theorem dC7 (a b c e f g:XR W):Y6 a b c e f g=xb a fun w=>xb (Y5 b c e f g) (YC w):=rfl
noncomputable def Y7 (a b c e f g i:XR W):XR (List W):=xb a fun w=>xb (Y6 b c e f g i) (YC w)
@[simp] theorem dC8 (a b c e f g i:XR W):Y7 a b c e f g i=xb a fun w=>xb (Y6 b c e f g i) (YC w):=rfl
noncomputable def yG (d:Nat) (w0:W) (h:aA):aD T (d+1) "is_whole" [w0] h =
 YP
 (YP
 (YP
 (xb (xb (aB 0) (YI2 "int"))
 (fun (w:W) =>
 match w with
     | W.d (PyData.bool true) =>
      xb (xb (aB 0) (YI2 "bool")) fun (w:W) =>
 match w with
       | W.d (PyData.bool b)=>aE (W.d (PyData.bool !b))
       | x=>xno
     | W.d (PyData.bool false)=>aE (W.d (PyData.bool false))
     | x=>xno)
 [some w0] h)
 YW)
 YE)
 (ends h):=by kernel_rfl
noncomputable def tM (d:Nat) (w0 w1 w2:W) (h:aA):aD T (d+1) "is_between" [w0,w1,w2] h =
 YP
 (YP
 (YP
 (xb (xb (Y1 (aB 0)) (YF d "is_whole"))
 (fun (w:W) =>
 match w with
     | W.d (PyData.bool true)=>cI (xC2 CmpOp.LtE CmpOp.LtE (aB 1) (aB 0) (aB 2))
     | W.d (PyData.bool false)=>aE (W.d (PyData.bool false))
     | x=>xno)
 [some w0,some w1,some w2] h)
 YW)
 YE)
 (ends h):=by kernel_rfl
noncomputable def pW (d:Nat) (w0 w1:W) (h:aA):aD T (d+1) "is_tuple_of" [w0,w1] h =
 YP
 (YP
 (YP
 (xb (xb (aB 0) (YI2 "tuple"))
 (fun (w:W) =>
 match w with
     | W.d (PyData.bool true)=>cI (xC1 CmpOp.Eq (xb (Y1 (aB 0)) (YK cA)) (aB 1))
     | W.d (PyData.bool false)=>aE (W.d (PyData.bool false))
     | x=>xno)
 [some w0,some w1] h)
 YW)
 YE)
 (ends h):=by kernel_rfl
noncomputable def wB (d:Nat) (w0:W) (h:aA):aD T (d+1) "are_whole" [w0] h =
 YP
 (YP (YP (xb (Y1 (aQ (xb (cJ (aB 0)) fun p δ h=>aV (YG 0) (aE true) (xb (Y1 (aB 0)) (YF d "is_whole")) p.2 p.1 p.1 (bS [none] δ) h []))) (YK jW) [some w0] h) YW) YE)
 (ends h):=by kernel_rfl
noncomputable def tN (d:Nat) (w0:W) (h:aA):aD T (d+1) "are_rising" [w0] h =
 YP
 (YP
 (YP
 (xb
 (Y1 (aQ
 (xb
 (xb (xb (xb (Y1 (aB 0)) (YK cA)) (YB .Sub 1)) YR)
 fun p δ h=>aV (YG 0) (aE true) (cI (xC1 CmpOp.Lt (xb (aB 1) fun x=>xb (aB 0) (YX x)) (xb (aB 1) fun x=>xb (xb (aB 0) (YB .Add 1)) (YX x)))) p.2 p.1 p.1 (bS [none,some 0] δ) h [])))
 (YK jW) [some w0] h)
 YW)
 YE)
 (ends h):=by kernel_rfl
noncomputable def aX4 (d:Nat) (w0:W) (h:aA):aD T (d+1) "is_key" [w0] h =
 YP
 (YP (YP (xb (Y3 (aB 0) (YJ 0) (YJ 7)) ((YF d "is_between")) [some w0] h) YW) YE)
 (ends h):=by kernel_rfl
noncomputable def aI8 (d:Nat) (w0:W) (h:aA):aD T (d+1) "word_of" [w0] h =
 YP
 (YP
 (YP
 (xb
 (xb (xb (aB 0) (YI2 "tuple")) YD)
 (fun c =>
 if c=true then
 xb (xC1 CmpOp.Gt (xb (Y1 (aB 0)) (YK cA)) (YJ 0)) fun c =>
 if c=true then
 xb (xb (YV 0 0) (YI2 "str")) YD
 else aE false
 else aE false)
 [some w0] h)
 fun p =>
 if p.1=true then
 YP (YP (xb (aB 0) (YI 0) [some w0] p.2) YW) YE
 else some (Fl.nx [some w0],p.2))
 (YQ fun δ' p =>
 YP (YP (YZ δ' p.2) YW) YE))
 (ends h):=by kernel_rfl
noncomputable def wC (d:Nat) (w0 w1 w2:W) (h:aA):aD T (d+1) "is_worded" [w0,w1,w2] h =
 YP
 (YP
 (YP
 (xb (cI (xC1 CmpOp.Eq (xb (Y1 (aB 0)) (YF d "word_of")) (aB 1)))
 (fun (w:W) =>
 match w with
     | W.d (PyData.bool true)=>cI (xC1 CmpOp.Eq (xb (Y1 (aB 0)) (YK cA)) (aB 2))
     | W.d (PyData.bool false)=>aE (W.d (PyData.bool false))
     | x=>xno)
 [some w0,some w1,some w2] h)
 YW)
 YE)
 (ends h):=by kernel_rfl
noncomputable def wD (d:Nat) (w0:W) (h:aA):aD T (d+1) "is_single" [w0] h =
 YP
 (YP (aW 1 (xb (Y1 (aB 0)) (YF d "word_of")) [some w0,none] h) (YQ fun δ' p =>
   YP
    (YP
     (xb (rA (fun (z:Str)=>List.lookup z [(Str.ofString "read",0),(Str.ofString "write",1),(Str.ofString "add",1),(Str.ofString "swap",2)]) (aB 1))
      (fun c =>
       if c=true then aE true
       else
        xC1 CmpOp.NotEq (xb (Y1 (aB 0)) (YK cA))
         (xb (YJ 2) fun (u:W) =>
          xb
           (xb (aB 1) fun (w:W) =>
            match w with
            | W.d (PyData.str z) =>
             match List.lookup z [(Str.ofString "read",0),(Str.ofString "write",1),(Str.ofString "add",1),(Str.ofString "swap",2)] with
             | some i=>aE (W.d (PyData.int i))
             | none=>xno
            | x=>xno)
           (YO .Add u)))
      δ' p.2)
     (YT2 false δ'))
    (YQ fun δ' p =>
     YP
      (YP
       (xb (xb (Y1 (YV 0 1)) (YF d "is_key"))
        (fun (w:W) =>
         match w with
         | W.d (PyData.bool true) =>
          xb
           (Y1 (xb (aB 0) fun (x:W) =>
             xb
              (xb (YJ 2) YU)
              fun (l:Option Int)=>xb (aE none) (YS3 x l)))
           (YF d "are_whole")
         | W.d (PyData.bool false)=>aE (W.d (PyData.bool false))
         | x=>xno)
        δ' p.2)
       YW)
      YE)))
 (ends h):=by kernel_rfl
noncomputable def aI9 (d:Nat) (w0:W) (h:aA):aD T (d+1) "is_span" [w0] h =
 YP
 (YP
 (YP
 (xb
 (xb
 (xb (xb (Y3 (aB 0) (YS "span") (YJ 3)) (YF d "is_worded")) YD)
 fun (b:Bool)=>aE !b)
 (fun c =>
 if c=true then aE true
 else
 xb
 (xb
 (xb
 (Y1 (xb (aB 0) fun (x:W) =>
 xb
 (xb (YJ 1) YU)
 fun (l:Option Int)=>xb (aE none) (YS3 x l)))
 (YF d "are_whole"))
 YD)
 fun (b:Bool)=>aE !b)
 [some w0] h)
 (YT2 false [some w0]))
 (YQ fun δ' p =>
 YP (YP (cI (xC3 CmpOp.LtE CmpOp.Lt CmpOp.LtE (YJ 0) (YV 0 1) (YV 0 2) (xb (YJ 7) (YB .Add 1))) δ' p.2) YW) YE))
 (ends h):=by kernel_rfl
noncomputable def aJ0 (d:Nat) (w0:W) (h:aA):aD T (d+1) "is_deal" [w0] h =
 YP
 (YP
 (YP
 (xb
 (xb
 (xb (xb (Y3 (aB 0) (YS "deal") (YJ 2)) (YF d "is_worded")) YD)
 fun (b:Bool)=>aE !b)
 (fun c =>
 if c=true then aE true
 else
 xb
 (xb (xb (YV 0 1) (YI2 "tuple")) YD)
 fun (b:Bool)=>aE !b)
 [some w0] h)
 (YT2 false [some w0]))
 (YQ fun δ' p =>
 YP
 (YP
 (xb (cI (xC2 CmpOp.LtE CmpOp.LtE (YJ 1) (xb (Y1 (YV 0 1)) (YK cA)) (YJ 4)))
 (fun (w:W) =>
 match w with
       | W.d (PyData.bool true)=>xb (Y1 (aQ (xb (cJ (YV 0 1)) fun p δ h=>aV (YG 0) (aE true) (xb (Y1 (aB 0)) (YF d "is_single")) p.2 p.1 p.1 (bS [none] δ) h []))) (YK jW)
       | W.d (PyData.bool false)=>aE (W.d (PyData.bool false))
       | x=>xno)
 δ' p.2)
 YW)
 YE))
 (ends h):=by kernel_rfl
noncomputable def aJ1 (d:Nat) (w0:W) (h:aA):aD T (d+1) "is_call" [w0] h =
 YP
 (YP
 (YP
 (xb (xb (Y1 (aB 0)) (YF d "is_single"))
 (fun (w:W) =>
 match w with
     | W.d (PyData.bool true)=>aE (W.d (PyData.bool true))
     | W.d (PyData.bool false) =>
      xb (xb (Y1 (aB 0)) (YF d "is_span")) fun (w:W) =>
 match w with
       | W.d (PyData.bool true)=>aE (W.d (PyData.bool true))
       | W.d (PyData.bool false)=>xb (Y1 (aB 0)) (YF d "is_deal")
       | x=>xno
     | x=>xno)
 [some w0] h)
 YW)
 YE)
 (ends h):=by kernel_rfl
noncomputable def aJ2 (d:Nat) (w0:W) (h:aA):aD T (d+1) "is_look" [w0] h =
 YP
 (YP
 (YP
 (xb (xb (Y3 (aB 0) (YS "look") (YJ 2)) (YF d "is_worded"))
 (fun (w:W) =>
 match w with
     | W.d (PyData.bool true)=>xb (Y1 (YV 0 1)) (YF d "is_call")
     | W.d (PyData.bool false)=>aE (W.d (PyData.bool false))
     | x=>xno)
 [some w0] h)
 YW)
 YE)
 (ends h):=by kernel_rfl
noncomputable def mI (d:Nat) (w0:W) (h:aA):aD T (d+1) "is_value_pair" [w0] h =
 YP
 (YP
 (YP
 (xb (xb (Y2 (aB 0) (YJ 2)) (YF d "is_tuple_of"))
 (fun (w:W) =>
 match w with
     | W.d (PyData.bool true) =>
      xb (xb (Y1 (YV 0 0)) (YF d "is_key")) fun (w:W) =>
 match w with
       | W.d (PyData.bool true)=>xb (Y1 (YV 0 1)) (YF d "is_whole")
       | W.d (PyData.bool false)=>aE (W.d (PyData.bool false))
       | x=>xno
     | W.d (PyData.bool false)=>aE (W.d (PyData.bool false))
     | x=>xno)
 [some w0] h)
 YW)
 YE)
 (ends h):=by kernel_rfl
noncomputable def aX5 (d:Nat) (w0:W) (h:aA):aD T (d+1) "is_lay" [w0] h =
 YP
 (YP
 (YP
 (xb
 (xb
 (xb (xb (Y3 (aB 0) (YS "lay") (YJ 2)) (YF d "is_worded")) YD)
 fun (b:Bool)=>aE !b)
 (fun c =>
 if c=true then aE true
 else
 xb
 (xb
 (xb (xb (YV 0 1) (YI2 "tuple")) YD)
 fun (b:Bool)=>aE !b)
 fun c=>if c=true then aE true else xC1 CmpOp.Eq (xb (Y1 (YV 0 1)) (YK cA)) (YJ 0))
 [some w0] h)
 (YT2 false [some w0]))
 (YQ fun δ' p =>
 YP
 (YP
 (xb
 (xb (xb (Y1 (aQ (xb (cJ (YV 0 1)) fun p δ h=>aV (YG 0) (aE true) (xb (Y1 (aB 0)) (YF d "is_value_pair")) p.2 p.1 p.1 (bS [none] δ) h []))) (YK jW)) YD)
 (fun (b:Bool)=>aE !b) δ' p.2)
 (YT2 false δ'))
 (YQ fun δ' p =>
 YP (YP (xb (Y1 (aQ (xb (cJ (YV 0 1)) fun p δ h=>aV (YG 0) (aE true) (YV 0 0) p.2 p.1 p.1 (bS [none] δ) h []))) ((YF d "are_rising")) δ' p.2) YW) YE)))
 (ends h):=by kernel_rfl
noncomputable def aJ3 (d:Nat) (w0:W) (h:aA):aD T (d+1) "is_step" [w0] h =
 YP
 (YP
 (YP
 (xb (xb (Y1 (aB 0)) (YF d "is_call"))
 (fun (w:W) =>
 match w with
     | W.d (PyData.bool true)=>aE (W.d (PyData.bool true))
     | W.d (PyData.bool false) =>
      xb (xb (Y1 (aB 0)) (YF d "is_look")) fun (w:W) =>
 match w with
       | W.d (PyData.bool true)=>aE (W.d (PyData.bool true))
       | W.d (PyData.bool false)=>xb (Y1 (aB 0)) (YF d "is_lay")
       | x=>xno
     | x=>xno)
 [some w0] h)
 YW)
 YE)
 (ends h):=by kernel_rfl
noncomputable def iL (d:Nat) (w0 w1:W) (h:aA):aD T (d+1) "is_answer" [w0,w1] h =
 YP
 (YP
 (YP
 (xb
 (xb (xb (Y1 (aB 0)) (YF d "is_step")) YD)
 (fun (b:Bool)=>aE !b) [some w0,some w1] h)
 (YT2 false [some w0,some w1]))
 (YQ fun δ' p =>
 YP
 (YP
 (xb (xb (Y3 (aB 1) (YS "refused") (YJ 1)) (YF d "is_worded"))
 (YD)
 δ' p.2)
 fun p =>
 if p.1=true then
 YP (YP (xb (Y1 (aB 0)) ((YF d "is_call")) δ' p.2) YW) YE
 else some (Fl.nx δ',p.2))
 (YQ fun δ' p =>
 YP (YP (xb (Y2 (aB 0) (aB 1)) ((YF d "is_own_answer")) δ' p.2) YW) YE)))
 (ends h):=by kernel_rfl
noncomputable def bC (d:Nat) (w0 w1:W) (h:aA):aD T (d+1) "is_own_answer" [w0,w1] h =
 YP
 (YP (aW 2 (YV 0 0) [some w0,some w1,none] h) (YQ fun δ' p =>
 YP
 (YP (xC1 CmpOp.In (aB 2) (xb (xPl (Y2 (YS "read") (YS "add"))) YT) δ' p.2) fun p =>
 if p.1=true then
 YP
 (YP
 (xb (xb (Y3 (aB 1) (YS "got") (YJ 2)) (YF d "is_worded"))
 (fun (w:W) =>
 match w with
          | W.d (PyData.bool true)=>xb (Y1 (YV 1 1)) (YF d "is_whole")
          | W.d (PyData.bool false)=>aE (W.d (PyData.bool false))
          | x=>xno)
 δ' p.2)
 YW)
 YE
 else some (Fl.nx δ',p.2))
 (YQ fun δ' p =>
 YP
 (YP (xC1 CmpOp.In (aB 2) (xb (xPl (Y2 (YS "write") (YS "lay"))) YT) δ' p.2) fun p =>
 if p.1=true then
 YP (YP (xb (Y3 (aB 1) (YS "done") (YJ 1)) ((YF d "is_worded")) δ' p.2) YW) YE
 else some (Fl.nx δ',p.2))
 (YQ fun δ' p =>
 YP
 (YP (xC1 CmpOp.Eq (aB 2) (YS "swap") δ' p.2) fun p =>
 if p.1=true then
 YP
 (YP
 (xb (xb (Y3 (aB 1) (YS "yes") (YJ 1)) (YF d "is_worded"))
 (fun (w:W) =>
 match w with
              | W.d (PyData.bool true)=>aE (W.d (PyData.bool true))
              | W.d (PyData.bool false)=>xb (Y3 (aB 1) (YS "no") (YJ 1)) (YF d "is_worded")
              | x=>xno)
 δ' p.2)
 YW)
 YE
 else some (Fl.nx δ',p.2))
 (YQ fun δ' p =>
 YP
 (YP (xC1 CmpOp.Eq (aB 2) (YS "span") δ' p.2) fun p =>
 if p.1=true then
 YP
 (YP
 (xb (xb (Y3 (aB 1) (YS "all") (YJ 2)) (YF d "is_worded"))
 (fun (w:W) =>
 match w with
                | W.d (PyData.bool true) =>
                 xb (xb (Y2 (YV 1 1) (xb (YV 0 2) fun u=>xb (YV 0 1) (YO .Sub u))) (YF d "is_tuple_of")) fun (w:W) =>
 match w with
                  | W.d (PyData.bool true)=>xb (Y1 (YV 1 1)) (YF d "are_whole")
                  | W.d (PyData.bool false)=>aE (W.d (PyData.bool false))
                  | x=>xno
                | W.d (PyData.bool false)=>aE (W.d (PyData.bool false))
                | x=>xno)
 δ' p.2)
 YW)
 YE
 else some (Fl.nx δ',p.2))
 (YQ fun δ' p =>
 YP
 (YP (xC1 CmpOp.Eq (aB 2) (YS "look") δ' p.2) fun p =>
 if p.1=true then
 YP (YP (xb (Y2 (YV 0 1) (aB 1)) ((YF d "is_own_answer")) δ' p.2) YW) YE
 else some (Fl.nx δ',p.2))
 (YQ fun δ' p =>
 YP
 (YP
 (xb
 (xb
 (xb (xb (Y3 (aB 1) (YS "each") (YJ 2)) (YF d "is_worded")) YD)
 fun (b:Bool)=>aE !b)
 (fun c =>
 if c=true then aE true
 else
 xb
 (xb (xb (Y2 (YV 1 1) (xb (Y1 (YV 0 1)) (YK cA))) (YF d "is_tuple_of")) YD)
 fun (b:Bool)=>aE !b)
 δ' p.2)
 (YT2 false δ'))
 (YQ fun δ' p =>
 YP
 (YP
 (xb
 (Y1 (aQ
 (xb
 (xb (YV 0 1) fun (u:W) =>
 xb (YV 1 1) fun (w:W) (x:DSt) (h:aA) =>
 match mE u,mE w with
                       | some xs,some ys=>some ((oA xs ys,none),h)
                       | x,x_1=>none)
 fun p δ h=>aV (jA [YG 0,YG 1]) (aE true) (xb (Y2 (aB 0) (aB 1)) (YF d "is_own_answer")) p.2 p.1 p.1 (bS [none,none] δ) h [])))
 (YK jW) δ' p.2)
 YW)
 YE))))))))
 (ends h):=by kernel_rfl
noncomputable def jK (d:Nat) (w0:W) (h:aA):aD T (d+1) "is_stand" [w0] h =
 YP
 (YP
 (YP
 (xb (xb (Y2 (aB 0) (xb (Y1 (aE (W.d (PyData.tuple (List.reverse [PyData.int 0,PyData.int 0,PyData.int 0,PyData.int 0,PyData.int 0,PyData.int 0,PyData.int 0,PyData.int 0]))))) (YK cA))) (YF d "is_tuple_of"))
 (fun (w:W) =>
 match w with
     | W.d (PyData.bool true)=>xb (Y1 (aB 0)) (YF d "are_whole")
     | W.d (PyData.bool false)=>aE (W.d (PyData.bool false))
     | x=>xno)
 [some w0] h)
 YW)
 YE)
 (ends h):=by kernel_rfl
noncomputable def tO (d:Nat) (w0 w1 w2:W) (h:aA):aD T (d+1) "with_value" [w0,w1,w2] h =
 YP
 (YP
 (YP
 (xb
 (xb
 (xb (aB 0) fun (x:W) =>
 xb (aE none) fun (l:Option Int) =>
 xb
 (xb (aB 1) YU)
 (YS3 x l))
 fun u=>xb (xb (xPl (Y1 (aB 2))) YT) (YO .Add u))
 (fun (u:W) =>
 xb
 (xb (aB 0) fun (x:W) =>
 xb
 (xb (xb (aB 1) (YB .Add 1)) YU)
 fun (l:Option Int)=>xb (aE none) (YS3 x l))
 (YO .Add u))
 [some w0,some w1,some w2] h)
 YW)
 YE)
 (ends h):=by kernel_rfl
noncomputable def oS (d:Nat) (w0 w1:W) (h:aA):aD T (d+1) "done" [w0,w1] h =
 YP
 (YP (aW 2 (YV 1 0) [some w0,some w1,none] h) (YQ fun δ' p =>
 YP
 (YP (xC1 CmpOp.Eq (aB 2) (YS "span") δ' p.2) fun p =>
 if p.1=true then
 YP
 (YP
 (xb
 (xPl
 (Y2 (xb
 (xPl
 (Y2 (YS "all") (xb (aB 0) fun (x:W) =>
 xb
 (xb (YV 1 1) YU)
 fun (l:Option Int) =>
 xb
 (xb (YV 1 2) YU)
 (YS3 x l))))
 YT) (aB 0)))
 (YT) δ' p.2)
 YW)
 YE
 else some (Fl.nx δ',p.2))
 (YQ fun δ' p =>
 YP
 (YP (xC1 CmpOp.Eq (aB 2) (YS "deal") δ' p.2) fun p =>
 if p.1=true then
 YP (YP (xb (Y2 (aB 0) (YV 1 1)) ((YF d "deal_done")) δ' p.2) YW) YE
 else some (Fl.nx δ',p.2))
 (YQ fun δ' p =>
 YP
 (YP (xC1 CmpOp.Eq (aB 2) (YS "look") δ' p.2) fun p =>
 if p.1=true then
 YP (YP (xb (xPl (Y2 (xb (xb (Y2 (aB 0) (YV 1 1)) (YF d "done")) (YI 0)) (aB 0))) (YT) δ' p.2) YW) YE
 else some (Fl.nx δ',p.2))
 (YQ fun δ' p =>
 YP
 (YP (xC1 CmpOp.Eq (aB 2) (YS "lay") δ' p.2) fun p =>
 if p.1=true then
 YP (YP (xb (xPl (Y2 (xb (xPl (Y1 (YS "done"))) YT) (xb (Y2 (aB 0) (YV 1 1)) (YF d "laid")))) (YT) δ' p.2) YW) YE
 else some (Fl.nx δ',p.2))
 (YQ fun δ' p =>
 YP (YP (xb (Y2 (aB 0) (aB 1)) ((YF d "single_done")) δ' p.2) YW) YE))))))
 (ends h):=by kernel_rfl
noncomputable def cZ (d:Nat) (w0 w1:W) (h:aA):aD T (d+1) "single_done" [w0,w1] h =
 YP
 (YP (aW 2 (YV 1 0) [some w0,some w1,none,none,none] h) (YQ fun δ' p =>
 YP (aW 3 (YV 1 1) δ' p.2) (YQ fun δ' p =>
 YP (aW 4 (xb (aB 0) fun x=>xb (aB 3) (YX x)) δ' p.2) (YQ fun δ' p =>
 YP
 (YP (xC1 CmpOp.Eq (aB 2) (YS "write") δ' p.2) fun p =>
 if p.1=true then
 YP (YP (xb (xPl (Y2 (xb (xPl (Y1 (YS "done"))) YT) (xb (Y3 (aB 0) (aB 3) (YV 1 2)) (YF d "with_value")))) (YT) δ' p.2) YW) YE
 else some (Fl.nx δ',p.2))
 (YQ fun δ' p =>
 YP
 (YP (xC1 CmpOp.Eq (aB 2) (YS "add") δ' p.2) fun p =>
 if p.1=true then
 YP (YP (xb (xPl (Y2 (xb (xPl (Y2 (YS "got") (xb (aB 4) fun u=>xb (YV 1 2) (YO .Add u)))) YT) (xb (Y3 (aB 0) (aB 3) (xb (aB 4) fun u=>xb (YV 1 2) (YO .Add u))) (YF d "with_value")))) (YT) δ' p.2) YW) YE
 else some (Fl.nx δ',p.2))
 (YQ fun δ' p =>
 YP
 (YP (xb (xC1 CmpOp.Eq (aB 2) (YS "swap")) (fun c=>if c=true then xC1 CmpOp.Eq (aB 4) (YV 1 2) else aE false) δ' p.2) fun p =>
 if p.1=true then
 YP (YP (xb (xPl (Y2 (xb (xPl (Y1 (YS "yes"))) YT) (xb (Y3 (aB 0) (aB 3) (YV 1 3)) (YF d "with_value")))) (YT) δ' p.2) YW) YE
 else some (Fl.nx δ',p.2))
 (YQ fun δ' p =>
 YP
 (YP (xC1 CmpOp.Eq (aB 2) (YS "swap") δ' p.2) fun p =>
 if p.1=true then
 YP (YP (xb (xPl (Y2 (xb (xPl (Y1 (YS "no"))) YT) (aB 0))) (YT) δ' p.2) YW) YE
 else some (Fl.nx δ',p.2))
 (YQ fun δ' p =>
 YP (YP (xb (xPl (Y2 (xb (xPl (Y2 (YS "got") (aB 4))) YT) (aB 0))) (YT) δ' p.2) YW) YE))))))))
 (ends h):=by kernel_rfl
noncomputable def wE (d:Nat) (w0 w1:W) (h:aA):aD T (d+1) "deal_done" [w0,w1] h =
 YP
 (YP (aW 2 (cX (xPl (aE []))) [some w0,some w1,none,none,none] h) (YQ fun δ' p =>
 YP
 (YP (cJ (aB 1) δ' p.2) fun (p:(List PyData×Option Nat)×aA) =>
 cW (YG 3)
 (fun (x:DSt) (x_1:aA) =>
 YP (aW 4 (xb (Y2 (aB 0) (aB 3)) (YF d "single_done")) x x_1) (YQ fun δ' p =>
 YP
 (YP
 (xb (aB 2)
 ((YA (Y1 (YV 4 0))))
 δ' p.2)
 fun p=>some (Fl.nx δ',p.2))
 (YQ fun δ' p =>
 YP (aW 0 (YV 4 1) δ' p.2) YE)))
 (Prod.snd p.1) (Prod.fst p.1) (Prod.fst p.1) δ' p.2)
 (YQ fun δ' p =>
 YP (YP (xb (xPl (Y2 (xb (xPl (Y2 (YS "each") (xb (Y1 (aB 2)) (YK cQ)))) YT) (aB 0))) (YT) δ' p.2) YW) YE)))
 (ends h):=by kernel_rfl
noncomputable def cL9 (d:Nat) (w0 w1:W) (h:aA):aD T (d+1) "laid" [w0,w1] h =
 YP
 (YP
 (YP (cJ (aB 1) [some w0,some w1,none,none] h) fun (p:(List PyData×Option Nat)×aA) =>
 cW (jA [YG 2,YG 3])
 (fun (x:DSt) (x_1:aA) =>
 YP (aW 0 (xb (Y3 (aB 0) (aB 2) (aB 3)) (YF d "with_value")) x x_1) YE)
 (Prod.snd p.1) (Prod.fst p.1) (Prod.fst p.1) [some w0,some w1,none,none] p.2)
 (YQ fun δ' p =>
 YP (YP (aB 0 δ' p.2) YW) YE))
 (ends h):=by kernel_rfl
noncomputable def dJ (d:Nat) (w0:W) (h:aA):aD T (d+1) "is_item" [w0] h =
 YP
 (YP
 (YP
 (xb
 (xb
 (xb (xb (Y2 (aB 0) (YJ 3)) (YF d "is_tuple_of")) YD)
 fun (b:Bool)=>aE !b)
 (fun c =>
 if c=true then aE true
 else
 xb
 (xb (xb (Y1 (YV 0 0)) (YF d "is_step")) YD)
 fun (b:Bool)=>aE !b)
 [some w0] h)
 (YT2 false [some w0]))
 (YQ fun δ' p =>
 YP
 (YP
 (xb (xC1 CmpOp.IsNot (YV 0 1) (YZ))
 (fun c =>
 if c=true then
 xb
 (xb (xb (Y2 (YV 0 0) (YV 0 1)) (YF d "is_answer")) YD)
 fun (b:Bool)=>aE !b
 else aE false)
 δ' p.2)
 (YT2 false δ'))
 (YQ fun δ' p =>
 YP
 (YP
 (xb (xb (YV 0 2) (YI2 "str"))
 (fun (w:W) =>
 match w with
         | W.d (PyData.bool true)=>cI (xC1 CmpOp.In (YV 0 2) (aE (W.d (PyData.tuple (List.reverse [PyData.str (Str.ofString "out"),PyData.str (Str.ofString "may"),PyData.str (Str.ofString "must")])))))
         | W.d (PyData.bool false)=>aE (W.d (PyData.bool false))
         | x=>xno)
 δ' p.2)
 YW)
 YE)))
 (ends h):=by kernel_rfl
noncomputable def fS (d:Nat) (w0:W) (h:aA):aD T (d+1) "are_items" [w0] h =
 YP
 (YP
 (YP
 (xb (xb (aB 0) (YI2 "tuple"))
 (fun (w:W) =>
 match w with
     | W.d (PyData.bool true) =>
      xb (cI (xC1 CmpOp.LtE (xb (Y1 (aB 0)) (YK cA)) (YJ 120))) fun (w:W) =>
 match w with
       | W.d (PyData.bool true)=>xb (Y1 (aQ (xb (cJ (aB 0)) fun p δ h=>aV (YG 0) (aE true) (xb (Y1 (aB 0)) (YF d "is_item")) p.2 p.1 p.1 (bS [none] δ) h []))) (YK jW)
       | W.d (PyData.bool false)=>aE (W.d (PyData.bool false))
       | x=>xno
     | W.d (PyData.bool false)=>aE (W.d (PyData.bool false))
     | x=>xno)
 [some w0] h)
 YW)
 YE)
 (ends h):=by kernel_rfl
noncomputable def fZ (d:Nat) (w0 w1:W) (h:aA):aD T (d+1) "are_numbers" [w0,w1] h =
 YP
 (YP (YP (xb (Y1 (aQ (xb (cJ (aB 0)) fun p δ h=>aV (YG 0) (aE true) (xb (Y3 (aB 0) (YJ 0) (xb (aB 1) (YB .Sub 1))) (YF d "is_between")) p.2 p.1 p.1 (bS [none,some 1] δ) h []))) (YK jW) [some w0,some w1] h) YW) YE)
 (ends h):=by kernel_rfl
noncomputable def cG (d:Nat) (w0 w1 w2:W) (h:aA):aD T (d+1) "are_unlike" [w0,w1,w2] h =
 YP
 (YP
 (YP
 (xb (xb (Y2 (aB 0) (aB 1)) (YF d "is_tuple_of"))
 (fun (w:W) =>
 match w with
     | W.d (PyData.bool true) =>
      xb (xb (Y2 (aB 0) (aB 2)) (YF d "are_numbers")) fun (w:W) =>
 match w with
       | W.d (PyData.bool true)=>cI (xC1 CmpOp.Eq (xb (Y1 (aB 0)) fun (ws:List W) (x:DSt) (h:aA)=>xLS ws h) (aB 1))
       | W.d (PyData.bool false)=>aE (W.d (PyData.bool false))
       | x=>xno
     | W.d (PyData.bool false)=>aE (W.d (PyData.bool false))
     | x=>xno)
 [some w0,some w1,some w2] h)
 YW)
 YE)
 (ends h):=by kernel_rfl
noncomputable def fT (d:Nat) (w0 w1:W) (h:aA):aD T (d+1) "are_pairs" [w0,w1] h =
 YP
 (YP
 (YP
 (xb
 (xb
 (xb (xb (aB 0) (YI2 "tuple")) YD)
 fun (b:Bool)=>aE !b)
 (fun c=>if c=true then aE true else xC1 CmpOp.Gt (xb (Y1 (aB 0)) (YK cA)) (YJ 4000)) [some w0,some w1] h)
 (YT2 false [some w0,some w1]))
 (YQ fun δ' p =>
 YP (YP (xb (Y1 (aQ (xb (cJ (aB 0)) fun p δ h=>aV (YG 0) (aE true) (xb (Y3 (aB 0) (YJ 2) (aB 1)) (YF d "are_unlike")) p.2 p.1 p.1 (bS [none,some 1] δ) h []))) (YK jW) δ' p.2) YW) YE))
 (ends h):=by kernel_rfl
noncomputable def dA (d:Nat) (w0 w1:W) (h:aA):aD T (d+1) "are_triples" [w0,w1] h =
 YP
 (YP
 (YP
 (xb
 (xb
 (xb (xb (aB 0) (YI2 "tuple")) YD)
 fun (b:Bool)=>aE !b)
 (fun c=>if c=true then aE true else xC1 CmpOp.Gt (xb (Y1 (aB 0)) (YK cA)) (YJ 4000)) [some w0,some w1] h)
 (YT2 false [some w0,some w1]))
 (YQ fun δ' p =>
 YP
 (YP
 (xb
 (xb (xb (Y1 (aQ (xb (cJ (aB 0)) fun p δ h=>aV (YG 0) (aE true) (xb (Y3 (aB 0) (YJ 3) (xb (Y1 (aB 1)) (YK cA))) (YF d "are_unlike")) p.2 p.1 p.1 (bS [none,some 1] δ) h []))) (YK jW)) YD)
 (fun (b:Bool)=>aE !b) δ' p.2)
 (YT2 false δ'))
 (YQ fun δ' p =>
 YP
 (YP
 (xb
 (Y1 (aQ
 (xb (cJ (aB 0)) fun p δ h =>
 aV (jA [YG 0,YG 1,YG 2]) (aE true)
 (xb (cI (xC1 CmpOp.Eq (xb (xb (aB 3) fun x=>xb (aB 0) (YX x)) (YI 2)) (YS "must"))) fun (w:W) =>
 match w with
             | W.d (PyData.bool true)=>cI (xC1 CmpOp.Eq (xb (xb (aB 3) fun x=>xb (aB 1) (YX x)) (YI 2)) (YS "must"))
             | W.d (PyData.bool false)=>aE (W.d (PyData.bool false))
             | x=>xno)
 p.2 p.1 p.1 (bS [none,none,none,some 1] δ) h [])))
 (YK jW) δ' p.2)
 YW)
 YE)))
 (ends h):=by kernel_rfl
noncomputable def bY (d:Nat) (w0:W) (h:aA):aD T (d+1) "is_problem" [w0] h =
 YP
 (YP
 (YP
 (xb
 (xb
 (xb (xb (Y2 (aB 0) (YJ 4)) (YF d "is_tuple_of")) YD)
 fun (b:Bool)=>aE !b)
 (fun c =>
 if c=true then aE true
 else
 xb
 (xb
 (xb (xb (Y1 (YV 0 0)) (YF d "is_stand")) YD)
 fun (b:Bool)=>aE !b)
 fun c =>
 if c=true then aE true
 else
 xb
 (xb (xb (Y1 (YV 0 1)) (YF d "are_items")) YD)
 fun (b:Bool)=>aE !b)
 [some w0] h)
 (YT2 false [some w0]))
 (YQ fun δ' p =>
 YP
 (YP
 (xb (xb (Y2 (YV 0 2) (xb (Y1 (YV 0 1)) (YK cA))) (YF d "are_pairs"))
 (fun (w:W) =>
 match w with
       | W.d (PyData.bool true)=>xb (Y2 (YV 0 3) (YV 0 1)) (YF d "are_triples")
       | W.d (PyData.bool false)=>aE (W.d (PyData.bool false))
       | x=>xno)
 δ' p.2)
 YW)
 YE))
 (ends h):=by kernel_rfl
noncomputable def iM (d:Nat) (w0 w1:W) (h:aA):aD T (d+1) "_law_cell_at" [w0,w1] h =
 YP
 (YP
 (YP (xC1 CmpOp.Lt (aB 1) (xb (Y1 (aB 0)) (YK cA)) [some w0,some w1] h) fun p =>
 if p.1=true then
 YP (YP (xb (aB 0) (fun x=>xb (aB 1) (YX x)) [some w0,some w1] p.2) YW) YE
 else some (Fl.nx [some w0,some w1],p.2))
 (YQ fun δ' p =>
 YP (YP (YJ 0 δ' p.2) YW) YE))
 (ends h):=by kernel_rfl
noncomputable def kE (d:Nat) (w0 w1:W) (h:aA):aD T (d+1) "_law_digit" [w0,w1] h =
 YP
 (YP
 (YP (xC1 CmpOp.Eq (xb (Y1 (aB 0)) (YK cA)) (YJ 1) [some w0,some w1,none,none] h) fun p =>
 if p.1=true then
 YP
 (YP
 (xb (aB 0)
 (fun (w:W) (δ:DSt) (h:aA) =>
 match w with
        | W.c j =>
         match h[j]? with
         | some (Cell.l xs) =>
          YP (xPl (Y2 (xb (YV 0 0) (YB .Mod 2147483647)) (YJ 0)) δ h) fun (p:List PyData×aA) =>
 match p.2[j]? with
           | some (Cell.l xs)=>if List.length xs+List.length p.1<=sizeLine then some (W.d PyData.none,List.set p.2 j (Cell.l (xs++p.1))) else none
           | x=>none
         | x=>none
        | x=>none)
 [some w0,some w1,none,none] p.2)
 fun p=>some (Fl.nx [some w0,some w1,none,none],p.2))
 YE
 else some (Fl.nx [some w0,some w1,none,none],p.2))
 (YQ fun δ' p =>
 YP
 (YP (xC1 CmpOp.Gt (YV 0 0) (YJ 0) δ' p.2) fun p =>
 if p.1=true then
 YP (aW 2 (xb (YV 0 0) fun u=>xb (aB 1) (YO .Mod u)) δ' p.2) (YQ fun δ' p =>
 YP
 (YP (xb (YV 0 0) (fun u=>xb (aB 1) (YO .FloorDiv u)) δ' p.2) fun p =>
 YP
 (YP (aB 0 δ' p.2) fun (p_1:W×aA) =>
 YP (YJ 0 δ' (p_1.2)) fun (q:W×aA) =>
 match p_1.1,q.1,p.1 with
             | W.c j,W.d y,W.d x =>
              match (q.2)[j]?,y with
              | some (Cell.l xs),PyData.int k=>Option.map (fun (n:Nat)=>(δ',List.set (q.2) j (Cell.l (List.set xs n x)))) (L2.ixN (List.length xs) k)
              | some (Cell.k kvs),x_1=>if Option.isSome (bF y)=true/\List.length kvs < sizeLine then some (δ',List.set (q.2) j (Cell.k (sV kvs y x))) else none
              | x,x_1=>none
             | x,x_1,x_2=>none)
 fun (q:DSt×aA)=>some (Fl.nx (q.1),q.2))
 (YQ fun δ' p =>
 YP (YP (aB 2 δ' p.2) YW) YE))
 else some (Fl.nx δ',p.2))
 (YQ fun δ' p =>
 YP
 (YP (xb (YV 0 2) ((YB .Add 1)) δ' p.2) fun p =>
 YP
 (YP (aB 0 δ' p.2) fun (p_1:W×aA) =>
 YP (YJ 2 δ' (p_1.2)) fun (q:W×aA) =>
 match p_1.1,q.1,p.1 with
          | W.c j,W.d y,W.d x =>
           match (q.2)[j]?,y with
           | some (Cell.l xs),PyData.int k=>Option.map (fun (n:Nat)=>(δ',List.set (q.2) j (Cell.l (List.set xs n x)))) (L2.ixN (List.length xs) k)
           | some (Cell.k kvs),x_1=>if Option.isSome (bF y)=true/\List.length kvs < sizeLine then some (δ',List.set (q.2) j (Cell.k (sV kvs y x))) else none
           | x,x_1=>none
          | x,x_1,x_2=>none)
 fun (q:DSt×aA)=>some (Fl.nx (q.1),q.2))
 (YQ fun δ' p =>
 YP (aW 3 (xb (xb (xb (xb (YV 0 1) fun u=>xb (xb (YJ 7919) fun u=>xb (YV 0 2) (YO .Mult u)) (YO .Add u)) (YB .Add 1)) (YB .Mult 48271)) (YB .Mod 2147483647)) δ' p.2) (YQ fun δ' p =>
 YP (aW 3 (xb (xb (aB 3) fun u=>xb (xb (xb (aB 3) (YB .FloorDiv 1009)) (YB .Add 69621)) (YO .Mult u)) (YB .Mod 2147483647)) δ' p.2) (YQ fun δ' p =>
 YP (YP (xb (xb (xb (aB 3) fun u=>xb (xb (xb (aB 3) (YB .FloorDiv 2003)) (YB .Add 40692)) (YO .Mult u)) (YB .Mod 2147483399)) (fun u=>xb (aB 1) (YO .Mod u)) δ' p.2) YW) YE))))))
 (ends h):=by kernel_rfl
noncomputable def gR (d:Nat) (w0:W) (h:aA):aD T (d+1) "_law_value" [w0] h =
 YP
 (YP (YP (xb (aQ (xPl (Y3 (xb (Y2 (aB 0) (YJ 3)) (YF d "_law_digit")) (xb (xb (Y2 (aB 0) (YJ 2)) (YF d "_law_digit")) (YB .Sub 1)) (xb (Y2 (aB 0) (xb (YJ 10) (YB .Pow 12))) (YF d "_law_digit"))))) (fun x=>xb (xb (xb (Y2 (aB 0) (YJ 8)) (YF d "_law_digit")) (YB .FloorDiv 3)) (YX x)) [some w0] h) YW) YE)
 (ends h):=by kernel_rfl
noncomputable def cB (d:Nat) (w0:W) (h:aA):aD T (d+1) "_law_plain_call" [w0] h =
 YP
 (YP (aW 1 (xb (Y2 (aB 0) (YJ 4)) (YF d "_law_digit")) [some w0,none,none] h) (YQ fun δ' p =>
 YP (aW 2 (xb (aQ (xPl (Y2 (xb (Y2 (aB 0) (YJ 2)) (YF d "_law_digit")) (xb (Y2 (aB 0) (YJ 8)) (YF d "_law_digit"))))) fun x=>xb (xb (xb (Y2 (aB 0) (YJ 4)) (YF d "_law_digit")) (YB .FloorDiv 3)) (YX x)) δ' p.2) (YQ fun δ' p =>
 YP
 (YP (xC1 CmpOp.Eq (aB 1) (YJ 0) δ' p.2) fun p =>
 if p.1=true then
 YP (YP (xb (xPl (Y2 (YS "read") (aB 2))) (YT) δ' p.2) YW) YE
 else some (Fl.nx δ',p.2))
 (YQ fun δ' p =>
 YP
 (YP (xC1 CmpOp.Eq (aB 1) (YJ 1) δ' p.2) fun p =>
 if p.1=true then
 YP (YP (xb (xPl (Y3 (YS "write") (aB 2) (xb (Y1 (aB 0)) (YF d "_law_value")))) (YT) δ' p.2) YW) YE
 else some (Fl.nx δ',p.2))
 (YQ fun δ' p =>
 YP
 (YP (xC1 CmpOp.Eq (aB 1) (YJ 2) δ' p.2) fun p =>
 if p.1=true then
 YP (YP (xb (xPl (Y3 (YS "add") (aB 2) (xb (Y1 (aB 0)) (YF d "_law_value")))) (YT) δ' p.2) YW) YE
 else some (Fl.nx δ',p.2))
 (YQ fun δ' p =>
 YP (YP (xb (xPl (Y4 (YS "swap") (aB 2) (xb (Y1 (aB 0)) (YF d "_law_value")) (xb (Y1 (aB 0)) (YF d "_law_value")))) (YT) δ' p.2) YW) YE))))))
 (ends h):=by kernel_rfl
noncomputable def bV (d:Nat) (w0:W) (h:aA):aD T (d+1) "_law_step" [w0] h =
 YP
 (YP (aW 1 (xb (Y2 (aB 0) (YJ 9)) (YF d "_law_digit")) [some w0,none,none,none,none] h) (YQ fun δ' p =>
   YP
    (YP (xC1 CmpOp.Lt (aB 1) (YJ 5) δ' p.2) fun p =>
     if p.1=true then
      YP (YP (xb (Y1 (aB 0)) ((YF d "_law_plain_call")) δ' p.2) YW) YE
     else some (Fl.nx δ',p.2))
    (YQ fun δ' p =>
     YP
      (YP (xC1 CmpOp.Eq (aB 1) (YJ 5) δ' p.2) fun p =>
       if p.1=true then
        YP (aW 2 (xb (Y2 (aB 0) (YJ 8)) (YF d "_law_digit")) δ' p.2) (YQ fun δ' p =>
          YP (YP (xb (xPl (Y3 (YS "span") (aB 2) (xb (xb (aB 2) (YB .Add 1)) fun u=>xb (xb (Y2 (aB 0) (xb (YJ 8) fun u=>xb (aB 2) (YO .Sub u))) (YF d "_law_digit")) (YO .Add u)))) (YT) δ' p.2) YW) YE)
       else some (Fl.nx δ',p.2))
      (YQ fun δ' p =>
       YP
        (YP (xC1 CmpOp.Eq (aB 1) (YJ 6) δ' p.2) fun p =>
         if p.1=true then
          YP
           (YP
            (xb
             (xPl
              (Y2 (YS "deal") (xb
                  (Y1 (aQ
                    (xb
                     (xb (xb (YJ 1) fun u=>xb (xb (Y2 (aB 0) (YJ 4)) (YF d "_law_digit")) (YO .Add u)) YR)
                     fun p δ h=>aV (YG 0) (aE true) (xb (Y1 (aB 1)) (YF d "_law_plain_call")) p.2 p.1 p.1 (bS [none,some 0] δ) h [])))
                  (YK cQ))))
             (YT) δ' p.2)
            YW)
           YE
         else some (Fl.nx δ',p.2))
        (YQ fun δ' p =>
         YP
          (YP (xC1 CmpOp.Eq (aB 1) (YJ 7) δ' p.2) fun p =>
           if p.1=true then
            YP (aW 2 (xb (Y2 (aB 0) (YJ 8)) (YF d "_law_digit")) δ' p.2) (YQ fun δ' p =>
              YP (aW 3 (aQ (xPl (Y3 (xb (Y1 (aB 0)) (YF d "_law_plain_call")) (xb (xPl (Y3 (YS "span") (aB 2) (YJ 8))) YT) (xb (xPl (Y2 (YS "deal") (xb (xPl (Y2 (xb (Y1 (aB 0)) (YF d "_law_plain_call")) (xb (Y1 (aB 0)) (YF d "_law_plain_call")))) YT))) YT)))) δ' p.2) (YQ fun δ' p =>
                YP (YP (xb (xPl (Y2 (YS "look") (xb (aB 3) fun x=>xb (xb (Y2 (aB 0) (YJ 3)) (YF d "_law_digit")) (YX x)))) (YT) δ' p.2) YW) YE))
           else some (Fl.nx δ',p.2))
          (YQ fun δ' p =>
           YP
            (aW 4
             (aQ
              (xb
               (xb (YJ 8) YR)
               fun p δ h=>aV (YG 0) (xC1 CmpOp.Eq (xb (Y2 (aB 1) (YJ 3)) (YF d "_law_digit")) (YJ 0)) (xb (xPl (Y2 (aB 0) (xb (Y1 (aB 1)) (YF d "_law_value")))) YT) p.2 p.1 p.1 (bS [none,some 0] δ) h []))
             δ' p.2)
            (YQ fun δ' p =>
             YP
              (YP
               (xb
                (xPl
                 (Y2 (YS "lay") (xb
                     (Y1 (xb (aB 4) fun (u:W) =>
                       xb
                        (xb (aQ (xPl (Y1 (xb (xPl (Y2 (YJ 7) (xb (Y1 (aB 0)) (YF d "_law_value")))) YT)))) fun (x:W) =>
                         xb
                          (xb
                           (xb
                            (Y1 (xb (cI (xC1 CmpOp.NotEq (aB 4) (aQ (xPl (aE []))))) fun (w:W) =>
                              match w with
                              | W.d (PyData.bool true) =>
                               cI
                                (xC1 CmpOp.Eq
                                 (xb
                                  (xb (aB 4) fun (x:W) =>
                                   xb
                                    (xb (YJ 1) YNg)
                                    (YX x))
                                  (YI 0))
                                 (YJ 7))
                              | W.d (PyData.bool false)=>aE (W.d (PyData.bool false))
                              | x=>xno))
                            fun (ws:List W) (x:DSt) (h:aA)=>aS4 ws h)
                           YU)
                          fun (l:Option Int)=>xb (aE none) (YS3 x l))
                        (YO .Add u)))
                     (YK cQ))))
                (YT) δ' p.2)
               YW)
              YE)))))))
 (ends h):=by kernel_rfl
noncomputable def fN (d:Nat) (w0:W) (h:aA):aD T (d+1) "_law_altered" [w0] h =
 YP
 (YP
 (YP (xC1 CmpOp.Eq (YV 0 0) (YS "got") [some w0] h) fun p =>
 if p.1=true then
 YP (YP (xb (xPl (Y2 (YS "got") (xb (YV 0 1) (YB .Add 1)))) (YT) [some w0] p.2) YW) YE
 else some (Fl.nx [some w0],p.2))
 (YQ fun δ' p =>
 YP
 (YP (xC1 CmpOp.Eq (YV 0 0) (YS "yes") δ' p.2) fun p =>
 if p.1=true then
 YP (YP (xb (xPl (Y1 (YS "no"))) (YT) δ' p.2) YW) YE
 else some (Fl.nx δ',p.2))
 (YQ fun δ' p =>
 YP
 (YP (xC1 CmpOp.Eq (YV 0 0) (YS "no") δ' p.2) fun p =>
 if p.1=true then
 YP (YP (xb (xPl (Y1 (YS "yes"))) (YT) δ' p.2) YW) YE
 else some (Fl.nx δ',p.2))
 (YQ fun δ' p =>
 YP
 (YP (xC1 CmpOp.Eq (YV 0 0) (YS "all") δ' p.2) fun p =>
 if p.1=true then
 YP
 (YP
 (xb
 (xPl
 (Y2 (YS "all") (xb (xb (xPl (Y1 (xb (xb (YV 0 1) (YI 0)) (YB .Sub 1)))) YT) fun (u:W) =>
 xb
 (xb (YV 0 1) fun (x:W) =>
 xb
 (xb (YJ 1) YU)
 fun (l:Option Int)=>xb (aE none) (YS3 x l))
 (YO .Add u))))
 (YT) δ' p.2)
 YW)
 YE
 else some (Fl.nx δ',p.2))
 (YQ fun δ' p =>
 YP
 (YP (xC1 CmpOp.Eq (YV 0 0) (YS "each") δ' p.2) fun p =>
 if p.1=true then
 YP (YP (xb (xPl (Y2 (YS "each") (xb (Y1 (aQ (xb (cJ (YV 0 1)) fun p δ h=>aV (YG 0) (aE true) (xb (Y1 (aB 0)) (YF d "_law_altered")) p.2 p.1 p.1 (bS [none] δ) h []))) (YK cQ)))) (YT) δ' p.2) YW) YE
 else some (Fl.nx δ',p.2))
 (YQ fun δ' p =>
 YP (YP (aB 0 δ' p.2) YW) YE))))))
 (ends h):=by kernel_rfl
noncomputable def tP (d:Nat) (w0 w1 w2:W) (h:aA):aD T (d+1) "_law_items" [w0,w1,w2] h =
 YP
 (YP (aW 3 (aB 1) [some w0,some w1,some w2,none,none,none,none,none,none,none,none] h) (YQ fun δ' p =>
 YP
 (aW 4
 (cX
 (xb (Y1 (aB 2)) fun (ws:List W) (x:DSt) (h:aA) =>
 match ws with
       | [W.d (PyData.int j)]=>if -2^62<=j/\j < 2^62/\j<=16000000 then some (rng 0 (Int.toNat j),h) else none
       | x=>none))
 δ' p.2)
 (YQ fun δ' p =>
 YP (aW 5 aT7 δ' p.2) (YQ fun δ' p =>
 YP
 (YP
 (xb (aB 2)
 (YR)
 δ' p.2)
 fun (p:(List PyData×Option Nat)×aA) =>
 cW (YG 6)
 (fun (x:DSt) (x_1:aA) =>
 YP (aW 7 (xb (Y1 (aB 0)) (YF d "_law_step")) x x_1) (YQ fun δ' p =>
 YP (YP (xb (Y2 (aB 3) (aB 7)) ((YF d "done")) δ' p.2) fun p=>YP (jA [YG 8,YG 3] p.1 δ' p.2) fun (q:DSt×aA)=>some (Fl.nx (q.1),q.2)) (YQ fun δ' p =>
 YP (aW 9 (xb (Y2 (aB 0) (YJ 7)) (YF d "_law_digit")) δ' p.2) (YQ fun δ' p =>
 YP
 (YP (xC1 CmpOp.Eq (aB 9) (YJ 0) δ' p.2) fun p =>
 if p.1=true then
 YP (aW 8 (YZ) δ' p.2) YE
 else some (Fl.nx δ',p.2))
 (YQ fun δ' p =>
 YP
 (YP (xC1 CmpOp.Eq (aB 9) (YJ 1) δ' p.2) fun p =>
 if p.1=true then
 YP (aW 8 (xb (Y1 (aB 8)) (YF d "_law_altered")) δ' p.2) YE
 else some (Fl.nx δ',p.2))
 (YQ fun δ' p =>
 YP
 (YP (xb (xC1 CmpOp.Eq (aB 9) (YJ 2)) (fun c=>if c=true then xb (xC1 CmpOp.NotEq (YV 7 0) (YS "look")) fun c=>if c=true then xb (xC1 CmpOp.NotEq (YV 7 0) (YS "lay")) fun c=>if c=true then xC1 CmpOp.Eq (xb (Y2 (aB 0) (YJ 4)) (YF d "_law_digit")) (YJ 0) else aE false else aE false else aE false) δ' p.2) fun p =>
 if p.1=true then
 YP (aW 8 (xb (xPl (Y1 (YS "refused"))) YT) δ' p.2) YE
 else some (Fl.nx δ',p.2))
 (YQ fun δ' p =>
 YP (aW 10 (xb (aQ (xPl (Y7 (YS "must") (YS "must") (YS "must") (YS "must") (YS "may") (YS "may") (YS "out")))) fun x=>xb (xb (Y2 (aB 0) (YJ 7)) (YF d "_law_digit")) (YX x)) δ' p.2) (YQ fun δ' p =>
 YP
 (YP (xb (xPl (Y3 (aB 7) (aB 8) (aB 10))) (YT) δ' p.2) fun p =>
 YP
 (YP (aB 5 δ' p.2) fun (p_1:W×aA) =>
 YP
 (xb (aB 4)
 (fun (w:W) (δ:DSt) (h:aA) =>
 match w with
                                | W.c j =>
                                 match h[j]? with
                                 | some (Cell.l xs)=>YP (Y1 (xb (Y2 (aB 0) (xb (Y1 (aB 4)) (YK cA))) (YF d "_law_digit")) δ h) fun (p:List W×aA)=>aT3 j p.1 p.2
                                 | x=>none
                                | x=>none)
 δ' (p_1.2))
 fun (q:W×aA) =>
 match p_1.1,q.1,p.1 with
                              | W.c j,W.d y,W.d x =>
                               match (q.2)[j]?,y with
                               | some (Cell.l xs),PyData.int k=>Option.map (fun (n:Nat)=>(δ',List.set (q.2) j (Cell.l (List.set xs n x)))) (L2.ixN (List.length xs) k)
                               | some (Cell.k kvs),x_2=>if Option.isSome (bF y)=true/\List.length kvs < sizeLine then some (δ',List.set (q.2) j (Cell.k (sV kvs y x))) else none
                               | x,x_2=>none
                              | x,x_2,x_3=>none)
 fun (q:DSt×aA)=>some (Fl.nx (q.1),q.2))
 YE))))))))
 (Prod.snd p.1) (Prod.fst p.1) (Prod.fst p.1) δ' p.2)
 (YQ fun δ' p =>
 YP
 (YP
 (xb
 (Y1 (aQ
 (xb
 (xb (aB 2) YR)
 fun p δ h=>aV (YG 0) (aE true) (xb (aB 1) fun x=>xb (aB 0) (YX x)) p.2 p.1 p.1 (bS [none,some 5] δ) h [])))
 (YK cQ) δ' p.2)
 YW)
 YE)))))
 (ends h):=by kernel_rfl
noncomputable def tQ (d:Nat) (w0 w1:W) (h:aA):aD T (d+1) "_law_pairs" [w0,w1] h =
 YP
 (YP (aW 2 (cX (xPl (aE []))) [some w0,some w1,none,none,none] h) (YQ fun δ' p =>
 YP
 (YP
 (xb (xb (Y2 (aB 0) (YJ 5)) (YF d "_law_digit"))
 (YR)
 δ' p.2)
 fun (p:(List PyData×Option Nat)×aA) =>
 cW (YG 3)
 (fun (x:DSt) (x_1:aA) =>
 YP
 (YP (xC1 CmpOp.Gt (aB 1) (YJ 1) x x_1) fun p =>
 if p.1=true then
 YP (aW 4 (xb (Y2 (aB 0) (aB 1)) (YF d "_law_digit")) x p.2) (YQ fun δ' p =>
 YP
 (YP
 (xb (aB 2)
 ((YA (Y1 (xb (xPl (Y2 (aB 4) (xb (xb (xb (aB 4) (YB .Add 1)) fun u=>xb (xb (Y2 (aB 0) (xb (aB 1) (YB .Sub 1))) (YF d "_law_digit")) (YO .Add u)) fun u=>xb (aB 1) (YO .Mod u)))) YT))))
 δ' p.2)
 fun p=>some (Fl.nx δ',p.2))
 YE)
 else some (Fl.nx x,p.2))
 YE)
 (Prod.snd p.1) (Prod.fst p.1) (Prod.fst p.1) δ' p.2)
 (YQ fun δ' p =>
 YP (YP (xb (Y1 (aB 2)) (YK cQ) δ' p.2) YW) YE)))
 (ends h):=by kernel_rfl
noncomputable def oT (d:Nat) (w0 w1:W) (h:aA):aD T (d+1) "_law_triples" [w0,w1] h =
 YP
 (YP
 (aW 3
 (aQ
 (xb
 (xb (xb (Y1 (aB 1)) (YK cA)) YR)
 fun p δ h=>aV (YG 0) (xC1 CmpOp.Eq (xb (xb (aB 1) fun x=>xb (aB 0) (YX x)) (YI 2)) (YS "must")) (aB 0) p.2 p.1 p.1 (bS [none,some 1] δ) h []))
 [some w0,some w1,none,none,none,none,none,none] h)
 (YQ fun δ' p =>
 YP (aW 4 (cX (xPl (aE []))) δ' p.2) (YQ fun δ' p =>
 YP
 (YP
 (xb (xb (Y2 (aB 0) (YJ 4)) (YF d "_law_digit"))
 (YR)
 δ' p.2)
 fun (p:(List PyData×Option Nat)×aA) =>
 cW (YG 5)
 (fun (x:DSt) (x_1:aA) =>
 YP
 (YP (xb (xC1 CmpOp.Gt (xb (Y1 (aB 3)) (YK cA)) (YJ 1)) (fun c=>if c=true then xC1 CmpOp.Gt (xb (Y1 (aB 1)) (YK cA)) (YJ 2) else aE false) x x_1) fun p =>
 if p.1=true then
 YP (aW 2 (xb (Y2 (aB 0) (xb (Y1 (aB 3)) (YK cA))) (YF d "_law_digit")) x p.2) (YQ fun δ' p =>
 YP (aW 6 (xb (xb (xb (aB 2) (YB .Add 1)) fun u=>xb (xb (Y2 (aB 0) (xb (xb (Y1 (aB 3)) (YK cA)) (YB .Sub 1))) (YF d "_law_digit")) (YO .Add u)) fun u=>xb (xb (Y1 (aB 3)) (YK cA)) (YO .Mod u)) δ' p.2) (YQ fun δ' p =>
 YP
 (aW 7
 (aQ
 (xb
 (xb (xb (Y1 (aB 1)) (YK cA)) YR)
 fun p δ h=>aV (YG 0) (xb (xC1 CmpOp.NotEq (aB 0) (xb (aB 1) fun x=>xb (aB 2) (YX x))) fun c=>if c=true then xC1 CmpOp.NotEq (aB 0) (xb (aB 1) fun x=>xb (aB 3) (YX x)) else aE false) (aB 0) p.2 p.1 p.1 (bS [none,some 3,some 2,some 6] δ) h []))
 δ' p.2)
 (YQ fun δ' p =>
 YP
 (YP
 (xb (aB 4)
 ((YA (Y1 (xb (xPl (Y3 (xb (aB 3) fun x=>xb (aB 2) (YX x)) (xb (aB 3) fun x=>xb (aB 6) (YX x)) (xb (aB 7) fun x=>xb (xb (Y2 (aB 0) (xb (Y1 (aB 7)) (YK cA))) (YF d "_law_digit")) (YX x)))) YT))))
 δ' p.2)
 fun p=>some (Fl.nx δ',p.2))
 YE)))
 else some (Fl.nx x,p.2))
 YE)
 (Prod.snd p.1) (Prod.fst p.1) (Prod.fst p.1) δ' p.2)
 (YQ fun δ' p =>
 YP (YP (xb (Y1 (aB 4)) (YK cQ) δ' p.2) YW) YE))))
 (ends h):=by kernel_rfl
noncomputable def oU (d:Nat) (w0 w1:W) (h:aA):aD T (d+1) "_law_problem" [w0,w1] h =
 YP
 (YP (aW 2 (cX (xPl (Y1 (aB 0)))) [some w0,some w1,none,none,none,none] h) (YQ fun δ' p =>
 YP (aW 3 (xb (Y2 (aB 2) (xb (aB 1) (YB .Add 1))) (YF d "_law_digit")) δ' p.2) (YQ fun δ' p =>
 YP (aW 4 (aE (W.d (PyData.tuple (List.reverse [PyData.int 0,PyData.int 0,PyData.int 0,PyData.int 0,PyData.int 0,PyData.int 0,PyData.int 0,PyData.int 0])))) δ' p.2) (YQ fun δ' p =>
 YP
 (YP (xC1 CmpOp.Eq (xb (Y2 (aB 2) (YJ 3)) (YF d "_law_digit")) (YJ 0) δ' p.2) fun p =>
 if p.1=true then
 YP
 (aW 4
 (xb
 (Y1 (aQ
 (xb
 (xb (YJ 8) YR)
 fun p δ h=>aV (YG 0) (aE true) (xb (Y1 (aB 1)) (YF d "_law_value")) p.2 p.1 p.1 (bS [none,some 2] δ) h [])))
 (YK cQ))
 δ' p.2)
 YE
 else some (Fl.nx δ',p.2))
 (YQ fun δ' p =>
 YP (aW 5 (xb (Y3 (aB 2) (aB 4) (aB 3)) (YF d "_law_items")) δ' p.2) (YQ fun δ' p =>
 YP (YP (xb (xPl (Y4 (aB 4) (aB 5) (xb (Y2 (aB 2) (aB 3)) (YF d "_law_pairs")) (xb (Y2 (aB 2) (aB 5)) (YF d "_law_triples")))) (YT) δ' p.2) YW) YE))))))
 (ends h):=by kernel_rfl
noncomputable def lE (d:Nat) (h:aA):aD T (d+1) "_law_bad_items" [] h =
 YP
 (YP (aW 0 (xb (xPl (Y2 (YS "read") (YJ 0))) YT) [none,none] h) (YQ fun δ' p =>
 YP (aW 1 (aQ (xPl (Y5 (xb (xPl (Y2 (aB 0) (YZ))) YT) (xb (xPl (Y4 (aB 0) (YZ) (YS "must") (YJ 0))) YT) (aQ (xPl (Y3 (aB 0) (YZ) (YS "must")))) (xb (xPl (Y3 (xb (xPl (Y2 (YS "read") (YJ 8))) YT) (YZ) (YS "must"))) YT) (YJ 5)))) δ' p.2) (YQ fun δ' p =>
 YP (aW 1 (xb (aB 1) fun u=>xb (aQ (xPl (Y4 (xb (xPl (Y3 (aB 0) (xb (xPl (Y1 (YS "done"))) YT) (YS "must"))) YT) (xb (xPl (Y3 (aB 0) (xb (xPl (Y2 (YS "got") (aE (W.d (PyData.bool true))))) YT) (YS "may"))) YT) (xb (xPl (Y3 (aB 0) (YZ) (YS "Must"))) YT) (xb (xPl (Y3 (aB 0) (YZ) (YZ))) YT)))) (YO .Add u)) δ' p.2) (YQ fun δ' p =>
 YP (aW 1 (xb (aB 1) fun u=>xb (aQ (xPl (Y3 (xb (xPl (Y3 (xb (xPl (Y2 (YS "lay") (xb (xPl (aE [])) YT))) YT) (YZ) (YS "must"))) YT) (xb (xPl (Y3 (xb (xPl (Y2 (YS "look") (xb (xPl (Y2 (YS "look") (aB 0))) YT))) YT) (YZ) (YS "must"))) YT) (xb (xPl (Y3 (xb (xPl (Y2 (YS "deal") (xb (xPl (aE [])) YT))) YT) (YZ) (YS "may"))) YT)))) (YO .Add u)) δ' p.2) (YQ fun δ' p =>
 YP (aW 1 (xb (aB 1) fun u=>xb (aQ (xPl (Y4 (xb (xPl (Y3 (aB 0) (YZ) (YS ""))) YT) (xb (xPl (Y3 (aB 0) (YZ) (YS "mus"))) YT) (xb (xPl (Y3 (aB 0) (YZ) (YS "musts"))) YT) (xb (xPl (Y3 (aB 0) (YZ) (YS "may out"))) YT)))) (YO .Add u)) δ' p.2) (YQ fun δ' p =>
 YP (YP (xb (aB 1) (fun u=>xb (aQ (xPl (Y3 (xb (xPl (Y3 (xb (xPl (Y2 (YS "look") (aB 0))) YT) (xb (xPl (Y1 (YS "refused"))) YT) (YS "must"))) YT) (xb (xPl (Y3 (xb (xPl (Y3 (YS "span") (YJ 3) (YJ 3))) YT) (YZ) (YS "out"))) YT) (xb (xPl (Y3 (xb (xPl (aE [])) YT) (YZ) (YS "must"))) YT)))) (YO .Add u)) δ' p.2) YW) YE))))))
 (ends h):=by kernel_rfl
noncomputable def yH (d:Nat) (w0:W) (h:aA):aD T (d+1) "_law_bad" [w0] h =
 YP
 (YP (YP (aB 0 [some w0,none,none,none,none,none,none,none,none,none,none,none,none,none,none,none] h) fun p=>YP (jA [YG 1,YG 2,YG 3,YG 4] p.1 [some w0,none,none,none,none,none,none,none,none,none,none,none,none,none,none,none] p.2) fun (q:DSt×aA)=>some (Fl.nx (q.1),q.2)) (YQ fun δ' p =>
 YP (aW 5 (xb (Y1 (aB 2)) (YK cA)) δ' p.2) (YQ fun δ' p =>
 YP
 (aW 6
 (cX
 (xPl
 (Y6 (xb (aB 0) fun (x:W) =>
 xb (aE none) fun (l:Option Int) =>
 xb
 (xb (YJ 3) YU)
 (YS3 x l)) (xb (aB 0) fun u=>xb (xb (xPl (Y1 (xb (xPl (aE [])) YT))) YT) (YO .Add u)) (aQ
 (xb (Y1 (aB 0)) fun (ws:List W) (x:DSt) (h:aA) =>
 match ws with
                | [w] =>
                 match ref h w with
                 | some (PyData.list xs)=>some (xs,h)
                 | some (PyData.tuple xs)=>some (xs,h)
                 | x=>none
                | x=>none)) (YZ) (YJ 7) (YS "problem"))))
 δ' p.2)
 (YQ fun δ' p =>
 YP
 (aW 6
 (cX
 (xb (aB 6) fun (u:W) =>
 xb
 (aQ
 (xPl
 (Y2 (xb
 (xPl
 (Y4 (xb (aB 1) fun (x:W) =>
 xb (aE none) fun (l:Option Int) =>
 xb
 (xb (YJ 7) YU)
 (YS3 x l)) (aB 2) (aB 3) (aB 4)))
 YT) (xb
 (xPl
 (Y4 (aQ
 (xb (Y1 (aB 1)) fun (ws:List W) (x:DSt) (h:aA) =>
 match ws with
                      | [w] =>
                       match ref h w with
                       | some (PyData.list xs)=>some (xs,h)
                       | some (PyData.tuple xs)=>some (xs,h)
                       | x=>none
                      | x=>none)) (aB 2) (aB 3) (aB 4)))
 YT))))
 fun (w:W) (x:DSt) (h:aA) =>
 match ref h u,ref h w with
            | some (PyData.list xs),some (PyData.list ys)=>if List.length xs+List.length ys<=sizeLine then some (xs++ys,h) else none
            | x,x_1=>none))
 δ' p.2)
 (YQ fun δ' p =>
 YP
 (aW 6
 (cX
 (xb (aB 6) fun (u:W) =>
 xb
 (aQ
 (xPl
 (Y2 (xb
 (xPl
 (Y4 (xb (xb (xPl (Y1 (aE (W.d (PyData.bool true))))) YT) fun (u:W) =>
 xb
 (xb (aB 1) fun (x:W) =>
 xb
 (xb (YJ 1) YU)
 fun (l:Option Int)=>xb (aE none) (YS3 x l))
 (YO .Add u)) (aB 2) (aB 3) (aB 4)))
 YT) (xb
 (xPl
 (Y4 (aB 1) (aQ
 (xb (Y1 (aB 2)) fun (ws:List W) (x:DSt) (h:aA) =>
 match ws with
                          | [w] =>
                           match ref h w with
                           | some (PyData.list xs)=>some (xs,h)
                           | some (PyData.tuple xs)=>some (xs,h)
                           | x=>none
                          | x=>none)) (aB 3) (aB 4)))
 YT))))
 fun (w:W) (x:DSt) (h:aA) =>
 match ref h u,ref h w with
              | some (PyData.list xs),some (PyData.list ys)=>if List.length xs+List.length ys<=sizeLine then some (xs++ys,h) else none
              | x,x_1=>none))
 δ' p.2)
 (YQ fun δ' p =>
 YP
 (YP (cJ (fun (x:DSt) (h:aA)=>YP (aD T d (Str.ofString "_law_bad_items") [] h) fun p=>some (W.d p.1,p.2)) δ' p.2) fun (p:(List PyData×Option Nat)×aA) =>
 cW (YG 7)
 (fun (x:DSt) (x_1:aA) =>
 YP
 (YP
 (xb (aB 6)
 ((YA (Y1 (xb (xPl (Y4 (aB 1) (xb (aB 2) fun u=>xb (xb (xPl (Y1 (aB 7))) YT) (YO .Add u)) (aB 3) (aB 4))) YT))))
 x x_1)
 fun p=>some (Fl.nx x,p.2))
 YE)
 (Prod.snd p.1) (Prod.fst p.1) (Prod.fst p.1) δ' p.2)
 (YQ fun δ' p =>
 YP (aW 8 (xb (xPl (Y3 (xb (xPl (Y2 (YS "read") (YJ 0))) YT) (YZ) (YS "must"))) YT) δ' p.2) (YQ fun δ' p =>
 YP (aW 9 (xb (aB 2) fun u=>xb (xb (xPl (Y3 (aB 8) (aB 8) (xb (xPl (Y3 (xb (xPl (Y2 (YS "read") (YJ 1))) YT) (YZ) (YS "may"))) YT))) YT) (YO .Add u)) δ' p.2) (YQ fun δ' p =>
 YP
 (YP
 (cJ
 (aQ
 (xPl
 (Y7 (xb (xPl (Y2 (YJ 0) (xb (aB 5) (YB .Add 3)))) YT) (xb
 (xPl
 (Y2 (xb (YJ 1) YNg) (YJ 0)))
 YT) (xb (xPl (Y2 (YJ 0) (YJ 0))) YT) (xb (xPl (Y1 (YJ 0))) YT) (aQ (xPl (Y2 (YJ 0) (YJ 1)))) (xb (xPl (Y3 (YJ 0) (YJ 1) (YJ 2))) YT) (xb (xPl (Y2 (aE (W.d (PyData.bool false))) (YJ 1))) YT))))
 δ' p.2)
 fun (p:(List PyData×Option Nat)×aA) =>
 cW (YG 10)
 (fun (x:DSt) (x_1:aA) =>
 YP
 (YP
 (xb (aB 6)
 ((YA (Y1 (xb (xPl (Y4 (aB 1) (aB 9) (xb (aB 3) fun u=>xb (xb (xPl (Y1 (aB 10))) YT) (YO .Add u)) (aB 4))) YT))))
 x x_1)
 fun p=>some (Fl.nx x,p.2))
 YE)
 (Prod.snd p.1) (Prod.fst p.1) (Prod.fst p.1) δ' p.2)
 (YQ fun δ' p =>
 YP (YP (Y3 (aB 5) (xb (aB 5) (YB .Add 1)) (xb (aB 5) (YB .Add 2)) δ' p.2) fun (p:List W×aA)=>match p.1 with
  | [u,v,w]=>some (Fl.nx (List.set (List.set (List.set δ' 11 (some u)) 12 (some v)) 13 (some w)),p.2)
  | x=>none) (YQ fun δ' p =>
 YP
 (aW 14
 (aQ
 (xPl
 (xb (xb (xPl (Y3 (aB 11) (aB 12) (aB 12))) YT) fun (w:W) =>
 xb
 (Y7 (xb (xPl (Y3 (aB 11) (aB 12) (aB 11))) YT) (xb (xPl (Y3 (aB 11) (aB 11) (aB 13))) YT) (xb (xPl (Y3 (aB 11) (aB 13) (aB 12))) YT) (xb (xPl (Y3 (aB 13) (aB 11) (aB 12))) YT) (xb (xPl (Y3 (aB 11) (aB 12) (xb (aB 13) (YB .Add 1)))) YT) (xb
 (xPl
 (Y3 (aB 11) (aB 12) (xb (YJ 1) YNg)))
 YT) (xb (xPl (Y3 (aB 11) (aB 12) (aE (W.d (PyData.bool true))))) YT))
 (YC w))))
 δ' p.2)
 (YQ fun δ' p =>
 YP
 (YP (cJ (xb (aB 14) fun u=>xb (aQ (xPl (Y2 (xb (xPl (Y2 (aB 11) (aB 12))) YT) (aQ (xPl (Y3 (aB 11) (aB 12) (aB 13))))))) (YO .Add u)) δ' p.2) fun (p:(List PyData×Option Nat)×aA) =>
 cW (YG 15)
 (fun (x:DSt) (x_1:aA) =>
 YP
 (YP
 (xb (aB 6)
 ((YA (Y1 (xb (xPl (Y4 (aB 1) (aB 9) (aB 3) (xb (aB 4) fun u=>xb (xb (xPl (Y1 (aB 15))) YT) (YO .Add u)))) YT))))
 x x_1)
 fun p=>some (Fl.nx x,p.2))
 YE)
 (Prod.snd p.1) (Prod.fst p.1) (Prod.fst p.1) δ' p.2)
 (YQ fun δ' p =>
 YP
 (YP
 (xb (aB 6)
 (fun (u:W) =>
 xb
 (aQ
 (xPl
 (Y2 (xb
 (xPl
 (Y4 (aB 1) (aB 2) (aQ
 (xb (Y1 (aB 3)) fun (ws:List W) (x:DSt) (h:aA) =>
 match ws with
                                          | [w] =>
                                           match ref h w with
                                           | some (PyData.list xs)=>some (xs,h)
                                           | some (PyData.tuple xs)=>some (xs,h)
                                           | x=>none
                                          | x=>none)) (aB 4)))
 YT) (xb
 (xPl
 (Y4 (aB 1) (aB 2) (aB 3) (aQ
 (xb (Y1 (aB 4)) fun (ws:List W) (x:DSt) (h:aA) =>
 match ws with
                                              | [w] =>
                                               match ref h w with
                                               | some (PyData.list xs)=>some (xs,h)
                                               | some (PyData.tuple xs)=>some (xs,h)
                                               | x=>none
                                              | x=>none))))
 YT))))
 (YO .Add u))
 δ' p.2)
 YW)
 YE)))))))))))))
 (ends h):=by kernel_rfl
end K13
namespace K13
open PySem PySem.Spec PyProof.Rows L2 DL CI SJ
variable (d:Nat) (h:aA)
noncomputable def bV6 (cs:List One):PyData:=.tuple [.str "deal",.tuple (cs.map One.dat)]
end K13
namespace K13
open PySem PySem.Spec PyProof.Rows L2 DL CI SJ
variable (d:Nat) (x:PyData) (h:aA)
@[simp] theorem gT:aD T (d+1) "is_whole" [.d x] h=some (.bool (fV x),h):=by
 cases x<;>simp [yG,isi,eU,fV]
@[simp] theorem tR (lo hi:Int):aD T (d+2) "is_between" [.d x,.d (.int lo),.d (.int hi)] h=some (.bool (bP x lo hi),h):=by
 cases x<;>simp [tM,gT,bP,fV];split<;>simp_all;omega
@[simp] theorem pX (n:Int):aD T (d+1) "is_tuple_of" [.d x,.d (.int n)] h=some (.bool (bL x n),h):=by
 cases x<;>simp [pW,isi,eU,bL]
@[simp] theorem eX (xs:List PyData):aD T (d+2) "are_whole" [.d (.tuple xs)] h=some (.bool (xs.all fV),h):=by
 simp [wB];rw [bK (fun x=>.bool (fV x)) 0 (fun _ _ _=>rfl)]
 ·simp [fG]
 ·intro y _ u;simp [gT]
@[simp] theorem oV:aD T (d+3) "is_key" [.d x] h=some (.bool (jU x),h):=by
 simp [aX4,tR,jU]
@[simp] theorem rL:aD T (d+1) "word_of" [.d x] h=some (gM x,h):=by
 cases x<;>simp [aI8,isi,eU,gM];rename_i xs;cases xs with
 | nil=>simp
 | cons y r=>cases y<;>simp [gM,isi,eU]
end K13
namespace K13
open PySem PySem.Spec PyProof.Rows L2 DL CI SJ
variable (d:Nat) (x:PyData) (h:aA)
@[simp] theorem iN (s:Str) (n:Int):aD T (d+2) "is_worded" [.d x,.d (.str s),.d (.int n)] h=some (.bool (aG x s n),h):=by
 simp [wC,rL];cases x<;>simp [gM,aG];rename_i xs;cases xs with
 | nil=>simp [gM,aG]
 | cons y r=>cases y<;>simp [gM,aG];rename_i t;cases e:(t==s)<;>simp
noncomputable def lk (s:Str):List.lookup s [(Str.ofString "read",(0:Int)),(Str.ofString "write",1),(Str.ofString "add",1),(Str.ofString "swap",2)]=nb s:=by
 unfold nb;simp only [List.lookup]
 repeat' split
 all_goals simp_all
noncomputable def dT3 (a b:PyData) (r:List PyData):cut (a::b::r) (some 2) none=r:=by
 have e1:HT.sIx (a::b::r).length 0 (some 2)=2:=by simp [HT.sIx]
 have e2:HT.sIx (a::b::r).length (a::b::r).length none=r.length+2:=by simp [HT.sIx]
 rw [cut,e1,e2];simp
noncomputable def cM0 (a:PyData) (r:List PyData):cut (a::r) (some 1) none=r:=by
 have e1:HT.sIx (a::r).length 0 (some 1)=1:=by simp [HT.sIx]
 have e2:HT.sIx (a::r).length (a::r).length none=r.length+1:=by simp [HT.sIx]
 rw [cut,e1,e2];simp
@[simp] theorem lX:aD T (d+4) "is_single" [.d x] h=some (.bool (bT x),h):=by
 simp [wD,rL,oV,eX,lk];cases x<;>simp [gM,bT];rename_i xs;cases xs with
 | nil=>simp [gM,bT]
 | cons y r =>
  cases y<;>simp [gM,bT];rename_i t;cases e:nb t with
  | none=>simp
  | some n =>
   have hn:0<=n:=by
    unfold nb at e
    repeat' split at e
    all_goals simp at e
    all_goals omega
   by_cases hl:(r.length:Int)+1=2+n
   ·cases r with
    | nil=>simp at hl;omega
    | cons k vs =>
     cases ek:jU k<;>simp_all [oV,dT3,eX]
   ·simp [hl,e]
noncomputable def gU {x:PyData} {s:Str} (e:aG x s 2=true):∃ a,x=.tuple [.str s,a]:=by
 unfold aG at e;split at e
 ·rename_i t r;simp at e;obtain ⟨rfl,e⟩:=e
  match r,e with
  | [a],_=>exact ⟨a,rfl⟩
  | [],e=>simp at e
  | _::_::_,e=>simp at e;omega
 ·cases e
noncomputable def bM6 {x:PyData} {s:Str} (e:aG x s 3=true):∃ a b,x=.tuple [.str s,a,b]:=by
 unfold aG at e;split at e
 ·rename_i t r;simp at e;obtain ⟨rfl,e⟩:=e
  match r,e with
  | [a,b],_=>exact ⟨a,b,rfl⟩
  | [],e=>simp at e
  | [_],e=>simp at e
  | _::_::_::_,e=>simp at e;omega
 ·cases e
noncomputable def bM7 {x:PyData} (e:aG x "span" 3=false):fW x=false:=by
 unfold fW;split
 ·simp [aG] at e;simp [e]
 ·rfl
noncomputable def bM8 {x:PyData} (e:aG x "deal" 2=false):fK x=false:=by
 unfold fK;split
 ·simp [aG] at e;simp [e]
 ·rfl
noncomputable def bM9 {x:PyData} (e:aG x "look" 2=false):jF x=false:=by
 unfold jF;split
 ·simp [aG] at e;simp [e]
 ·rfl
noncomputable def cM1 {x:PyData} (e:aG x "lay" 2=false):lO x=false:=by
 unfold lO;split
 ·simp [aG] at e;simp [e]
 ·rfl
@[simp] theorem aJ4:aD T (d+3) "is_span" [.d x] h=some (.bool (fW x),h):=by
 simp [aI9,iN,eX];cases e:aG x (Str.ofString "span") 3
 ·simp [bM7 e]
 ·obtain ⟨a,b,rfl⟩:=bM6 e;simp [cM0,eX];cases a<;>cases b<;>simp [fV,fW];rename_i i j
  by_cases h1:0<=i<;>by_cases h2:i < j<;>simp [h1,h2]
@[simp] theorem aJ5:aD T (d+5) "is_deal" [.d x] h=some (.bool (fK x),h):=by
 simp [aJ0,iN];cases e:aG x (Str.ofString "deal") 2
 ·simp [bM8 e]
 ·obtain ⟨a,rfl⟩:=gU e;cases a<;>simp [isi,eU,fK];rename_i ps
  by_cases h1:(1:Int)<=ps.length
  ·by_cases h2:(ps.length:Int)<=4
   ·simp [h1,h2];rw [bK (fun x=>.bool (bT x)) 0 (fun _ _ _=>rfl)]
    ·have h3:1<=ps.length:=by omega
     have h4:ps.length<=4:=by omega
     simp [fG,h3,h4]
    ·intro y _ u;simp [lX]
   ·have h4:¬ ps.length<=4:=by omega
    simp [h1,h2,h4]
  ·have h4:¬ 1<=ps.length:=by omega
   simp [h1,h4]
@[simp] theorem aJ6:aD T (d+6) "is_call" [.d x] h=some (.bool (cN x),h):=by
 simp [aJ1,lX,aJ4,aJ5,cN];cases e1:bT x<;>cases e2:fW x<;>cases e3:fK x<;>simp [e1,e2,e3]
@[simp] theorem cR0:aD T (d+7) "is_look" [.d x] h=some (.bool (jF x),h):=by
 simp [aJ2,iN];cases e:aG x (Str.ofString "look") 2
 ·simp [bM9 e]
 ·obtain ⟨a,rfl⟩:=gU e;simp [aJ6,jF]
@[simp] theorem aL0:aD T (d+4) "is_value_pair" [.d x] h=some (.bool (eY x),h):=by
 simp [mI,pX];cases x<;>simp [bL,eY];rename_i xs
 match xs with
 | []=>simp [eY]
 | [a]=>simp [eY]
 | [a,b] =>
  simp [oV,gT,eY];cases jU a<;>simp [gT]
 | a::b::c::r =>
  have:¬ ((r.length:Int)+1+1+1=2):=by omega
  simp [eY,this]
noncomputable def dL {n:Int} (h0:-5<=n) (h1:n<=100000):iW 0 n=true:=by
 unfold iW;simp;omega
noncomputable def aB0 {ns:List Int} {i:Nat} (hi:i < ns.length):atI (ns.map PyData.int) (i:Int)=some (.int (ns.getD i 0)):=by
 unfold atI;rw [cF3 (by simpa using hi)];simp [List.getD,hi]
noncomputable def cM2 (n:Nat):rng 0 n=(List.range n).map fun (i:Nat)=>PyData.int (i:Int):=by
 unfold rng;simp
noncomputable def tS (ns:List Int) (hl:ns.length<=1000):aD T (d+1) "are_rising" [.d (.list (ns.map .int))] h=some (.bool (bH8 ns),h):=by
 simp [tN];rw [if_pos (dL (by omega) (by omega))];simp only [Option.bind_some];rw [bK (fun x=>.bool (decide (ns.getD (sU x).toNat 0 < ns.getD ((sU x).toNat+1) 0))) 0 (fun _ _ _=>rfl)]
 ·simp only [List.nil_append,Option.bind_some,all_map];rw [cM2,List.all_map,bL7];rfl
 ·intro y hy u;rw [cM2] at hy;obtain ⟨k,hk,rfl⟩:=List.mem_map.mp hy;have hk:=List.mem_range.mp hk;have e2:((k:Int)+1)=((k+1:Nat):Int):=rfl;simp [aB0 (show k < ns.length by omega),sU];rw [e2,aB0 (by omega)];simp
noncomputable def dS:PyData->Bool
 | .tuple [_,.tuple ps]=>decide (ps.length<=1000)
 | _=>true
noncomputable def aX6 (hs:dS x=true):aD T (d+5) "is_lay" [.d x] h=some (.bool (lO x),h):=by
 simp [aX5];cases e:aG x (Str.ofString "lay") 2
 ·simp [cM1 e]
 ·obtain ⟨a,rfl⟩:=gU e;cases a<;>simp [isi,eU,lO];rename_i ps;simp [dS] at hs
  by_cases hp:ps=[]
  ·subst hp;simp
  ·have hn:¬ ((ps.length:Int)=0):=by
    have:ps.length≠0:=fun z=>hp (List.length_eq_zero_iff.mp z);omega
   simp [hp];rw [bK (fun x=>.bool (eY x)) 0 (fun _ _ _=>rfl)]
   ·simp only [List.nil_append,Option.bind_some,all_map];generalize ea:ps.all eY=b;cases b
    ·simp
    ·simp;rw [bK (fun x=>.int (sU (qQ x))) 0 (fun _ _ _=>rfl)]
     ·have e3:(ps.map fun x=>PyData.int (sU (qQ x)))=(ps.map fun p=>sU (qQ p)).map PyData.int:=by simp
      simp only [List.nil_append,Option.bind_some,e3];rw [tS _ _ _ (by simpa using hs)];simp [hp]
     ·intro y hy u;have:=List.all_eq_true.mp ea y hy;unfold eY at this;split at this
      ·rename_i k v;simp [jU,bP] at this;cases k<;>simp at this;simp [qQ,sU]
      ·cases this
   ·intro y _ u;simp
@[simp] theorem eO (hs:dS x=true):aD T (d+8) "is_step" [.d x] h=some (.bool (fX x),h):=by
 simp [aJ3,fX];cases e1:cN x<;>cases e2:jF x<;>simp [e2,aX6 _ _ _ hs]
end K13
namespace K13
open PySem PySem.Spec PyProof.Rows L2 DL CI SJ
variable (d:Nat) (t:PyData) (h:aA)
noncomputable def aX7 {t:PyData} (e:aG t "got" 2=false):cD (.read 0) t=false:=by
 unfold cD;split
 ·split
  ·rename_i s v;cases es:(s==Str.ofString "got")
   ·simp
   ·simp at es;subst es;simp [aG] at e
  ·rfl
 all_goals rename_i e';cases e'
noncomputable def rM (o:One):aD T (d+3) "is_own_answer" [.d o.dat,.d t] h=some (.bool (cD o t),h):=by
 cases o
 ·simp [bC,One.dat,PyData.eqv,cD,szl];cases e:aG t (Str.ofString "got") 2
  ·simp;exact aX7 e
  ·obtain ⟨v,rfl⟩:=gU e;simp
 ·simp [bC,One.dat,PyData.eqv,cD,szl]
 ·simp [bC,One.dat,PyData.eqv,cD,szl];cases e:aG t (Str.ofString "got") 2
  ·simp;exact aX7 e
  ·obtain ⟨v,rfl⟩:=gU e;simp
 ·simp [bC,One.dat,PyData.eqv,cD,szl];cases e:aG t (Str.ofString "yes") 1<;>simp
end K13
namespace K13
open PySem PySem.Spec PyProof.Rows L2 DL CI SJ
variable (d:Nat) (t:PyData) (h:aA)
noncomputable def cM3 {t:PyData} {lo hi:Nat} (e:aG t "all" 2=false):bJ (.span lo hi) t=false:=by
 unfold bJ;split
 ·rename_i e';cases e'
 ·split
  ·rename_i s xs;cases es:(s==Str.ofString "all")
   ·simp
   ·simp at es;subst es;simp [aG] at e
  ·rfl
 ·rename_i e';cases e'
noncomputable def bN0 {t:PyData} {cs:List One} (e:aG t "each" 2=false):bJ (.deal cs) t=false:=by
 unfold bJ;split
 ·rename_i e';cases e'
 ·rename_i e';cases e'
 ·split
  ·rename_i s xs;cases es:(s==Str.ofString "each")
   ·simp
   ·simp at es;subst es;simp [aG] at e
  ·rfl
noncomputable def zps (cs:List One) (xs:List PyData):List (PyData×PyData):=(cs.zip xs).map fun p=>(.tuple [p.1.dat,p.2],.bool (cD p.1 p.2))
theorem bV7:∀ (cs:List One) (xs:List PyData),oA (cs.map One.dat) xs=(zps cs xs).map (·.1)
 | [],_=>by simp [oA,zps]
 | _::_,[]=>by simp [oA,zps]
 | c::cs,x::xs=>by
  have:=bV7 cs xs;unfold oA zps at this ⊢;simp at this ⊢;exact this
noncomputable def dC9:∀ (cs:List One) (xs:List PyData),(zps cs xs).map (·.2)=((cs.zip xs).map fun p=>cD p.1 p.2).map PyData.bool:=fun cs xs=>by simp [zps]
theorem aB1:∀ (cs:List One) (xs:List PyData),((cs.zip xs).map fun p=>cD p.1 p.2).all id=fR cs xs
 | [],_=>by simp [fR]
 | _::_,[]=>by simp [fR]
 | c::cs,x::xs=>by
  have:=aB1 cs xs;simp [fR] at this ⊢;rw [this]
theorem aB2:∀ bs:List Bool,dH (bs.map PyData.bool)=some bs
 | []=>rfl
 | b::r=>by simp [dH,aB2 r]
noncomputable def yI (lo hi:Nat):aD T (d+4) "is_own_answer" [.d (Call.span lo hi).dat,.d t] h=some (.bool (bJ (.span lo hi) t),h):=by
 simp [bC,Call.dat,PyData.eqv,szl];cases e:aG t (Str.ofString "all") 2
 ·simp;exact cM3 e
 ·obtain ⟨v,rfl⟩:=gU e;cases v<;>simp [bL,bJ];rename_i xs
  by_cases hl:(xs.length:Int)=(hi:Int) - lo<;>simp [hl]
noncomputable def yJ (cs:List One):aD T (d+4) "is_own_answer" [.d (Call.deal cs).dat,.d t] h=some (.bool (bJ (.deal cs) t),h):=by
 simp [bC,Call.dat,PyData.eqv,szl];cases e:aG t (Str.ofString "each") 2
 ·simp;exact bN0 e
 ·obtain ⟨v,rfl⟩:=gU e;cases v<;>simp [bL,bJ];rename_i xs
  by_cases hl:(xs.length:Int)=cs.length
  ·have hl':xs.length=cs.length:=by omega
   simp [hl,hl'];rw [bV7,dG (fun δ=>∃ a b,δ=[a,b]) _ _ _ ⟨_,_,rfl⟩]
   ·have hz:=aB1 cs xs;rw [dC9];generalize ((cs.zip xs).map fun p=>cD p.1 p.2)=L at hz ⊢;simp only [List.nil_append,Option.bind_some,bV3,aB2,Option.map_some,hz];simp
   ·intro p hp δ ⟨a,b,e⟩;subst e;obtain ⟨⟨o,x⟩,_,rfl⟩:=List.mem_map.mp hp;refine ⟨[some (.d o.dat),some (.d x)],by simp [jA,tD],⟨_,_,rfl⟩,?_⟩;simp [rM]
  ·have hl':¬ xs.length=cs.length:=by omega
   simp [hl,hl']
noncomputable def oW (c:SJ.Call):aD T (d+4) "is_own_answer" [.d c.dat,.d t] h=some (.bool (bJ c t),h):=by
 cases c with
 | one o=>exact rM (d+1) t h o
 | span lo hi=>exact yI d t h lo hi
 | deal cs=>exact yJ d t h cs
end K13
namespace K13
open PySem PySem.Spec PyProof.Rows L2 DL CI SJ
variable (d:Nat) (t:PyData) (h:aA)
noncomputable def oX {c:SJ.Call} (hc:c.ok):dS c.dat=true:=by
 cases c with
 | one o=>cases o<;>simp [Call.dat,One.dat,dS]
 | span lo hi=>simp [Call.dat,dS]
 | deal cs =>
  have:=hc.1;simp [Call.dat,dS];omega
noncomputable def yK {c:SJ.Call} (hc:c.ok):aD T (d+9) "is_answer" [.d c.dat,.d t] h=some (.bool (aG t "refused" 1||bJ c t),h):=by
 simp [iL,eO (d) c.dat h (oX hc),(gG hc).2.1,(gG hc).1];cases e:aG t (Str.ofString "refused") 1
 ·simp [oW (d+4)]
 ·simp [(gG hc).1]
noncomputable def yL {ps:List (Nat×Int)} (hn:ps≠[]) (hl:ps.length<=1000) (hk:∀ p∈ps,p.1 < 8) (hr:(ps.map (·.1)).Pairwise (· < ·)):aD T (d+8) "is_step" [.d (.tuple [.str "lay",.tuple (ps.map prP)])] h=some (.bool true,h):=by
 rw [eO _ _ _ (by simpa [dS] using hl)];obtain ⟨q1,q2,q3⟩:=kW hk;have e:=zL hr;rw [List.map_map] at e;have e1:lO (.tuple [.str "lay",.tuple (ps.map prP)])=true:=by
  unfold lO;simp only [q1,q3,List.isEmpty_map];have:ps.isEmpty=false:=by simpa using hn
  rw [this]
  simpa [Function.comp_def] using e
 simp [fX,e1]
end K13
namespace K13
open PySem PySem.Spec PyProof.Rows L2 DL CI SJ
variable (d:Nat) (h:aA)
abbrev Ow {α β:Type} (_:α->Option β):=Option α
noncomputable def bd {α β:Type} (f:α->Option β) (x:Ow f):Option β:=Option.bind x f
@[simp ↓ high] theorem bdi {α β:Type} (x:Option α) (f:α->Option β):x.bind f=bd f x:=rfl
@[simp high] theorem bds {α β:Type} (a:α) (f:α->Option β):bd f (some a)=f a:=id rfl
@[simp ↓ high] theorem xba {α β:Type} (x:XR α) (f:α->XR β) (δ:DSt) (h:aA):xb x f δ h=bd (fun p=>f p.1 δ p.2) (x δ h):=rfl
@[simp ↓ high] theorem xsa (i:Nat) (x:XR W) (δ:DSt) (h:aA):aW i x δ h=bd (fun p=>some (.nx (δ.set i (some p.1)),p.2)) (x δ h):=rfl
noncomputable def wv (st:List Int) (k:Nat) (v:Int):List Int:=st.take k++v::st.drop (k+1)
noncomputable def lF {st:List Int} {k:Nat} (hk:k < st.length) (v:Int):(wv st k v).length=st.length:=by
 unfold wv;simp;omega
noncomputable def sd (st:List Int):One->An1×List Int
 | .read k=>(.got (st.getD k 0),st)
 | .write k v=>(.dn,wv st k v)
 | .add k v=>(.got (st.getD k 0+v),wv st k (st.getD k 0+v))
 | .swap k x y=>if st.getD k 0=x then (.yes,wv st k y) else (.no,st)
noncomputable def dr (st:List Int):List One->List An1×List Int
 | []=>([],st)
 | o::r=>((sd st o).1::(dr (sd st o).2 r).1,(dr (sd st o).2 r).2)
noncomputable def yM {st:List Int} {o:One} (hk:o.key < st.length):(sd st o).2.length=st.length:=by
 cases o<;>simp only [One.key] at hk<;>simp only [sd]
 ·exact lF hk _
 ·exact lF hk _
 ·split
  ·exact lF hk _
  ·rfl
noncomputable def aB3 (st:List Int) (o:One):An1.fits o (sd st o).1:=by
 cases o<;>simp only [sd]<;>first | trivial | (split<;>trivial)
noncomputable def yN (xs:List PyData) {m:Nat} (hm:m<=xs.length):cut xs none (some (m:Int))=xs.take m:=by
 have e1:HT.sIx xs.length 0 none=0:=by simp [HT.sIx]
 have e2:HT.sIx xs.length xs.length (some (m:Int))=m:=by
  unfold HT.sIx;simp only [];rw [if_neg (by omega)];omega
 rw [cut,e1,e2];simp
noncomputable def yO (xs:List PyData) {m:Nat} (hm:m<=xs.length):cut xs (some (m:Int)) none=xs.drop m:=by
 have e1:HT.sIx xs.length 0 (some (m:Int))=m:=by
  unfold HT.sIx;simp only [];rw [if_neg (by omega)];omega
 have e2:HT.sIx xs.length xs.length none=xs.length:=by simp [HT.sIx]
 rw [cut,e1,e2];rw [List.take_of_length_le];simp
noncomputable def aB4 {st:List Int} {k:Nat} (hk:k < st.length):atI (st.map PyData.int) (k:Int)=some (.int (st.getD k 0)):=fQ (by simp [hk])
noncomputable def aX8 (st:List Int) (k:Nat) (v:Int) (hk:k < 8) (hl:st.length=8):aD T (d+1) "with_value" [.d (.tuple (st.map .int)),.d (.int k),.d (.int v)] h=some (.tuple ((wv st k v).map .int),h):=by
 have c1:=yN (st.map PyData.int) (m:=k) (by simp;omega);have c2:=yO (st.map PyData.int) (m:=k+1) (by simp;omega);have c2':cut (st.map PyData.int) (some ((k:Int)+1)) none=(st.map PyData.int).drop (k+1):=c2;have l1:min k st.length<=16777215:=by omega
 have l2:min k st.length+1+(st.length - (k+1))<=16777216:=by omega
 have l3:min k 8+1+(8 - (k+1))<=16777216:=by omega
 have l4:min k 8<=16777215:=by omega
 have l5:min k 8+1+(7 - k)<=16777216:=by omega
 simp [tO,c1,c2',szl,wv,l1,hl,l3,l4,l5]
noncomputable def wF (st:List Int) (o:One) (hk:o.key < 8) (hl:st.length=8):aD T (d+2) "single_done" [.d (.tuple (st.map .int)),.d o.dat] h=some (.tuple [(sd st o).1.dat,.tuple ((sd st o).2.map .int)],h):=by
 cases o with
 | read k =>
  have:=aB4 (st:=st) (k:=k) (by simp [One.key] at hk;omega);simp [cZ,One.dat,An1.dat,this,szl,sd]
 | write k v =>
  simp only [One.key] at hk;have:=aB4 (st:=st) (k:=k) (by omega);simp [cZ,One.dat,An1.dat,this,szl,aX8,hk,hl,sd]
 | add k v =>
  simp only [One.key] at hk;have:=aB4 (st:=st) (k:=k) (by omega);generalize e:st.getD k 0=w at this;simp only [sd,e];simp [cZ,One.dat,An1.dat,this,szl,aX8,hk,hl]
 | swap k x y =>
  simp only [One.key] at hk;have:=aB4 (st:=st) (k:=k) (by omega);generalize e:st.getD k 0=v at this;simp only [sd,e]
  by_cases e:v=x
  ·subst e;simp [cZ,One.dat,An1.dat,this,szl,aX8,hk,hl]
  ·simp [cZ,One.dat,An1.dat,this,szl,aX8,hk,hl,e]
theorem aB5:∀ (cs:List One) (st:List Int) (o:One),dr st (cs++[o])=((dr st cs).1++[(sd (dr st cs).2 o).1],(sd (dr st cs).2 o).2)
 | [],st,o=>rfl
 | c::r,st,o=>by simp [dr,aB5 r]
theorem yP:∀ (cs:List One) (st:List Int),(∀ o∈cs,o.key < st.length)->(dr st cs).2.length=st.length
 | [],st,_=>rfl
 | o::r,st,hk=>by
  have h1:=hk o List.mem_cons_self;have:=yP r (sd st o).2 fun o' ho=>by rw [yM h1];exact hk o' (List.mem_cons_of_mem _ ho)
  rw [yM h1] at this;exact this
theorem bV8:∀ (cs:List One) (st:List Int),(dr st cs).1.length=cs.length
 | [],st=>rfl
 | o::r,st=>by simp [dr,bV8 r]
theorem aX9:∀ (cs:List One) (st:List Int),Fit2 cs (dr st cs).1
 | [],st=>.nil
 | o::r,st=>.cons (aB3 st o) (aX9 r _)
noncomputable def wG (cs:List One) (hk:∀ o∈cs,o.key < 8) (hc:cs.length<=100) (st:List Int) (hl:st.length=8):aD T (d+3) "deal_done" [.d (.tuple (st.map .int)),.d (.tuple (cs.map One.dat))] h=some (.tuple [.tuple [.str "each",.tuple ((dr st cs).1.map An1.dat)],.tuple ((dr st cs).2.map .int)],h):=by
 rw [show d+3=(d+2)+1 from rfl,wE];simp [szl];generalize hr:cW _ _ _ _ _ _ _=r;have kk:∃ δ' h',r=some (.nx δ',h')/\∃ (x1 x3 x4:Option W),δ'=[some (.d (.tuple ((dr st cs).2.map .int))),x1,some (.c h.length),x3,x4]/\h'=h++[.l ((dr st cs).1.map An1.dat)]:=by
  rw [<- hr];clear hr;refine eJ (fun m δ' h'=>∃ (x1 x3 x4:Option W),δ'=[some (.d (.tuple ((dr st (cs.take m)).2.map .int))),x1,some (.c h.length),x3,x4]/\h'=h++[.l ((dr st (cs.take m)).1.map An1.dat)]) ⟨_,_,_,rfl,rfl⟩ (fun δ h'=>?_) ?_
  ·rw [List.length_map,List.take_length];exact id
  ·rintro m hm δ h' ⟨x1,x3,x4,rfl,rfl⟩;have hm':m < cs.length:=by simpa using hm
   have l2:(dr st (cs.take m)).2.length=8:=by rw [yP _ _ fun o ho=>by rw [hl];exact hk o (List.mem_of_mem_take ho)];exact hl
   have hs':=fun h=>wF d h (dr st (cs.take m)).2 cs[m] (hk _ (List.getElem_mem _)) l2;have ll:(dr st (cs.take m)).1.length < 16777216:=by rw [bV8,List.length_take];omega
   have e:cs.take (m+1)=cs.take m++[cs[m]]:=by rw [List.take_add_one];simp [hm']
   rw [List.getElem_map,e,aB5];generalize dr st (cs.take m)=q at *;obtain ⟨as,st'⟩:=q;have gl:=CI.get_last h (.l (as.map An1.dat));have mp:=CI.mpre_last h (as.map An1.dat);dsimp only at *;generalize sd st' cs[m]=p at hs';refine ⟨_,_,rfl,[some (.d (.tuple (p.2.map .int))),x1,some (.c h.length),some (.d cs[m].dat),some (.d (.tuple [p.1.dat,.tuple (p.2.map .int)]))],h++[.l ((as++[p.1]).map An1.dat)],?_,_,_,_,rfl,rfl⟩;simp [hs',gl,mp,ll,szl]
 obtain ⟨δ',h',rfl,x1,x3,x4,rfl,rfl⟩:=kk;have tl:cQ [.c h.length] (h++[.l ((dr st cs).1.map An1.dat)])=some (.d (.tuple ((dr st cs).1.map An1.dat)),h++[.l ((dr st cs).1.map An1.dat)]):=by
  simp [cQ,ref]
 simp [tl,szl]
noncomputable def ly (st:List Int) (ps:List (Nat×Int)):List Int:=ps.foldl (fun s p=>wv s p.1 p.2) st
theorem aY0:∀ (ps:List (Nat×Int)) (st:List Int),(∀ p∈ps,p.1 < st.length)->(ly st ps).length=st.length
 | [],st,_=>rfl
 | p::r,st,hk=>by
  have h1:=hk p List.mem_cons_self;have:=aY0 r (wv st p.1 p.2) fun q hq=>by rw [lF h1];exact hk q (List.mem_cons_of_mem _ hq)
  rw [lF h1] at this;exact this
noncomputable def cM4 (ps:List (Nat×Int)) (hk:∀ p∈ps,p.1 < 8) (st:List Int) (hl:st.length=8):aD T (d+2) "laid" [.d (.tuple (st.map .int)),.d (.tuple (ps.map fun p=>.tuple [.int p.1,.int p.2]))] h=some (.tuple ((ly st ps).map .int),h):=by
 rw [show d+2=(d+1)+1 from rfl,cL9];simp;generalize hr:cW _ _ _ _ _ _ _=r;have kk:∃ δ' h',r=some (.nx δ',h')/\∃ x1 x2 x3,δ'=[some (.d (.tuple ((ly st ps).map .int))),x1,x2,x3]/\h'=h:=by
  rw [<- hr];clear hr;refine yE (fun p:Nat×Int=>.tuple [.int p.1,.int p.2]) (fun s p=>wv s p.1 p.2) (fun s δ' h'=>s.length=8/\∃ x1 x2 x3,δ'=[some (.d (.tuple (s.map .int))),x1,x2,x3]/\h'=h) st ps ⟨hl,_,_,_,rfl,rfl⟩ (fun _ _ z=>z.2) ?_;rintro p hp s δ h' ⟨hs,x1,x2,x3,rfl,rfl⟩;have hk':=hk p hp;have e:=fun h=>aX8 d h s p.1 p.2 hk' hs;refine ⟨[some (.d (.tuple (s.map .int))),x1,some (.d (.int p.1)),some (.d (.int p.2))],h',by simp [tD],[some (.d (.tuple ((wv s p.1 p.2).map .int))),x1,some (.d (.int p.1)),some (.d (.int p.2))],h',?_,by rw [lF (by omega)];exact hs,_,_,_,rfl,rfl⟩;simp [e]
 obtain ⟨δ',h',rfl,x1,x2,x3,rfl,rfl⟩:=kk;simp
noncomputable def aY1 (o:One) (st:List Int) (hk:o.key < 8) (hl:st.length=8):aD T (d+3) "done" [.d (.tuple (st.map .int)),.d o.dat] h=some (.tuple [(sd st o).1.dat,.tuple ((sd st o).2.map .int)],h):=by
 have e:=fun h=>wF d h st o hk hl;rw [show d+3=(d+2)+1 from rfl,oS];generalize sd st o=p at e;cases o<;>simp [One.dat] at e ⊢<;>simp [e]
noncomputable def aJ7 (cs:List One) (hk:∀ o∈cs,o.key < 8) (hc:cs.length<=100) (st:List Int) (hl:st.length=8):aD T (d+4) "done" [.d (.tuple (st.map .int)),.d (bV6 cs)] h=some (.tuple [.tuple [.str "each",.tuple ((dr st cs).1.map An1.dat)],.tuple ((dr st cs).2.map .int)],h):=by
 have e:=fun h=>wG d h cs hk hc st hl;rw [show d+4=(d+3)+1 from rfl,oS];simp [bV6,e]
noncomputable def aY2 (ps:List (Nat×Int)) (hk:∀ p∈ps,p.1 < 8) (st:List Int) (hl:st.length=8):aD T (d+3) "done" [.d (.tuple (st.map .int)),.d (.tuple [.str "lay",.tuple (ps.map fun p=>.tuple [.int p.1,.int p.2])])] h=some (.tuple [.tuple [.str "done"],.tuple ((ly st ps).map .int)],h):=by
 have e:=fun h=>cM4 d h ps hk st hl;rw [show d+3=(d+2)+1 from rfl,oS];simp [e,szl]
noncomputable def aJ8 {s A S:PyData} {st:List Int} (e:∀ h,aD T (d+4) "done" [.d (.tuple (st.map .int)),.d s] h=some (.tuple [A,S],h)):aD T (d+5) "done" [.d (.tuple (st.map .int)),.d (.tuple [.str "look",s])] h=some (.tuple [A,.tuple (st.map .int)],h):=by
 rw [show d+5=(d+4)+1 from rfl,oS];simp [e,szl]
noncomputable def cM5 (xs:List PyData) {i j:Nat} (hi:i<=j) (hj:j<=xs.length):cut xs (some (i:Int)) (some (j:Int))=(xs.drop i).take (j - i):=by
 have e1:HT.sIx xs.length 0 (some (i:Int))=i:=by
  unfold HT.sIx;simp only [];rw [if_neg (by omega)];omega
 have e2:HT.sIx xs.length xs.length (some (j:Int))=j:=by
  unfold HT.sIx;simp only [];rw [if_neg (by omega)];omega
 rw [cut,e1,e2]
noncomputable def aJ9 (lo hi:Nat) (h1:lo<=hi) (h2:hi<=8) (st:List Int) (hl:st.length=8):aD T (d+1) "done" [.d (.tuple (st.map .int)),.d (.tuple [.str "span",.int lo,.int hi])] h=some (.tuple [.tuple [.str "all",.tuple (((st.drop lo).take (hi - lo)).map .int)],.tuple (st.map .int)],h):=by
 have c:=cM5 (st.map PyData.int) (i:=lo) (j:=hi) h1 (by simp;omega);rw [<- List.map_drop,<- List.map_take] at c;simp [oS,c,szl]
end K13
namespace K13
open PySem PySem.Spec PyProof.Rows L2 DL CI SJ
variable (d:Nat) (h:aA)
@[simp] theorem dV7 {h:aA} {i:Nat} {xs:List PyData} (hi:i < h.length):cA [.c i] (h.set i (.l xs))=some (.d (.int xs.length),h.set i (.l xs)):=by simp [cA,aA6 hi]
noncomputable def m1 (a n:Int):Int:=(a+7919*n+1)*48271%2147483647
noncomputable def m2 (x:Int):Int:=x*(x / 1009+69621)%2147483647
noncomputable def m3 (x:Int):Int:=x*(x / 2003+40692)%2147483399
noncomputable def aM (s:S3) (b:Int):Int:=if 0 < s.1 then s.1%b else m3 (m2 (m1 s.2.1 (s.2.2+1)))%b
noncomputable def digS (s:S3) (b:Int):S3:=if 0 < s.1 then (s.1 / b,s.2.1,s.2.2) else (s.1,s.2.1,s.2.2+1)
noncomputable def st0 (c:Int):S3:=(c,c%2147483647,0)
noncomputable def gA (s:S3) {b:Int} (hb:0 < b):0<=aM s b:=by
 unfold aM;split<;>exact Int.emod_nonneg _ (by omega)
noncomputable def gB (s:S3) {b:Int} (hb:0 < b):aM s b < b:=by
 unfold aM;split<;>exact Int.emod_lt_of_pos _ hb
noncomputable def bG (s:S3) {b:Int} (hb:0 < b):∃ n:Nat,aM s b=n/\(n:Int) < b:=⟨(aM s b).toNat,by have:=gA s hb;omega,by have:=gA s hb;have:=gB s hb;omega⟩
@[simp] theorem eT {i:Nat} (s:S3) (b:Int) (hi:i < h.length) (hb:0 < b) (hb2:aX b=true):aD T (d+1) "_law_digit" [.c i,.d (.int b)] (h.set i (stL s))=some (.int (aM s b),h.set i (stL (digS s b))):=by
 have e1:aX 1009=true:=by decide
 have e2:aX 2003=true:=by decide
 have h0:=iV (i:=7919) (by decide) (by decide) (s.2.2+1);have h1:=aA5 (j:=48271) (by decide) (by decide) (s.2.1+7919*(s.2.2+1)+1);have h2:gZ (m1 s.2.1 (s.2.2+1)) (m1 s.2.1 (s.2.2+1) / 1009+69621)=true:=iV (by unfold m1;omega) (by unfold m1;omega) _;have h3:gZ (m2 (m1 s.2.1 (s.2.2+1))) (m2 (m1 s.2.1 (s.2.2+1)) / 2003+40692)=true:=iV (by unfold m2;omega) (by unfold m2;omega) _;have z1:(s.2.1+7919*(s.2.2+1)+1)*48271%2147483647=m1 s.2.1 (s.2.2+1):=rfl;have z2:m1 s.2.1 (s.2.2+1)*(m1 s.2.1 (s.2.2+1) / 1009+69621)%2147483647=m2 (m1 s.2.1 (s.2.2+1)):=rfl;have z3:m2 (m1 s.2.1 (s.2.2+1))*(m2 (m1 s.2.1 (s.2.2+1)) / 2003+40692)%2147483399=m3 (m2 (m1 s.2.1 (s.2.2+1))):=rfl
 by_cases h4:0 < s.1<;>simp [kE,stL,hi,e1,e2,hb,hb2,h0,h1,h2,h3,h4,z1,z2,z3,aM,digS]
noncomputable def wH {i:Nat} (c b:Int) (hi:i < h.length) (hb:0 < b) (hb2:aX b=true):aD T (d+1) "_law_digit" [.c i,.d (.int b)] (h.set i (.l [.int c]))=some (.int (aM (st0 c) b),h.set i (stL (digS (st0 c) b))):=by
 have e1:aX 1009=true:=by decide
 have e2:aX 2003=true:=by decide
 have h0:=iV (i:=7919) (by decide) (by decide) 1;have h1:=aA5 (j:=48271) (by decide) (by decide) (c%2147483647+7919+1);have h2:gZ (m1 (c%2147483647) 1) (m1 (c%2147483647) 1 / 1009+69621)=true:=iV (by unfold m1;omega) (by unfold m1;omega) _;have h3:gZ (m2 (m1 (c%2147483647) 1)) (m2 (m1 (c%2147483647) 1) / 2003+40692)=true:=iV (by unfold m2;omega) (by unfold m2;omega) _;have z1:(c%2147483647+7919+1)*48271%2147483647=m1 (c%2147483647) 1:=by simp [m1]
 have z2:m1 (c%2147483647) 1*(m1 (c%2147483647) 1 / 1009+69621)%2147483647=m2 (m1 (c%2147483647) 1):=rfl;have z3:m2 (m1 (c%2147483647) 1)*(m2 (m1 (c%2147483647) 1) / 2003+40692)%2147483399=m3 (m2 (m1 (c%2147483647) 1)):=rfl
 by_cases h4:0 < c<;>simp [kE,stL,hi,e1,e2,hb,hb2,h0,h1,h2,h3,h4,z1,z2,z3,aM,digS,st0,szl]
end K13
namespace K13
open PySem PySem.Spec PyProof.Rows L2 DL CI SJ
def Stf (c:Cell) (s:S3):Prop:=c=stL s\/∃ n:Int,c=.l [.int n]/\s=st0 n
noncomputable def stf (s:S3):Stf (stL s) s:=.inl rfl
noncomputable def oY (d:Nat) (h:aA) {i:Nat} {c:Cell} {s:S3} (hc:Stf c s) (b:Int) (hi:i < h.length) (hb:0 < b) (hb2:aX b=true):aD T (d+1) "_law_digit" [.c i,.d (.int b)] (h.set i c)=some (.int (aM s b),h.set i (stL (digS s b))):=by
 rcases hc with rfl | ⟨n,rfl,rfl⟩
 ·exact eT d h s b hi hb hb2
 ·exact wH d h n b hi hb hb2
noncomputable def dig_cases (s:S3):aM s 8 / 3=0\/aM s 8 / 3=1\/aM s 8 / 3=2:=by
 have:=gA s (b:=8) (by decide);have:=gB s (b:=8) (by decide);omega
noncomputable def dig2 (s:S3):aM s 4 / 3=0\/aM s 4 / 3=1:=by
 have:=gA s (b:=4) (by decide);have:=gB s (b:=4) (by decide);omega
noncomputable def dig4 (s:S3):aM s 4=0\/aM s 4=1\/aM s 4=2\/aM s 4=3:=by
 have:=gA s (b:=4) (by decide);have:=gB s (b:=4) (by decide);omega
noncomputable def p12:aX 1000000000000=true:=by decide +kernel
noncomputable def wI (s:S3):∃ r:Int×S3,∀ (d:Nat) (h:aA) (i:Nat) (c:Cell),Stf c s->i < h.length->aD T (d+2) "_law_value" [.c i] (h.set i c)=some (.int r.1,h.set i (stL r.2)):=by
 have e1:vJ 10 12=true:=by decide
 have e3:aX 3=true:=by decide
 have e4:aX 2=true:=by decide
 have e5:aX 8=true:=by decide
 have p:=p12;rcases dig_cases (digS (digS (digS s 3) 2) 1000000000000) with e | e | e
 ·refine ⟨(aM s 3,digS (digS (digS (digS s 3) 2) 1000000000000) 8),fun d h i c hc hi=>?_⟩;have g:=oY d h hc 3 hi (by decide) e3;simp [gR,hi,g,e,e1,e3,e4,e5,p,aQ,szl]
 ·refine ⟨(aM (digS s 3) 2 - 1,digS (digS (digS (digS s 3) 2) 1000000000000) 8),fun d h i c hc hi=>?_⟩;have g:=oY d h hc 3 hi (by decide) e3;simp [gR,hi,g,e,e1,e3,e4,e5,p,aQ,szl]
 ·refine ⟨(aM (digS (digS s 3) 2) 1000000000000,digS (digS (digS (digS s 3) 2) 1000000000000) 8),fun d h i c hc hi=>?_⟩;have g:=oY d h hc 3 hi (by decide) e3;simp [gR,hi,g,e,e1,e3,e4,e5,p,aQ,szl]
noncomputable def vF (s:S3):Int×S3:=(wI s).choose
noncomputable def wJ (d:Nat) (h:aA) {i:Nat} {c:Cell} {s:S3} (hc:Stf c s) (hi:i < h.length):aD T (d+2) "_law_value" [.c i] (h.set i c)=some (.int (vF s).1,h.set i (stL (vF s).2)):=(wI s).choose_spec d h i c hc hi
@[simp] theorem dL0 (d:Nat) (h:aA) {i:Nat} (s:S3) (hi:i < h.length):aD T (d+2) "_law_value" [.c i] (h.set i (stL s))=some (.int (vF s).1,h.set i (stL (vF s).2)):=wJ d h (stf s) hi
noncomputable def oZ (s:S3):∃ r:One×S3,r.1.ok/\∀ (d:Nat) (h:aA) (i:Nat),i < h.length->aD T (d+3) "_law_plain_call" [.c i] (h.set i (stL s))=some (r.1.dat,h.set i (stL r.2)):=by
 have e3:aX 4=true:=by decide
 have e4:aX 2=true:=by decide
 have e5:aX 8=true:=by decide
 have e6:aX 3=true:=by decide
 obtain ⟨k,hk,ek⟩:∃ k:Nat,k < 8/\atI [PyData.int (aM (digS s 4) 2),.int (aM (digS (digS s 4) 2) 8)] (aM (digS (digS (digS s 4) 2) 8) 4 / 3)=some (.int k):=by
  obtain ⟨a,ea,ha⟩:=bG (digS s 4) (b:=2) (by decide);obtain ⟨b,eb,hb⟩:=bG (digS (digS s 4) 2) (b:=8) (by decide);rcases dig2 (digS (digS (digS s 4) 2) 8) with y | y
  ·exact ⟨a,by omega,by rw [y,ea];simp⟩
  ·exact ⟨b,by omega,by rw [y,eb];simp⟩
 rcases dig4 s with e | e | e | e
 ·refine ⟨(.read k,digS (digS (digS (digS s 4) 2) 8) 4),hk,fun d h i hi=>?_⟩;simp [cB,hi,e,ek,e3,e4,e5,e6,One.dat,szl,aQ]
 ·refine ⟨(.write k (vF (digS (digS (digS (digS s 4) 2) 8) 4)).1,(vF (digS (digS (digS (digS s 4) 2) 8) 4)).2),hk,fun d h i hi=>?_⟩;simp [cB,hi,e,ek,e3,e4,e5,e6,One.dat,szl,aQ]
 ·refine ⟨(.add k (vF (digS (digS (digS (digS s 4) 2) 8) 4)).1,(vF (digS (digS (digS (digS s 4) 2) 8) 4)).2),hk,fun d h i hi=>?_⟩;simp [cB,hi,e,ek,e3,e4,e5,e6,One.dat,szl,aQ]
 ·refine ⟨(.swap k (vF (digS (digS (digS (digS s 4) 2) 8) 4)).1 (vF (vF (digS (digS (digS (digS s 4) 2) 8) 4)).2).1,(vF (vF (digS (digS (digS (digS s 4) 2) 8) 4)).2).2),hk,fun d h i hi=>?_⟩;simp [cB,hi,e,ek,e3,e4,e5,e6,One.dat,szl,aQ]
noncomputable def pF (s:S3):One×S3:=(oZ s).choose
noncomputable def aY3 (s:S3):(pF s).1.ok:=(oZ s).choose_spec.1
@[simp] theorem dL1 (d:Nat) (h:aA) {i:Nat} (s:S3) (hi:i < h.length):aD T (d+3) "_law_plain_call" [.c i] (h.set i (stL s))=some ((pF s).1.dat,h.set i (stL (pF s).2)):=(oZ s).choose_spec.2 d h i hi
theorem wK:∀ (xs:List PyData) (s:S3),∃ cs:List One,(thr (fun _ s=>(pF s).1.dat) (fun _ s=>(pF s).2) xs s).1=cs.map One.dat/\cs.length=xs.length/\∀ c∈cs,c.ok
 | [],s=>⟨[],rfl,rfl,fun _ z=>nomatch z⟩
 | x::r,s=>by
  obtain ⟨cs,e,hl,hc⟩:=wK r (pF s).2;refine ⟨(pF s).1::cs,by simp [thr,e],by simp [hl],fun c hm=>?_⟩;rcases List.mem_cons.mp hm with rfl | hm
  ·exact aY3 s
  ·exact hc c hm
noncomputable def kF (p:PyData->S3->Bool) (n:PyData->S3->S3) (f:PyData->S3->PyData) (n2:PyData->S3->S3):List PyData->S3->List PyData×S3
 | [],s=>([],s)
 | x::r,s=>if p x s=true then (f x (n x s)::(kF p n f n2 r (n2 x (n x s))).1,(kF p n f n2 r (n2 x (n x s))).2) else kF p n f n2 r (n x s)
theorem pA {g:XG} {tt:XR Bool} {te:XR W} {all:List PyData} {h:aA} {i:Nat} (p:PyData->S3->Bool) (n:PyData->S3->S3) (f:PyData->S3->PyData) (n2:PyData->S3->S3) (k:Nat) (hg:∀ w δ h,g w δ h=some (δ.set k (some w),h)) :
  ∀ (rest:List PyData) (δ:DSt) (ac:List PyData) (s:S3),(∀ x∈rest,∀ u s,tt ((δ.set k u).set k (some (.d x))) (h.set i (stL s))=some (p x s,h.set i (stL (n x s))))->(∀ x∈rest,∀ u s,te ((δ.set k u).set k (some (.d x))) (h.set i (stL s))=some (.d (f x s),h.set i (stL (n2 x s)))) ->
   aV g tt te none all rest δ (h.set i (stL s)) ac=some (ac++(kF p n f n2 rest s).1,h.set i (stL (kF p n f n2 rest s).2))
 | [],δ,ac,s,_,_=>by simp [aV,kF]
 | x::r,δ,ac,s,hf,ht=>by
  have e:=hf x List.mem_cons_self none s;rw [List.set_set] at e;have e2:=ht x List.mem_cons_self none;simp only [List.set_set] at e2;have more:∀ ac s',aV g tt te none all r (δ.set k (some (.d x))) (h.set i (stL s')) ac=some (ac++(kF p n f n2 r s').1,h.set i (stL (kF p n f n2 r s').2)):=fun ac s' =>
   pA p n f n2 k hg r _ _ _ (fun y hy u s=>by
    have:=hf y (List.mem_cons_of_mem _ hy) u s;rw [List.set_set] at this ⊢;rw [List.set_set];exact this) fun y hy u s=>by
    have:=ht y (List.mem_cons_of_mem _ hy) u s;rw [List.set_set] at this ⊢;rw [List.set_set];exact this
  rw [aV,dI,if_pos rfl,hg];simp only [Option.bind_some,e];cases hp:p x s
  ·simp [more,kF,hp]
  ·simp [e2,more,kF,hp]
theorem lG (p:PyData->S3->Bool) (n:PyData->S3->S3):∀ (m a:Nat) (s:S3),∃ ps:List (Nat×Int),(kF p n (fun x s=>.tuple [x,.int (vF s).1]) (fun _ s=>(vF s).2) (rng (a:Int) m) s).1=ps.map prP/\(ps.map (·.1)).Pairwise (· < ·)/\(∀ q∈ps,a<=q.1/\q.1 < a+m)/\ps.length<=m
 | 0,a,s=>⟨[],rfl,.nil,(fun _ z=>nomatch z),Nat.le_refl 0⟩
 | m+1,a,s=>by
  have er:rng (a:Int) (m+1)=.int a::rng ((a+1:Nat):Int) m:=by
   unfold rng;rw [List.range_succ_eq_map];simp [Function.comp_def];intro b hb;omega
  rw [er,kF];split
  ·obtain ⟨ps,e,hp,hb,hl⟩:=lG p n m (a+1) ((vF (n (.int a) s)).2);refine ⟨(a,(vF (n (.int a) s)).1)::ps,by simp only [e];rfl,?_,fun q hq=>?_,by simp only [List.length_cons];omega⟩
   ·rw [List.map_cons];refine .cons (fun k hk=>?_) hp;obtain ⟨q,hq,rfl⟩:=List.mem_map.mp hk;have:=hb q hq;show a < q.1;omega
   ·rcases List.mem_cons.mp hq with rfl | hq
    ·exact ⟨Nat.le_refl _,by show a < a+(m+1);omega⟩
    ·have:=hb q hq;omega
  ·obtain ⟨ps,e,hp,hb,hl⟩:=lG p n m (a+1) (n (.int a) s);exact ⟨ps,e,hp,fun q hq=>by have:=hb q hq;omega,by omega⟩
noncomputable def Sok:Stp->Prop
 | .call c=>c.ok
 | .look c=>c.ok
 | .lay ps=>ps≠[]/\ps.length<=9/\(∀ p∈ps,p.1 < 8)/\(ps.map (·.1)).Pairwise (· < ·)
noncomputable def cM6 (xs:List PyData) (x:PyData):atI (xs++[x]) (-1)=some x:=by
 simp [atI,L2.ixN];rw [if_pos (by omega),show (-1+((xs.length:Int)+1)).toNat=xs.length by omega];simp
noncomputable def aK0 (s:S3) (hk:aM s 9 < 5) (d:Nat) (h:aA) {i:Nat} (hi:i < h.length):aD T (d+4) "_law_step" [.c i] (h.set i (stL s))=some ((pF (digS s 9)).1.dat,h.set i (stL (pF (digS s 9)).2)):=by
 have e9:aX 9=true:=by decide
 simp [bV,hi,hk,e9]
noncomputable def bN1 (s:S3) (hk:aM s 9=5):∃ (r:SJ.Call×S3),r.1.ok/\∀ (d:Nat) (h:aA) (i:Nat),i < h.length->aD T (d+4) "_law_step" [.c i] (h.set i (stL s))=some (r.1.dat,h.set i (stL r.2)):=by
 have e9:aX 9=true:=by decide
 have e8:aX 8=true:=by decide
 obtain ⟨k,ek,hk'⟩:=bG (digS s 9) (b:=8) (by decide);obtain ⟨m,em,hm⟩:=bG (digS (digS s 9) 8) (b:=8 - k) (by omega);refine ⟨(.span k (k+1+m),digS (digS (digS s 9) 8) (8 - k)),⟨by omega,by omega⟩,fun d h i hi=>?_⟩;have h1:(k:Int) < 8:=hk';have h2:aX (8 - (k:Int))=true:=eS (by omega) (by omega);simp [bV,hi,hk,ek,em,h1,h2,e9,e8,Call.dat,szl,aQ]
noncomputable def bN2 (s:S3) (hk:aM s 9=6):∃ (r:SJ.Call×S3),r.1.ok/\∀ (d:Nat) (h:aA) (i:Nat),i < h.length->aD T (d+4) "_law_step" [.c i] (h.set i (stL s))=some (r.1.dat,h.set i (stL r.2)):=by
 have e9:aX 9=true:=by decide
 have e4:aX 4=true:=by decide
 obtain ⟨m,em,hm⟩:=bG (digS s 9) (b:=4) (by decide);obtain ⟨cs,ec,hl,hc⟩:=wK (rng 0 (m+1)) (digS (digS s 9) 4);have hl':cs.length=m+1:=by rw [hl];simp [rng]
 refine ⟨(.deal cs,(thr (fun _ s=>(pF s).1.dat) (fun _ s=>(pF s).2) (rng 0 (m+1)) (digS (digS s 9) 4)).2),⟨by omega,by omega,hc⟩,fun d h i hi=>?_⟩;have er:iW 0 (1+(m:Int))=true:=dL (by omega) (by omega);have et:(1+(m:Int)).toNat=m+1:=by omega
 simp [bV,hi,hk,em,Call.dat,szl,er,et,e9,e4,aQ];rw [rH (fun _ s=>(pF s).1.dat) (fun _ s=>(pF s).2) 0 (fun _ _ _=>rfl)]
 ·simp [ec]
 ·intro x _ u s;simp [hi]
noncomputable def bN3 (s:S3) (hk:aM s 9=7):∃ (r:SJ.Call×S3),r.1.ok/\∀ (d:Nat) (h:aA) (i:Nat),i < h.length->aD T (d+4) "_law_step" [.c i] (h.set i (stL s))=some ((Stp.look r.1).dat,h.set i (stL r.2)):=by
 have e9:aX 9=true:=by decide
 have e8:aX 8=true:=by decide
 have e3:aX 3=true:=by decide
 obtain ⟨k,ek,hk'⟩:=bG (digS s 9) (b:=8) (by decide);have h3:aM (pF (pF (pF (digS (digS s 9) 8)).2).2).2 3=0\/aM (pF (pF (pF (digS (digS s 9) 8)).2).2).2 3=1\/aM (pF (pF (pF (digS (digS s 9) 8)).2).2).2 3=2:=by
  have:=gA (pF (pF (pF (digS (digS s 9) 8)).2).2).2 (b:=3) (by decide);have:=gB (pF (pF (pF (digS (digS s 9) 8)).2).2).2 (b:=3) (by decide);omega
 rcases h3 with e | e | e
 ·refine ⟨(.one (pF (digS (digS s 9) 8)).1,digS (pF (pF (pF (digS (digS s 9) 8)).2).2).2 3),aY3 _,fun d h i hi=>?_⟩;simp [bV,hi,hk,ek,e,e9,e8,e3,Stp.dat,Call.dat,szl,aQ]
 ·refine ⟨(.span k 8,digS (pF (pF (pF (digS (digS s 9) 8)).2).2).2 3),⟨by omega,by omega⟩,fun d h i hi=>?_⟩;simp [bV,hi,hk,ek,e,e9,e8,e3,Stp.dat,Call.dat,szl,aQ]
 ·refine ⟨(.deal [(pF (pF (digS (digS s 9) 8)).2).1,(pF (pF (pF (digS (digS s 9) 8)).2).2).1],digS (pF (pF (pF (digS (digS s 9) 8)).2).2).2 3),⟨by simp,by simp,fun c hm=>?_⟩,fun d h i hi=>?_⟩
  ·simp at hm;rcases hm with rfl | rfl
   ·exact aY3 _
   ·exact aY3 _
  simp [bV,hi,hk,ek,e,e9,e8,e3,Stp.dat,Call.dat,szl,aQ]
theorem plP:∀ (ps:List (Nat×Int)) (m:Nat),plainsB (m+1) (ps.map prP)=true
 | [],m=>by simp
 | a::r,m=>by simp [prP,plP r]
noncomputable def cM7 (h:aA):xEq (.d (.list [])) (.d (.list [])) h=some true:=by simp [xEq,ref,PyData.eqv,PyData.eqvAll]
noncomputable def bN4 (ps:List (Nat×Int)) (hn:ps≠[]) (h:aA):xEq (.d (.list (ps.map prP))) (.d (.list [])) h=some false:=by
 cases ps with
 | nil=>exact absurd rfl hn
 | cons a r =>
  have:=plP (a::r);simp [xEq,ref,PyData.eqv,PyData.eqvAll,prP,plP]
@[simp] theorem dV8 (b:Bool) (h:aA):aS4 [.d (.bool b)] h=some (.d (.int (if b then 1 else 0)),h):=rfl
@[simp] theorem dV9 (x:PyData):cut [x] (some 0) none=[x]:=rfl
@[simp] theorem dW0 (x:PyData):cut [x] (some 1) none=[]:=cM0 x []
noncomputable def bN5 (s:S3) (hk:aM s 9=8):∃ (ps:List (Nat×Int)) (s':S3),Sok (.lay ps)/\∀ (d:Nat) (h:aA) (i:Nat),i < h.length->aD T (d+4) "_law_step" [.c i] (h.set i (stL s))=some ((Stp.lay ps).dat,h.set i (stL s')):=by
 have e9:aX 9=true:=by decide
 have e3:aX 3=true:=by decide
 have er:iW 0 8=true:=dL (by omega) (by omega);obtain ⟨ps,ep,hp,hb,hl⟩:=lG (fun _ s=>decide (aM s 3=0)) (fun _ s=>digS s 3) 8 0 (digS s 9);obtain ⟨s1,es⟩:∃ s1,s1=(kF (fun _ s=>decide (aM s 3=0)) (fun _ s=>digS s 3) (fun x s=>.tuple [x,.int (vF s).1]) (fun _ s=>(vF s).2) (rng 0 8) (digS s 9)).2:=⟨_,rfl⟩;have ec:∀ (d:Nat) (h:aA) (i:Nat),i < h.length->∀ (g:XG) (tt:XR Bool) (te:XR W) (all:List PyData) (δ:DSt),(∀ w δ h,g w δ h=some (δ.set 0 (some w),h)) ->
   (∀ x∈rng 0 8,∀ u s,tt ((δ.set 0 u).set 0 (some (.d x))) (h.set i (stL s))=some (decide (aM s 3=0),h.set i (stL (digS s 3)))) ->
   (∀ x∈rng 0 8,∀ u s,te ((δ.set 0 u).set 0 (some (.d x))) (h.set i (stL s))=some (.d (.tuple [x,.int (vF s).1]),h.set i (stL (vF s).2))) ->
   aV g tt te none all (rng 0 8) δ (h.set i (stL (digS s 9))) []=some (ps.map prP,h.set i (stL s1)):=fun d h i hi g tt te all δ hg h1 h2=>by
  rw [pA (fun _ s=>decide (aM s 3=0)) (fun _ s=>digS s 3) (fun x s=>.tuple [x,.int (vF s).1]) (fun _ s=>(vF s).2) 0 hg _ _ _ _ h1 h2,es];have ep':(kF (fun _ s=>decide (aM s 3=0)) (fun _ s=>digS s 3) (fun x s=>.tuple [x,.int (vF s).1]) (fun _ s=>(vF s).2) (rng 0 8) (digS s 9)).1=ps.map prP:=ep;rw [ep'];rfl
 rcases List.eq_nil_or_concat ps with rfl | ⟨qs,q,eq⟩
 ·refine ⟨[(7,(vF s1).1)],(vF s1).2,⟨by simp,by simp,by simp,by simp⟩,fun d h i hi=>?_⟩;simp [bV,hi,hk,er,e9,e3,Stp.dat,szl,aQ];rw [ec d h i hi]
  ·simp [prP,hi,aQ,szl,cM7]
  ·exact fun _ _ _=>rfl
  ·intro x _ u s;simp [hi,e3]
  ·intro x _ u s;simp [hi,szl]
 ·rw [List.concat_eq_append] at eq;subst eq;have hz:qs.length+1<=16777216:=by simp at hl;omega
  have hz2:qs.length+1+1<=16777216:=by simp at hl;omega
  have hpr:prP=fun p=>PyData.tuple [.int p.1,.int p.2]:=rfl;have hne:=bN4 (qs++[q]) (by simp);have hat:atI ((qs++[q]).map prP) (-1)=some (prP q):=by rw [List.map_append];exact cM6 _ _
  by_cases h7:q.1=7
  ·refine ⟨qs++[q],(vF s1).2,⟨by simp,by omega,(fun p hp=>by have:=hb p hp;omega),hp⟩,fun d h i hi=>?_⟩;have h7':(q.1:Int)=7:=by omega
   simp [bV,hi,hk,er,e9,e3,Stp.dat,szl,aQ];rw [ec d h i hi]
   ·simp [-List.map_append,hne,hat,prP,hi,aQ,szl,h7',hz];simp [hpr,h7']
   ·exact fun _ _ _=>rfl
   ·intro x _ u s;simp [hi,e3]
   ·intro x _ u s;simp [hi,szl]
  ·refine ⟨qs++[q]++[(7,(vF s1).1)],(vF s1).2,⟨by simp,by simp at hl ⊢;omega,fun p hp=>?_,?_⟩,fun d h i hi=>?_⟩
   ·rcases List.mem_append.mp hp with hp | hp
    ·have:=hb p hp;omega
    ·simp at hp;rw [hp];show 7 < 8;omega
   ·rw [List.map_append];refine List.pairwise_append.mpr ⟨hp,by simp,fun a ha b hb'=>?_⟩;simp at hb';subst hb';rw [List.map_append] at hp ha;have hlt:=(List.pairwise_append.mp hp).2.2;have hq:=hb q (by simp);rcases List.mem_append.mp ha with ha | ha
    ·have:=hlt a ha q.1 (by simp);omega
    ·simp at ha;omega
   have h7':¬ (q.1:Int)=7:=by omega
   simp [bV,hi,hk,er,e9,e3,Stp.dat,szl,aQ];rw [ec d h i hi]
   ·simp [-List.map_append,hne,hat,prP,hi,aQ,szl,h7',hz2];simp [hpr]
   ·exact fun _ _ _=>rfl
   ·intro x _ u s;simp [hi,e3]
   ·intro x _ u s;simp [hi,szl]
noncomputable def tT (s:S3):∃ r:Stp×S3,Sok r.1/\∀ (d:Nat) (h:aA) (i:Nat),i < h.length->aD T (d+4) "_law_step" [.c i] (h.set i (stL s))=some (r.1.dat,h.set i (stL r.2)):=by
 have h0:=gA s (b:=9) (by decide);have h9:=gB s (b:=9) (by decide)
 by_cases k5:aM s 9 < 5
 ·exact ⟨(.call (.one (pF (digS s 9)).1),(pF (digS s 9)).2),aY3 _,fun d h i hi=>aK0 s k5 d h hi⟩
 have:aM s 9=5\/aM s 9=6\/aM s 9=7\/aM s 9=8:=by omega
 rcases this with k | k | k | k
 ·obtain ⟨r,hr,e⟩:=bN1 s k;exact ⟨(.call r.1,r.2),hr,e⟩
 ·obtain ⟨r,hr,e⟩:=bN2 s k;exact ⟨(.call r.1,r.2),hr,e⟩
 ·obtain ⟨r,hr,e⟩:=bN3 s k;exact ⟨(.look r.1,r.2),hr,e⟩
 ·obtain ⟨ps,s',hr,e⟩:=bN5 s k;exact ⟨(.lay ps,s'),hr,e⟩
noncomputable def sF (s:S3):Stp×S3:=(tT s).choose
noncomputable def bN6 (s:S3):Sok (sF s).1:=(tT s).choose_spec.1
@[simp] theorem cM8 (d:Nat) (h:aA) {i:Nat} (s:S3) (hi:i < h.length):aD T (d+4) "_law_step" [.c i] (h.set i (stL s))=some ((sF s).1.dat,h.set i (stL (sF s).2)):=(tT s).choose_spec.2 d h i hi
theorem wL {n:Nat}:∀ (l:List Nat) (a:Nat),l.Pairwise (· < ·)->(∀ x∈l,a<=x/\x < n)->a<=n->l.length+a<=n
 | [],a,_,_,h=>by simpa using h
 | x::r,a,hp,hb,h=>by
  have hp':=List.pairwise_cons.mp hp;have hx:=hb x List.mem_cons_self;have:=wL r (x+1) hp'.2 (fun y hy=>⟨hp'.1 y hy,(hb y (List.mem_cons_of_mem _ hy)).2⟩) hx.2;rw [List.length_cons];omega
noncomputable def aB6 {ps:List (Nat×Int)} (h:Sok (.lay ps)):ps.length<=8:=by
 have:=wL (n:=8) (ps.map (·.1)) 0 h.2.2.2 (fun x hx=>by
  obtain ⟨p,hp,rfl⟩:=List.mem_map.mp hx;exact ⟨Nat.zero_le _,h.2.2.1 p hp⟩) (by decide)
 simpa using this
variable (d:Nat) (h:aA)
noncomputable def dnC (st:List Int):SJ.Call->SJ.Ans×List Int
 | .one o=>(.one (sd st o).1,(sd st o).2)
 | .span lo hi=>(.all ((st.drop lo).take (hi - lo)),st)
 | .deal cs=>(.each (dr st cs).1,(dr st cs).2)
noncomputable def bN7 {c:SJ.Call} (hc:c.ok) {st:List Int} (hl:st.length=8):(dnC st c).2.length=8:=by
 cases c with
 | one o=>rw [<- hl];exact yM (by rw [hl];exact hc)
 | span lo hi=>exact hl
 | deal cs=>rw [<- hl];exact yP cs st fun o ho=>by rw [hl];exact hc.2.2 o ho
noncomputable def kG {c:SJ.Call} (hc:c.ok) {st:List Int} (hl:st.length=8):Ans.fits c (dnC st c).1:=by
 cases c with
 | one o=>exact aB3 st o
 | span lo hi =>
  have h1:=hc.1;have h2:=hc.2;show ((st.drop lo).take (hi - lo)).length=hi - lo;simp;omega
 | deal cs=>exact aX9 cs st
noncomputable def rN {c:SJ.Call} (hc:c.ok) (st:List Int) (hl:st.length=8):aD T (d+4) "done" [.d (.tuple (st.map .int)),.d c.dat] h=some (.tuple [(dnC st c).1.dat,.tuple ((dnC st c).2.map .int)],h):=by
 cases c with
 | one o=>exact aY1 (d+1) h o st hc hl
 | span lo hi=>exact aJ9 (d+3) h lo hi (Nat.le_of_lt hc.1) hc.2 st hl
 | deal cs=>exact aJ7 d h cs hc.2.2 (by have:=hc.1;omega) st hl
noncomputable def dnS (st:List Int):Stp->PyData×List Int
 | .call c=>((dnC st c).1.dat,(dnC st c).2)
 | .look c=>((dnC st c).1.dat,st)
 | .lay ps=>(.tuple [.str "done"],ly st ps)
noncomputable def bN8 {p:Stp} (hp:Sok p) {st:List Int} (hl:st.length=8):(dnS st p).2.length=8:=by
 cases p with
 | call c=>exact bN7 hp hl
 | look c=>exact hl
 | lay ps=>rw [<- hl];exact aY0 ps st fun p hp'=>by rw [hl];exact hp.2.2.1 p hp'
noncomputable def cM9 {p:Stp} (hp:Sok p) {st:List Int} (hl:st.length=8):aD T (d+5) "done" [.d (.tuple (st.map .int)),.d p.dat] h=some (.tuple [(dnS st p).1,.tuple ((dnS st p).2.map .int)],h):=by
 cases p with
 | call c=>exact rN (d+1) h hp st hl
 | look c=>exact aJ8 d h fun h=>rN d h hp st hl
 | lay ps=>exact aY2 (d+2) h ps hp.2.2.1 st hl
noncomputable def iO:Stp->PyData->Bool
 | .call c,t=>aG t "refused" 1||bJ c t
 | .look c,t=>!aG t "refused" 1&&bJ c t
 | .lay _,t=>!aG t "refused" 1&&aG t "done" 1
noncomputable def cN0 (a:SJ.Ans):aG a.dat "refused" 1=false:=by
 cases a with
 | one a=>cases a<;>simp [Ans.dat,An1.dat,aG]
 | all ns=>simp [Ans.dat,aG]
 | each as=>simp [Ans.dat,aG]
noncomputable def kK {c:SJ.Call} (hc:c.ok) {a:SJ.Ans} (hf:Ans.fits c a):iO (.call c) a.dat=true/\iO (.look c) a.dat=true:=by
 simp [iO,aG0 hf hc,cN0]
end K13
set_option maxHeartbeats 400000
namespace K13
open PySem PySem.Spec PyProof.Rows L2 DL CI SJ
variable (d:Nat) (h:aA) (t:PyData)
noncomputable def aY4 (c:SJ.Call):aD T (d+5) "is_own_answer" [.d (.tuple [.str "look",c.dat]),.d t] h=some (.bool (bJ c t),h):=by
 rw [show d+5=(d+4)+1 from rfl,bC];simp [PyData.eqv,szl,oW]
noncomputable def bN9 (ps:PyData):aD T (d+5) "is_own_answer" [.d (.tuple [.str "lay",ps]),.d t] h=some (.bool (aG t "done" 1),h):=by
 simp [bC,PyData.eqv,szl]
noncomputable def aY5 {c:SJ.Call} (hc:c.ok):aD T (d+9) "is_answer" [.d (.tuple [.str "look",c.dat]),.d t] h=some (.bool (!aG t "refused" 1&&bJ c t),h):=by
 have hs:dS (.tuple [.str "look",c.dat])=true:=by
  cases c with
  | one o=>cases o<;>simp [Call.dat,One.dat,dS]
  | span lo hi=>simp [Call.dat,dS]
  | deal cs=>simp [Call.dat,dS]
 simp [iL,eO (d) _ h hs,(iU hc).2.1,(iU hc).1];cases e:aG t (Str.ofString "refused") 1
 ·simp [aY4 (d+3)]
 ·simp [(iU hc).1]
noncomputable def bO0 {ps:List (Nat×Int)} (hp:Sok (.lay ps)):aD T (d+9) "is_answer" [.d (.tuple [.str "lay",.tuple (ps.map prP)]),.d t] h=some (.bool (!aG t "refused" 1&&aG t "done" 1),h):=by
 have hl:=aB6 hp;have hs:dS (.tuple [.str "lay",.tuple (ps.map prP)])=true:=by simp [dS];omega
 have hg:=aQ4 hp.1 hp.2.2.2 hp.2.2.1 hl;simp [iL,eO (d) _ h hs,hg];cases e:aG t (Str.ofString "refused") 1
 ·simp [bN9 (d+3)]
 ·simp [hg]
noncomputable def pB {p:Stp} (hp:Sok p):aD T (d+9) "is_answer" [.d p.dat,.d t] h=some (.bool (iO p t),h):=by
 cases p with
 | call c=>exact yK d t h hp
 | look c=>exact aY5 d h t hp
 | lay ps=>exact bO0 d h t hp
noncomputable def pC {p:Stp} (hp:Sok p):aD T (d+8) "is_step" [.d p.dat] h=some (.bool true,h):=by
 cases p with
 | call c =>
  rw [show (Stp.call c).dat=c.dat from rfl,eO _ _ _ (oX hp),(gG hp).2.1]
 | look c =>
  have hs:dS (.tuple [.str "look",c.dat])=true:=by
   cases c with
   | one o=>cases o<;>simp [Call.dat,One.dat,dS]
   | span lo hi=>simp [Call.dat,dS]
   | deal cs=>simp [Call.dat,dS]
  rw [show (Stp.look c).dat=.tuple [.str "look",c.dat] from rfl,eO _ _ _ hs,(iU hp).2.1]
 | lay ps=>exact yL d h hp.1 (by have:=aB6 hp;omega) hp.2.2.1 hp.2.2.2
noncomputable def pY:An1->An1
 | .got v=>.got (v+1)
 | .yes=>.no
 | .no=>.yes
 | .dn=>.dn
noncomputable def aK1:SJ.Ans->SJ.Ans
 | .one a=>.one (pY a)
 | .all ns=>.all ((ns.headD 0 - 1)::ns.tail)
 | .each as=>.each (as.map pY)
noncomputable def rO {o:One} {a:An1} (hf:An1.fits o a):An1.fits o (pY a):=by
 cases o<;>cases a<;>simp [An1.fits] at hf<;>simp [An1.fits,pY]
theorem rP:∀ {os:List One} {as:List An1},Fit2 os as->Fit2 os (as.map pY)
 | _,_,.nil=>.nil
 | _,_,.cons h t=>.cons (rO h) (rP t)
noncomputable def wM {c:SJ.Call} (hc:c.ok) {a:SJ.Ans} (hf:Ans.fits c a):Ans.fits c (aK1 a):=by
 cases c<;>cases a<;>simp only [Ans.fits] at hf<;>first | exact hf.elim | skip
 ·exact rO hf
 ·rename_i lo hi ns;have:=hc.1;show ((ns.headD 0 - 1)::ns.tail).length=hi - lo;simp;omega
 ·exact rP hf
noncomputable def yQ (a:An1):aD T (d+1) "_law_altered" [.d a.dat] h=some ((pY a).dat,h):=by
 cases a<;>simp [fN,An1.dat,pY,szl]
noncomputable def aY6 (a:SJ.Ans) (ha:∀ ns,a=.all ns->ns≠[]/\ns.length<=8):aD T (d+2) "_law_altered" [.d a.dat] h=some ((aK1 a).dat,h):=by
 cases a with
 | one a=>exact yQ (d+1) h a
 | all ns =>
  cases ns with
  | nil=>exact absurd rfl (ha [] rfl).1
  | cons n r =>
   have:=cM0 (.int n) (r.map .int);have hr:1+r.length<=16777216:=by have:=(ha _ rfl).2;simp at this;omega
   simp [fN,Ans.dat,aK1,szl,this,hr]
 | each as =>
  rw [show d+2=(d+1)+1 from rfl,fN];simp [Ans.dat,aK1,szl];have e1:as.map An1.dat=(as.map fun a=>(a.dat,(pY a).dat)).map (·.1):=by simp
  have e2:as.map (fun a=>(pY a).dat)=(as.map fun a=>(a.dat,(pY a).dat)).map (·.2):=by simp
  rw [e1,dG (fun δ=>∃ x,δ=[x])]
  ·simp [Function.comp_def]
  ·exact ⟨_,rfl⟩
  ·rintro q hq δ ⟨x,rfl⟩;obtain ⟨a,ha,rfl⟩:=List.mem_map.mp hq;exact ⟨_,rfl,⟨_,rfl⟩,by simp [yQ d]⟩
end K13
namespace K13
open PySem PySem.Spec PyProof.Rows L2 DL CI SJ
structure It where
 p:Stp
 t:PyData
 w:String
noncomputable def It.dat (x:It):PyData:=.tuple [x.p.dat,x.t,.str (Str.ofString x.w)]
noncomputable def aY7:PyData:=.tuple [.str "refused"]
def tOk (t:PyData):Prop:=t=.none\/t=aY7\/∃ a:SJ.Ans,t=a.dat
structure It.ok (x:It):Prop where
 s:Sok x.p
 a:x.t=.none\/iO x.p x.t=true
 t:tOk x.t
 w:x.w="must"\/x.w="may"\/x.w="out"
variable (d:Nat) (h:aA)
noncomputable def t_cases {t:PyData} (ht:tOk t):t=.none\/∃ xs,t=.tuple xs:=by
 rcases ht with rfl | rfl | ⟨a,rfl⟩
 ·exact .inl rfl
 ·exact .inr ⟨_,rfl⟩
 ·right;cases a with
  | one a=>cases a<;>exact ⟨_,rfl⟩
  | all ns=>exact ⟨_,rfl⟩
  | each as=>exact ⟨_,rfl⟩
noncomputable def wN {w:String} (hw:w="must"\/w="may"\/w="out"):xIn (.d (.str (Str.ofString w))) (.d (.tuple [.str (Str.ofString "must"),.str (Str.ofString "may"),.str (Str.ofString "out")])) h=some true:=by
 rcases hw with rfl | rfl | rfl<;>simp [xIn,ref,PyData.eqv]
theorem gW {α:Type} (f:α->PyData):∀ xs:List α,dH (xs.map ((fun _=>PyData.bool true) ∘ f))=some (xs.map fun _=>true)
 | []=>rfl
 | x::r=>by
  show dH (.bool true::r.map ((fun _=>PyData.bool true) ∘ f))=_;rw [dH,gW f r];rfl
noncomputable def rQ {x:It} (hx:x.ok):aD T (d+10) "is_item" [.d x.dat] h=some (.bool true,h):=by
 obtain ⟨p,t,w⟩:=x;obtain ⟨hs,ha,ht,hw⟩:=hx;dsimp only at hs ha ht hw;have e1:=pC (d+1) h hs;have e2:=pB d h t hs;rcases t_cases ht with rfl | ⟨xs,rfl⟩
 ·simp [dJ,It.dat,bL,e1,isi,eU,wN h hw]
 ·have ha':iO p (.tuple xs)=true:=by
   rcases ha with ha | ha
   ·cases ha
   ·exact ha
  rw [ha'] at e2;simp [dJ,It.dat,bL,e1,e2,isi,eU,wN h hw]
noncomputable def dM {xs:List It} (hx:∀ x∈xs,x.ok) (hl:xs.length<=120):aD T (d+11) "are_items" [.d (.tuple (xs.map It.dat))] h=some (.bool true,h):=by
 have hl':(xs.length:Int)<=120:=by omega
 simp [fS,isi,eU,hl',aQ];rw [bK (fun x=>.bool true) 0 (fun _ _ _=>rfl)]
 ·simp [gW]
 ·intro y hy u;obtain ⟨x,hx',rfl⟩:=List.mem_map.mp hy;simp [rQ d h (hx x hx')]
noncomputable def aK2 {ns:List Int} {n:Int} (hb:∀ x∈ns,0<=x/\x < n):aD T (d+3) "are_numbers" [.d (.tuple (ns.map .int)),.d (.int n)] h=some (.bool true,h):=by
 simp [fZ,aQ];rw [bK (fun x=>.bool true) 0 (fun _ _ _=>rfl)]
 ·simp [gW]
 ·intro y hy u;obtain ⟨x,hx',rfl⟩:=List.mem_map.mp hy;have:=hb x hx';simp [bP,fV];omega
theorem rR:∀ ns:List Int,gX (ns.map .int)=some ns
 | []=>rfl
 | a::r=>by simp [gX,rR r]
noncomputable def aY8 {ns:List Int} (h:ns.Nodup):ST.dd ns=ns:=by
 unfold ST.dd
 suffices H:∀ (l ac:List Int),(ac++l).Nodup->l.foldl step_dedup ac=ac++l by simpa using H ns [] (by simpa using h)
 intro l;induction l with
 | nil=>simp
 | cons a r ih =>
  intro ac hn;rw [List.foldl_cons];have hna:a∉ac:=fun hm=>by
   have:=(List.nodup_append.mp hn).2.2 a hm a List.mem_cons_self;exact this rfl
  have e:step_dedup ac a=ac++[a]:=by
   unfold step_dedup;simp [hna]
  rw [e,ih (ac++[a]) (by simpa using hn)];simp
noncomputable def kM {ns:List Int} {n:Int} (hb:∀ x∈ns,0<=x/\x < n) (hd:ns.Nodup) (hl:ns.length<=62):aD T (d+4) "are_unlike" [.d (.tuple (ns.map .int)),.d (.int ns.length),.d (.int n)] h=some (.bool true,h):=by
 have e:=aK2 d h hb;simp [cG,bL,e,xLS,rR,aY8 hd,hl]
end K13
namespace K13
open PySem PySem.Spec PyProof.Rows L2 DL CI SJ
variable (d:Nat) (h:aA)
noncomputable def p2 (p:Nat×Nat):PyData:=.tuple [.int p.1,.int p.2]
noncomputable def p3 (p:Nat×Nat×Nat):PyData:=.tuple [.int p.1,.int p.2.1,.int p.2.2]
structure Pb where
 st:List Int
 its:List It
 ps:List (Nat×Nat)
 ts:List (Nat×Nat×Nat)
noncomputable def Pb.dat (b:Pb):PyData:=.tuple [.tuple (b.st.map .int),.tuple (b.its.map It.dat),.tuple (b.ps.map p2),.tuple (b.ts.map p3)]
def must (its:List It) (x:Nat):Prop:=∃ y,its[x]?=some y/\y.w="must"
structure Pb.ok (b:Pb):Prop where
 st:b.st.length=8
 il:b.its.length<=120
 its:∀ x∈b.its,x.ok
 pl:b.ps.length<=100
 ps:∀ p∈b.ps,p.1 < b.its.length/\p.2 < b.its.length/\p.1≠p.2
 tl:b.ts.length<=100
 ts:∀ p∈b.ts,p.1 < b.its.length/\p.2.1 < b.its.length/\p.2.2 < b.its.length/\p.1≠p.2.1/\p.1≠p.2.2/\p.2.1≠p.2.2/\must b.its p.1/\must b.its p.2.1
noncomputable def dN {ps:List (Nat×Nat)} {n:Nat} (hl:ps.length<=4000) (hp:∀ p∈ps,p.1 < n/\p.2 < n/\p.1≠p.2):aD T (d+5) "are_pairs" [.d (.tuple (ps.map p2)),.d (.int n)] h=some (.bool true,h):=by
 have hl':¬ (4000:Int) < ps.length:=by omega
 simp [fT,isi,eU,hl',aQ];rw [bK (fun x=>.bool true) 0 (fun _ _ _=>rfl)]
 ·simp [gW]
 ·intro y hy u;obtain ⟨p,hm,rfl⟩:=List.mem_map.mp hy;obtain ⟨h1,h2,h3⟩:=hp p hm;have e:=kM d h (ns:=[(p.1:Int),(p.2:Int)]) (n:=n) (by simp;omega) (by simp;omega) (by simp);have e':aD T (d+4) "are_unlike" [.d (p2 p),.d (.int 2),.d (.int n)] h=some (.bool true,h):=e;simp [e']
noncomputable def pD {its:List It} {x:Nat} {y:It} (e:its[x]?=some y):atI (its.map It.dat) (x:Int)=some y.dat:=by
 have hx:x < its.length:=(List.getElem?_eq_some_iff.mp e).1;exact fQ (by simp [e])
noncomputable def jB {its:List It} {ts:List (Nat×Nat×Nat)} (hl:ts.length<=4000) (hp:∀ p∈ts,p.1 < its.length/\p.2.1 < its.length/\p.2.2 < its.length/\p.1≠p.2.1/\p.1≠p.2.2/\p.2.1≠p.2.2/\must its p.1/\must its p.2.1):aD T (d+5) "are_triples" [.d (.tuple (ts.map p3)),.d (.tuple (its.map It.dat))] h=some (.bool true,h):=by
 have hl':¬ (4000:Int) < ts.length:=by omega
 simp [dA,isi,eU,hl',aQ];rw [bK (fun x=>.bool true) 0 (fun _ _ _=>rfl)]
 ·simp [gW];rw [rJ (fun _=>.bool true) (fun δ=>∃ a b c,δ=[a,b,c,some (.d (.tuple (its.map It.dat)))])]
  ·simp [gW]
  ·exact ⟨_,_,_,rfl⟩
  ·rintro y hy δ ⟨a,b,c,rfl⟩;obtain ⟨p,hm,rfl⟩:=List.mem_map.mp hy;obtain ⟨h1,h2,h3,h4,h5,h6,⟨x1,e1,w1⟩,⟨x2,e2,w2⟩⟩:=hp p hm;refine ⟨[some (.d (.int p.1)),some (.d (.int p.2.1)),some (.d (.int p.2.2)),_],by simp [p3],⟨_,_,_,rfl⟩,?_⟩;simp [pD e1,pD e2,It.dat,w1,w2,PyData.eqv]
 ·intro y hy u;obtain ⟨p,hm,rfl⟩:=List.mem_map.mp hy;obtain ⟨h1,h2,h3,h4,h5,h6,_⟩:=hp p hm;have e:=kM d h (ns:=[(p.1:Int),(p.2.1:Int),(p.2.2:Int)]) (n:=its.length) (by simp;omega) (by simp;omega) (by simp);have e':aD T (d+4) "are_unlike" [.d (p3 p),.d (.int 3),.d (.int its.length)] h=some (.bool true,h):=e;simp [e']
noncomputable def bW {st:List Int} (hl:st.length=8):aD T (d+3) "is_stand" [.d (.tuple (st.map .int))] h=some (.bool true,h):=by
 have:=eX d h (st.map .int);simp [jK,bL,hl];simp [fV]
noncomputable def tU {b:Pb} (hb:b.ok):aD T (d+12) "is_problem" [.d b.dat] h=some (.bool true,h):=by
 have e1:=bW (d+8) h hb.st;have e2:=dM d h hb.its (by have:=hb.il;omega);have e3:=dN (d+6) h (Nat.le_trans hb.pl (by decide)) hb.ps;have e4:=jB (d+6) h (Nat.le_trans hb.tl (by decide)) hb.ts;simp [bY,Pb.dat,bL,e1,e2,e3,e4]
end K13
namespace K13
open PySem PySem.Spec PyProof.Rows L2 DL CI SJ
variable (d:Nat) (h:aA)
noncomputable def dD0 (st:List Int) (p:Stp):tOk (dnS st p).1/\(dnS st p).1≠.none:=by
 have na:∀ a:SJ.Ans,a.dat≠.none:=fun a=>by
  cases a with
  | one a=>cases a<;>simp [Ans.dat,An1.dat]
  | all ns=>simp [Ans.dat]
  | each as=>simp [Ans.dat]
 cases p with
 | call c=>exact ⟨.inr (.inr ⟨_,rfl⟩),na _⟩
 | look c=>exact ⟨.inr (.inr ⟨_,rfl⟩),na _⟩
 | lay ps=>exact ⟨.inr (.inr ⟨.one .dn,rfl⟩),by simp [dnS]⟩
end K13
namespace K13
open PySem PySem.Spec PyProof.Rows L2 DL CI SJ
noncomputable def nI (k:Nat):PyData:=.int k
noncomputable def yR (its:List It) (k:Nat):Bool:=match its[k]? with
 | some y=>decide (y.w="must")
 | none=>false
noncomputable def mus (its:List It):List Nat:=(List.range its.length).filter (yR its)
noncomputable def sq {α β:Type} {x:Option α} {f:α->Option β} {R:Option β} (a:α) (e:x=some a) (k:f a=R):x.bind f=R:=by
 rw [e];exact k
noncomputable def pst (n:Nat) (a:List (Nat×Nat)×S3):List (Nat×Nat)×S3 :=
 if 1 < n then (a.1++[((aM a.2 n).toNat,((aM a.2 n).toNat+1+(aM (digS a.2 n) (n - 1)).toNat)%n)],digS (digS a.2 n) (n - 1)) else a
noncomputable def itP (n:Nat) (s:S3):Nat->List (Nat×Nat)×S3
 | 0=>([],s)
 | k+1=>pst n (itP n s k)
theorem tV (n:Nat) (s:S3):∀ k,(itP n s k).1.length<=k
 | 0=>Nat.le_refl 0
 | k+1=>by
  have:=tV n s k;unfold itP pst;split
  ·simp;omega
  ·omega
noncomputable def aY9 {n x y:Nat} (hx:x < n) (hy:y+1 < n):x≠(x+1+y)%n:=by
 by_cases h:x+1+y < n
 ·rw [Nat.mod_eq_of_lt h];omega
 ·rw [Nat.mod_eq_sub_mod (by omega),Nat.mod_eq_of_lt (by omega)];omega
theorem yS (n:Nat) (s:S3):∀ k,∀ p∈(itP n s k).1,p.1 < n/\p.2 < n/\p.1≠p.2
 | 0,p,hp=>nomatch hp
 | k+1,p,hp=>by
  unfold itP pst at hp;split at hp
  ·rename_i hn;rcases List.mem_append.mp hp with hp | hp
   ·exact yS n s k p hp
   ·simp at hp;subst hp;obtain ⟨x,ex,hx⟩:=bG (itP n s k).2 (b:=n) (by omega);obtain ⟨y,ey,hy⟩:=bG (digS (itP n s k).2 n) (b:=n - 1) (by omega);rw [ex,ey];simp only [Int.toNat_natCast];exact ⟨by omega,Nat.mod_lt _ (by omega),aY9 (by omega) (by omega)⟩
  ·exact yS n s k p hp
section
variable {h:aA} {i:Nat} (hi:i < h.length)
include hi
noncomputable def gl (xs:List PyData) (s:S3):((h++[Cell.l xs]).set i (stL s))[h.length]?=some (Cell.l xs):=by
 rw [List.getElem?_set_ne (by omega)];simp
noncomputable def gl2 (xs:List PyData) (s:S3) (pf:h.length < ((h++[Cell.l xs]).set i (stL s)).length):((h++[Cell.l xs]).set i (stL s))[h.length]'pf=.l xs:=by
 have:=gl hi xs s;rw [List.getElem?_eq_getElem pf] at this;exact Option.some.inj this
noncomputable def gm (xs:List PyData) (s:S3):pQ (Str.ofString "append") (.c h.length) ((h++[Cell.l xs]).set i (stL s))=true:=by
 unfold pQ;rw [if_pos rfl];dsimp only;rw [gl hi]
noncomputable def gs (xs ys:List PyData) (s:S3):((h++[Cell.l xs]).set i (stL s)).set h.length (Cell.l ys)=(h++[Cell.l ys]).set i (stL s):=by
 rw [List.set_comm _ _ (by omega)];simp
noncomputable def g_t (xs:List PyData) (s:S3):cQ [.c h.length] ((h++[Cell.l xs]).set i (stL s))=some (.d (.tuple xs),(h++[Cell.l xs]).set i (stL s)):=by
 unfold cQ ref;dsimp only;rw [gl hi]
noncomputable def gi (c:Cell):i < (h++[c]).length:=by simp;omega
end
noncomputable def bO1 (d:Nat) (h:aA) {i n:Nat} (s:S3) (hi:i < h.length) (hn:n<=120):aD T (d+2) "_law_pairs" [.c i,.d (.int n)] (h.set i (stL s))=some (.tuple ((itP n (digS s 5) (aM s 5).toNat).1.map p2),h.set i (stL (itP n (digS s 5) (aM s 5).toNat).2)):=by
 have e5:aX 5=true:=by decide
 obtain ⟨k,ek,hk⟩:=bG s (b:=5) (by decide);have er:iW 0 (k:Int)=true:=dL (by omega) (by omega);have sa:∀ (s:S3) (L:aA),h.set i (stL s)++L=(h++L).set i (stL s):=fun s L=>fH hi;have g1:=gi hi (Cell.l []);have dg:=eT d (h++[Cell.l []]) s 5 g1 (by decide) e5;rw [show d+2=(d+1)+1 from rfl,tQ];simp [cX,szl,sa,dg,ek,er];generalize hr:cW _ _ _ _ _ _ _=r;have kk:∃ δ' h',r=some (.nx δ',h')/\∃ (x3 x4:Option W),δ'=[some (.c i),some (.d (.int n)),some (.c h.length),x3,x4]/\h'=(h++[Cell.l ((itP n (digS s 5) k).1.map p2)]).set i (stL (itP n (digS s 5) k).2):=by
  rw [<- hr];clear hr;refine eJ (fun m δ' h'=>∃ (x3 x4:Option W),δ'=[some (.c i),some (.d (.int n)),some (.c h.length),x3,x4]/\h'=(h++[Cell.l ((itP n (digS s 5) m).1.map p2)]).set i (stL (itP n (digS s 5) m).2)) ⟨_,_,rfl,rfl⟩ (fun δ h'=>?_) ?_
  ·rw [CI.rng_len];exact id
  ·rintro m hm δ h' ⟨x3,x4,rfl,rfl⟩;have ll:=tV n (digS s 5) m;have hm':m < k:=by simpa [rng] using hm
   refine ⟨[some (.c i),some (.d (.int n)),some (.c h.length),some (.d (rng 0 k)[m]),x4],_,rfl,?_⟩;rw [itP];generalize itP n (digS s 5) m=q at *;obtain ⟨L,t⟩:=q;dsimp only at *;have l1:L.length < 16777216:=by omega
   by_cases h1:1 < n
   ·have h1':(1:Int) < n:=by omega
    obtain ⟨x,ex,hx⟩:=bG t (b:=n) (by omega);obtain ⟨y,ey,hy⟩:=bG (digS t n) (b:=n - 1) (by omega);have d1:=eT d (h++[Cell.l (L.map p2)]) t n (gi hi _) (by omega) (eS (by omega) (by omega));have d2:=eT d (h++[Cell.l (L.map p2)]) (digS t n) (n - 1) (gi hi _) (by omega) (eS (by omega) (by omega));have h0n:0 < n:=by omega
    have dn:aX (n:Int)=true:=eS (by omega) (by omega);refine ⟨[some (.c i),some (.d (.int n)),some (.c h.length),some (.d (rng 0 k)[m]),some (.d (.int x))],(h++[Cell.l ((L++[(x,(x+1+y)%n)]).map p2)]).set i (stL (digS (digS t n) (n - 1))),?_,_,_,rfl,?_⟩
    ·have em:((x:Int)+1+y)%n=(((x+1+y)%n:Nat):Int):=by simp
     simp [h1',d1,d2,ex,ey,gl hi,gl2 hi,gm hi,gs hi,l1,szl,dn,p2,h0n]
    ·simp [pst,h1,ex,ey]
   ·have h1':¬ (1:Int) < n:=by omega
    refine ⟨[some (.c i),some (.d (.int n)),some (.c h.length),some (.d (rng 0 k)[m]),x4],(h++[Cell.l (L.map p2)]).set i (stL t),by simp [h1'],_,_,rfl,?_⟩;simp [pst,h1]
 obtain ⟨δ',h',rfl,x3,x4,rfl,rfl⟩:=kk;have o1:∀ L s',okP (h.set i (stL s)) ((h++L).set i (stL s'))=True:=fun L s'=>aW2 s' hi;have o2:∀ (L:aA) (s':S3),((h++L).set i (stL s')).take h.length=h.set i (stL s'):=fun L s'=>aW3 hi;simp [g_t hi,szl,o1,o2]
noncomputable def rst (n a b:Nat):List Nat:=(List.range n).filter fun z=>decide (z≠a)&&decide (z≠b)
noncomputable def lH (n:Nat):rng 0 n=(List.range n).map nI:=cM2 n
noncomputable def aZ0 (p:PyData->Bool) (q:Nat->Bool) (n:Nat) (h:∀ k,k < n->p (nI k)=q k):((rng 0 n).filter p).map id=((List.range n).filter q).map nI:=by
 rw [lH,List.map_id,List.filter_map]
 congr 1
 exact List.filter_congr fun k hk=>h k (List.mem_range.mp hk)
noncomputable def nB {its:List It} {x:Nat} (h:x∈mus its):x < its.length/\must its x:=by
 obtain ⟨h1,h2⟩:=List.mem_filter.mp h;have hx:=List.mem_range.mp h1;refine ⟨hx,its[x],by simp [hx],?_⟩
 simpa [yR,hx] using h2
noncomputable def aK3 (its:List It):(mus its).Nodup:=List.Pairwise.filter _ List.nodup_range
noncomputable def aB7 {n a b:Nat} (hn:2 < n):0 < (rst n a b).length:=by
 apply List.length_pos_iff.mpr;intro e;have hz:∀ z,z < 3->z=a\/z=b:=fun z hz=>by
  by_cases h:z≠a/\z≠b
  ·have:z∈rst n a b:=List.mem_filter.mpr ⟨List.mem_range.mpr (by omega),by simp [h.1,h.2]⟩;rw [e] at this;cases this
  ·omega
 have h0:=hz 0 (by omega);have h1:=hz 1 (by omega);have h2:=hz 2 (by omega);omega
noncomputable def tst (its:List It) (a:List (Nat×Nat×Nat)×S3):List (Nat×Nat×Nat)×S3 :=
 if 1 < (mus its).length/\2 < its.length then
  let l:=(mus its).length
  let x:=(aM a.2 l).toNat
  let s1:=digS a.2 l
  let y:=(x+1+(aM s1 (l - 1)).toNat)%l
  let s2:=digS s1 (l - 1)
  let r:=rst its.length ((mus its).getD x 0) ((mus its).getD y 0)
  (a.1++[((mus its).getD x 0,(mus its).getD y 0,r.getD (aM s2 r.length).toNat 0)],digS s2 r.length)
 else a
noncomputable def itT (its:List It) (s:S3):Nat->List (Nat×Nat×Nat)×S3
 | 0=>([],s)
 | k+1=>tst its (itT its s k)
theorem tW (its:List It) (s:S3):∀ k,(itT its s k).1.length<=k
 | 0=>Nat.le_refl 0
 | k+1=>by
  have:=tW its s k;unfold itT tst;split
  ·simp;omega
  ·omega
noncomputable def pE {l:List Nat} {x:Nat} (h:x < l.length):l.getD x 0∈l:=by
 rw [List.getD_eq_getElem?_getD,List.getElem?_eq_getElem h];exact List.getElem_mem h
theorem yT (its:List It) (s:S3):∀ k,∀ p∈(itT its s k).1,p.1 < its.length/\p.2.1 < its.length/\p.2.2 < its.length/\p.1≠p.2.1/\p.1≠p.2.2/\p.2.1≠p.2.2/\must its p.1/\must its p.2.1
 | 0,p,hp=>nomatch hp
 | k+1,p,hp=>by
  unfold itT tst at hp;split at hp
  ·rename_i hn;rcases List.mem_append.mp hp with hp | hp
   ·exact yT its s k p hp
   ·simp only [List.mem_singleton] at hp;obtain ⟨x,ex,hx⟩:=bG (itT its s k).2 (b:=(mus its).length) (by omega);obtain ⟨y,ey,hy⟩:=bG (digS (itT its s k).2 (mus its).length) (b:=(mus its).length - 1) (by omega);rw [ex,ey] at hp;simp only [Int.toNat_natCast] at hp;have hm:(x+1+y)%(mus its).length < (mus its).length:=Nat.mod_lt _ (by omega);have hne:=aY9 (n:=(mus its).length) (x:=x) (y:=y) (by omega) (by omega);generalize (x+1+y)%(mus its).length=y2 at *;have m1:=pE (l:=mus its) (x:=x) (by omega);have m2:=pE (l:=mus its) hm;have hab:(mus its).getD x 0≠(mus its).getD y2 0:=fun e=>hne ((List.getD_inj (by omega) hm (aK3 its)).mp e);generalize hA:(mus its).getD x 0=A at *;generalize hB:(mus its).getD y2 0=B at *;have hr:=aB7 (n:=its.length) (a:=A) (b:=B) hn.2;obtain ⟨z,ez,hz⟩:=bG (digS (digS (itT its s k).2 (mus its).length) ((mus its).length - 1)) (b:=(rst its.length A B).length) (by omega);rw [ez] at hp;simp only [Int.toNat_natCast] at hp;have m3:=pE (l:=rst its.length A B) (x:=z) (by omega);obtain ⟨r1,r2⟩:=List.mem_filter.mp m3;have r3:=List.mem_range.mp r1;simp at r2;subst hp;exact ⟨(nB m1).1,(nB m2).1,r3,hab,fun e=>r2.1 e.symm,fun e=>r2.2 e.symm,(nB m1).2,(nB m2).2⟩
  ·exact yT its s k p hp
noncomputable def pM (its:List It):PyData->Bool
 | .int k=>yR its k.toNat
 | _=>false
noncomputable def pR (a b:Nat):PyData->Bool
 | .int k=>decide (k≠a)&&decide (k≠b)
 | _=>false
noncomputable def aZ1 {l:List Nat} {x:Nat} (h:x < l.length):atI (l.map nI) (x:Int)=some (.int (l.getD x 0)):=by
 apply fQ;rw [List.getElem?_map,List.getElem?_eq_getElem h,List.getD_eq_getElem?_getD,List.getElem?_eq_getElem h];rfl
noncomputable def aK4 (d:Nat) (h:aA) {i:Nat} (s:S3) (hi:i < h.length) {its:List It} (hn:its.length<=120):aD T (d+2) "_law_triples" [.c i,.d (.tuple (its.map It.dat))] (h.set i (stL s))=some (.tuple ((itT its (digS s 4) (aM s 4).toNat).1.map p3),h.set i (stL (itT its (digS s 4) (aM s 4).toNat).2)):=by
 have e4:aX 4=true:=by decide
 obtain ⟨k,ek,hk⟩:=bG s (b:=4) (by decide);have er:iW 0 (k:Int)=true:=dL (by omega) (by omega);have en:iW 0 (its.length:Int)=true:=dL (by omega) (by omega);have sa:∀ (s:S3) (L:aA),h.set i (stL s)++L=(h++L).set i (stL s):=fun s L=>fH hi;have dg:=eT d (h++[Cell.l []]) s 4 (gi hi (.l [])) (by decide) e4;rw [show d+2=(d+1)+1 from rfl,oT];simp [szl,en,aQ];rw [mY (pM its) id (fun δ=>∃ a,δ=[a,some (.d (.tuple (its.map It.dat)))]) _ _ _ ⟨_,rfl⟩ (fun z hz δ ⟨a,e⟩=>by
  subst e;rw [lH] at hz;obtain ⟨q,hq,rfl⟩:=List.mem_map.mp hz;have hq:=List.mem_range.mp hq;have e6:=pD (List.getElem?_eq_getElem hq);refine ⟨[some (.d (nI q)),_],rfl,⟨_,rfl⟩,?_,fun _=>by simp⟩;simp [nI,e6,It.dat,PyData.eqv,pM,yR,hq];try rfl)]
 rw [List.nil_append,aZ0 (pM its) (yR its) its.length (fun k _=>by simp [pM,nI])];rw [show (List.range its.length).filter (yR its)=mus its from rfl];simp [cX,szl,sa,dg,ek,er];generalize hr:cW _ _ _ _ _ _ _=r;have kk:∃ δ' h',r=some (.nx δ',h')/\∃ (x2 x5 x6 x7:Option W),δ'=[some (.c i),some (.d (.tuple (its.map It.dat))),x2,some (.d (.list ((mus its).map nI))),some (.c h.length),x5,x6,x7]/\h'=(h++[Cell.l ((itT its (digS s 4) k).1.map p3)]).set i (stL (itT its (digS s 4) k).2):=by
  rw [<- hr];clear hr;refine eJ (fun m δ' h'=>∃ (x2 x5 x6 x7:Option W),δ'=[some (.c i),some (.d (.tuple (its.map It.dat))),x2,some (.d (.list ((mus its).map nI))),some (.c h.length),x5,x6,x7]/\h'=(h++[Cell.l ((itT its (digS s 4) m).1.map p3)]).set i (stL (itT its (digS s 4) m).2)) ⟨_,_,_,_,rfl,rfl⟩ (fun δ h'=>?_) ?_
  ·rw [CI.rng_len];exact id
  ·rintro m hm δ h' ⟨x2,x5,x6,x7,rfl,rfl⟩;have ll:=tW its (digS s 4) m;have hm':m < k:=by simpa [rng] using hm
   refine ⟨[some (.c i),some (.d (.tuple (its.map It.dat))),x2,some (.d (.list ((mus its).map nI))),some (.c h.length),some (.d (rng 0 k)[m]),x6,x7],_,rfl,?_⟩;rw [itT];generalize itT its (digS s 4) m=q at *;obtain ⟨L,t⟩:=q;dsimp only at *;have l1:L.length < 16777216:=by omega
   by_cases h1:1 < (mus its).length/\2 < its.length
   ·have ml:(mus its).length<=its.length:=by
     have:=List.length_filter_le (yR its) (List.range its.length)
     simpa [mus] using this
    obtain ⟨l,el⟩:∃ l,l=(mus its).length:=⟨_,rfl⟩;have h1a:(1:Int) < (mus its).length:=by omega
    have h1b:(2:Int) < its.length:=by omega
    obtain ⟨x,ex,hx⟩:=bG t (b:=(mus its).length) (by omega);obtain ⟨y,ey,hy⟩:=bG (digS t (mus its).length) (b:=(mus its).length - 1) (by omega);have d1:=eT d (h++[Cell.l (L.map p3)]) t (mus its).length (gi hi _) (by omega) (eS (by omega) (by omega));have d2:=eT d (h++[Cell.l (L.map p3)]) (digS t (mus its).length) ((mus its).length - 1) (gi hi _) (by omega) (eS (by omega) (by omega));have dn:aX ((mus its).length:Int)=true:=eS (by omega) (by omega);have h0n:0 < (mus its).length:=by omega
    have hmod:(x+1+y)%(mus its).length < (mus its).length:=Nat.mod_lt _ (by omega);have em:((x:Int)+1+y)%((mus its).length:Int)=(((x+1+y)%(mus its).length:Nat):Int):=by simp
    obtain ⟨y2,ey2⟩:∃ y2,y2=(x+1+y)%(mus its).length:=⟨_,rfl⟩;rw [<- ey2] at em hmod;have a1:=aZ1 (l:=mus its) (x:=x) (by omega);have a2:=aZ1 (l:=mus its) hmod;obtain ⟨A,eA⟩:∃ A,A=(mus its).getD x 0:=⟨_,rfl⟩;obtain ⟨B,eB⟩:∃ B,B=(mus its).getD y2 0:=⟨_,rfl⟩;rw [<- eA] at a1;rw [<- eB] at a2;have hrp:=aB7 (n:=its.length) (a:=A) (b:=B) h1.2;have rl:(rst its.length A B).length<=its.length:=by
     have:=List.length_filter_le (fun z=>decide (z≠A)&&decide (z≠B)) (List.range its.length)
     simpa [rst] using this
    obtain ⟨z,ez,hz⟩:=bG (digS (digS t (mus its).length) ((mus its).length - 1)) (b:=(rst its.length A B).length) (by omega);have d3:=eT d (h++[Cell.l (L.map p3)]) (digS (digS t (mus its).length) ((mus its).length - 1)) (rst its.length A B).length (gi hi _) (by omega) (eS (by omega) (by omega));have a3:=aZ1 (l:=rst its.length A B) (x:=z) (by omega);obtain ⟨Z,eZ⟩:∃ Z,Z=(rst its.length A B).getD z 0:=⟨_,rfl⟩;rw [<- eZ] at a3;refine ⟨[some (.c i),some (.d (.tuple (its.map It.dat))),some (.d (.int x)),some (.d (.list ((mus its).map nI))),some (.c h.length),some (.d (rng 0 k)[m]),some (.d (.int y2)),some (.d (.list ((rst its.length A B).map nI)))],(h++[Cell.l ((L++[(A,B,Z)]).map p3)]).set i (stL (digS (digS (digS t (mus its).length) ((mus its).length - 1)) (rst its.length A B).length)),?_,_,_,_,_,rfl,?_⟩
    ·simp [h1a,h1b,h1.1,h1.2,d1,d2,ex,ey,em,dn,h0n,szl,aQ,en];rw [mY (pR A B) id (fun δ=>∃ a,δ=[a,some (.d (.list ((mus its).map nI))),some (.d (.int x)),some (.d (.int y2))]) _ _ _ ⟨_,rfl⟩ (fun w hw δ ⟨a,e⟩=>by
      subst e;rw [lH] at hw;obtain ⟨q,hq,rfl⟩:=List.mem_map.mp hw;refine ⟨[some (.d (nI q)),_,_,_],rfl,⟨_,rfl⟩,?_,fun _=>by simp⟩
      by_cases hqA:(q:Int)=A<;>simp [nI,a1,a2,PyData.eqv,pR,hqA])]
     rw [List.nil_append,aZ0 (pR A B) (fun z=>decide (z≠A)&&decide (z≠B)) its.length (fun k _=>by
      have e1:((k:Int)=A)=(k=A):=propext (by omega);have e2:((k:Int)=B)=(k=B):=propext (by omega);simp [pR,nI,e1,e2])]
     rw [show (List.range its.length).filter (fun z=>decide (z≠A)&&decide (z≠B))=rst its.length A B from rfl];simp [a1,a2,d3,ez,a3,gl hi,gl2 hi,gm hi,gs hi,l1,szl,p3]
    ·rw [tst,if_pos h1];simp only [ex,ey,Int.toNat_natCast,<- ey2,<- eA,<- eB,ez,<- eZ]
   ·refine ⟨[some (.c i),some (.d (.tuple (its.map It.dat))),x2,some (.d (.list ((mus its).map nI))),some (.c h.length),some (.d (rng 0 k)[m]),x6,x7],(h++[Cell.l (L.map p3)]).set i (stL t),?_,_,_,_,_,rfl,?_⟩
    ·by_cases h2:1 < (mus its).length
     ·have h3:¬ 2 < its.length:=fun z=>h1 ⟨h2,z⟩;have h2':(1:Int) < (mus its).length:=by omega
      have h3':¬ (2:Int) < its.length:=by omega
      simp [h2',h3']
     ·have h2':¬ (1:Int) < (mus its).length:=by omega
      simp [h2']
    ·simp [tst,h1]
 obtain ⟨δ',h',rfl,x2,x5,x6,x7,rfl,rfl⟩:=kk;have o1:∀ L s',okP (h.set i (stL s)) ((h++L).set i (stL s'))=True:=fun L s'=>aW2 s' hi;have o2:∀ (L:aA) (s':S3),((h++L).set i (stL s')).take h.length=h.set i (stL s'):=fun L s'=>aW3 hi;simp [g_t hi,szl,o1,o2]
noncomputable def aK5 (st:List Int):Stp->PyData
 | .call c=>(aK1 (dnC st c).1).dat
 | .look c=>(aK1 (dnC st c).1).dat
 | .lay _=>.tuple [.str "done"]
noncomputable def aB8 {c:SJ.Call} (hc:c.ok) {st:List Int} (hl:st.length=8):∀ ns,(dnC st c).1=.all ns->ns≠[]/\ns.length<=8:=by
 intro ns e;cases c with
 | one o=>cases e
 | deal cs=>cases e
 | span lo hi =>
  have h1:=hc.1;have h2:=hc.2;have e':(st.drop lo).take (hi - lo)=ns:=by cases e;rfl
  have l:ns.length=hi - lo:=by rw [<- e'];simp;omega
  exact ⟨fun z=>by rw [z] at l;simp at l;omega,by omega⟩
noncomputable def dD1 (d:Nat) (h:aA) {p:Stp} (hp:Sok p) {st:List Int} (hl:st.length=8):aD T (d+2) "_law_altered" [.d (dnS st p).1] h=some (aK5 st p,h):=by
 cases p with
 | call c=>exact aY6 d h _ (aB8 hp hl)
 | look c=>exact aY6 d h _ (aB8 hp hl)
 | lay ps=>exact yQ (d+1) h .dn
noncomputable def tX:Stp->Bool
 | .call _=>true
 | _=>false
noncomputable def anF (st:List Int) (p:Stp) (s:S3):PyData×S3 :=
 if aM s 7=0 then (.none,digS s 7) else if aM s 7=1 then (aK5 st p,digS s 7)
 else if aM s 7=2/\tX p=true then (if aM (digS s 7) 4=0 then (aY7,digS (digS s 7) 4) else ((dnS st p).1,digS (digS s 7) 4))
 else ((dnS st p).1,digS s 7)
noncomputable def aB9 {p:Stp} (hp:Sok p) {st:List Int} (hl:st.length=8):iO p (dnS st p).1=true:=by
 cases p with
 | call c=>exact (kK hp (kG hp hl)).1
 | look c=>exact (kK hp (kG hp hl)).2
 | lay ps=>simp [iO,dnS,aG]
noncomputable def aZ2 {p:Stp} (hp:Sok p) {st:List Int} (hl:st.length=8):iO p (aK5 st p)=true/\tOk (aK5 st p):=by
 cases p with
 | call c=>exact ⟨(kK hp (wM hp (kG hp hl))).1,.inr (.inr ⟨_,rfl⟩)⟩
 | look c=>exact ⟨(kK hp (wM hp (kG hp hl))).2,.inr (.inr ⟨_,rfl⟩)⟩
 | lay ps=>exact ⟨by simp [iO,aK5,aG],.inr (.inr ⟨.one .dn,rfl⟩)⟩
noncomputable def cN1 {p:Stp} (hp:Sok p) {st:List Int} (hl:st.length=8) (s:S3):((anF st p s).1=.none\/iO p (anF st p s).1=true)/\tOk (anF st p s).1:=by
 unfold anF;split
 ·exact ⟨.inl rfl,.inl rfl⟩
 split
 ·exact ⟨.inr (aZ2 hp hl).1,(aZ2 hp hl).2⟩
 split
 ·rename_i hc;split
  ·refine ⟨.inr ?_,.inr (.inl rfl)⟩;cases p with
   | call c=>simp [iO,aY7,aG]
   | look c=>cases hc.2
   | lay ps=>cases hc.2
  ·exact ⟨.inr (aB9 hp hl),(dD0 st p).1⟩
 ·exact ⟨.inr (aB9 hp hl),(dD0 st p).1⟩
noncomputable def wdF (n:Int):String:=if n < 4 then "must" else if n < 6 then "may" else "out"
noncomputable def itF (st:List Int) (s:S3):It×List Int×S3 :=
 let p:=(sF s).1
 let a:=anF st p (sF s).2
 (⟨p,a.1,wdF (aM a.2 7)⟩,(dnS st p).2,digS a.2 7)
noncomputable def cN2 {st:List Int} (hl:st.length=8) (s:S3):(itF st s).1.ok/\(itF st s).2.1.length=8:=by
 have h:=cN1 (bN6 s) hl (sF s).2;refine ⟨⟨bN6 s,h.1,h.2,?_⟩,bN8 (bN6 s) hl⟩;show wdF _=_\/wdF _=_\/wdF _=_;unfold wdF;split
 ·exact .inl rfl
 split
 ·exact .inr (.inl rfl)
 ·exact .inr (.inr rfl)
noncomputable def dD2 (s:S3):atI [PyData.str (Str.ofString "must"),.str (Str.ofString "must"),.str (Str.ofString "must"),.str (Str.ofString "must"),.str (Str.ofString "may"),.str (Str.ofString "may"),.str (Str.ofString "out")] (aM s 7)=some (.str (Str.ofString (wdF (aM s 7)))):=by
 have h1:=gA s (b:=7) (by decide);have h2:=gB s (b:=7) (by decide);have:aM s 7=0\/aM s 7=1\/aM s 7=2\/aM s 7=3\/aM s 7=4\/aM s 7=5\/aM s 7=6:=by omega
 rcases this with e | e | e | e | e | e | e<;>rw [e]<;>first | (simp [wdF];done) | exact fQ (j:=6) rfl
end K13
set_option maxHeartbeats 4000000
namespace K13
open PySem PySem.Spec PyProof.Rows L2 DL CI SJ
variable (d:Nat) (h:aA)
section
variable {α:Type} (F:α->PyData)
noncomputable def cV (p:Nat×α):PyData×PyData:=(.int p.1,F p.2)
noncomputable def lJ (g:List (Nat×α)) (k:Nat) (v:α):List (Nat×α):=if (g.any fun p=>decide (p.1=k))=true then g.map (fun p=>if p.1=k then (p.1,v) else p) else g++[(k,v)]
noncomputable def fP (g:List (Nat×α)) (k:Nat):Option α:=(g.find? fun p=>decide (p.1=k)).map (·.2)
noncomputable def kN (i:Int):bF (.int i)=some (.inl i):=rfl
noncomputable def yU (p:Nat×α) (k:Nat):(bF (cV F p).1=bF (.int (k:Int)))=(p.1=k):=by simp [cV,kN];omega
noncomputable def cN3 (g:List (Nat×α)) (k:Nat) (v:α):sV (g.map (cV F)) (.int (k:Int)) (F v)=(lJ g k v).map (cV F):=by
 have e1:((g.map (cV F)).any fun p=>decide (bF p.1=bF (.int (k:Int))))=g.any fun p=>decide (p.1=k):=by
  rw [List.any_map]
  congr 1
  funext p
  simp only [Function.comp,yU]
 unfold sV lJ;rw [e1];split
 ·rw [List.map_map,List.map_map];refine List.map_congr_left fun p _=>?_;simp only [Function.comp,yU];split<;>rfl
 ·rw [List.map_append];rfl
noncomputable def bO2 (g:List (Nat×α)) (k:Nat):((g.map (cV F)).find? fun p=>decide (bF p.1=bF (.int (k:Int)))).map (·.2)=(fP g k).map F:=by
 unfold fP;induction g with
 | nil=>rfl
 | cons p r ih =>
  rw [List.map_cons,List.find?_cons,List.find?_cons];have e:=yU F p k
  by_cases h:p.1=k
  ·have h':bF (cV F p).1=bF (.int (k:Int)):=by rw [e];exact h
   simp only [h',h,decide_true];rfl
  ·have h':¬ bF (cV F p).1=bF (.int (k:Int)):=by rw [e];exact h
   simp only [h',h,decide_false];exact ih
noncomputable def bO3 (g:List (Nat×α)) (k:Nat) (v:α):(lJ g k v).length<=g.length+1:=by
 unfold lJ;split<;>simp
noncomputable def aC0 (g:List (Nat×α)) (k:Nat) (v:α) (j:Nat):fP (lJ g k v) j=if j=k then some v else fP g j:=by
 have hm:∀ g:List (Nat×α),fP (g.map fun p=>if p.1=k then (p.1,v) else p) j=if j=k then (fP g j).map fun _=>v else fP g j:=fun g=>by
  unfold fP;induction g with
  | nil=>simp
  | cons p r ih =>
   rw [List.map_cons,List.find?_cons,List.find?_cons]
   by_cases e1:p.1=k
   ·rw [if_pos e1]
    by_cases e2:p.1=j
    ·simp [e2,e1.symm.trans e2]
    ·have:¬ j=k:=fun z=>e2 (e1.trans z.symm);simp only [this,if_false] at ih ⊢;simp only [decide_eq_false e2];exact ih
   ·rw [if_neg e1]
    by_cases e2:p.1=j
    ·have:¬ j=k:=fun z=>e1 (e2.trans z);simp [e2,this]
    ·simp only [decide_eq_false e2];exact ih
 have ha:∀ g:List (Nat×α),(g.any fun p=>decide (p.1=k))=(fP g k).isSome:=fun g=>by
  unfold fP;induction g with
  | nil=>rfl
  | cons p r ih =>
   rw [List.any_cons,List.find?_cons,ih]
   by_cases e:p.1=k<;>simp [e]
 unfold lJ;rw [ha];split
 ·rename_i z;rw [hm];split
  ·rename_i e;rw [e];obtain ⟨w,ew⟩:=Option.isSome_iff_exists.mp z;rw [ew];rfl
  ·rfl
 ·rename_i z;have z:fP g k=none:=by simpa using z
  unfold fP at z ⊢;rw [List.find?_append];split
  ·rename_i e;rw [e];have z:g.find? (fun p=>decide (p.1=k))=none:=by simpa using z
   rw [z];simp
  ·rename_i e;have:¬ k=j:=fun q=>e q.symm;cases q:g.find? (fun p=>decide (p.1=j))<;>simp [this]
end
end K13
set_option maxHeartbeats 400000
namespace K13
open PySem PySem.Spec PyProof.Rows L2 DL CI SJ
structure Rn where
 ops:List Nat
 kv:List (Nat×It)
 st:List Int
 s:S3
noncomputable def rnd (q:Rn):Rn :=
 ⟨q.ops.eraseIdx (aM (itF q.st q.s).2.2 q.ops.length).toNat,lJ q.kv (q.ops.getD (aM (itF q.st q.s).2.2 q.ops.length).toNat 0) (itF q.st q.s).1,(itF q.st q.s).2.1,digS (itF q.st q.s).2.2 q.ops.length⟩
noncomputable def itI (n:Nat) (st:List Int) (s:S3):Nat->Rn
 | 0=>⟨List.range n,[],st,s⟩
 | k+1=>rnd (itI n st s k)
structure Rn.ok (n k:Nat) (q:Rn):Prop where
 ol:q.ops.length+k=n
 ob:∀ x∈q.ops,x < n
 kl:q.kv.length<=k
 st:q.st.length=8
 al:∀ x,x < n->x∈q.ops\/∃ y,fP q.kv x=some y
 kv:∀ x y,fP q.kv x=some y->y.ok
noncomputable def cN4 {n k:Nat} {q:Rn} (hq:q.ok n k) (hk:k < n):(rnd q).ok n (k+1):=by
 have hl:=hq.ol;obtain ⟨j,ej,hj⟩:=bG (itF q.st q.s).2.2 (b:=q.ops.length) (by omega);have hj':j < q.ops.length:=by omega
 have hi:=cN2 hq.st q.s;have er:rnd q=⟨q.ops.eraseIdx j,lJ q.kv (q.ops.getD j 0) (itF q.st q.s).1,(itF q.st q.s).2.1,digS (itF q.st q.s).2.2 q.ops.length⟩:=by
  unfold rnd;rw [ej,Int.toNat_natCast]
 rw [er];refine ⟨?_,fun x hx=>hq.ob x (List.mem_of_mem_eraseIdx hx),?_,hi.2,fun x hx=>?_,fun x y e=>?_⟩
 ·show (q.ops.eraseIdx j).length+(k+1)=n;rw [List.length_eraseIdx_of_lt hj'];omega
 ·have:=bO3 q.kv (q.ops.getD j 0) (itF q.st q.s).1;have:=hq.kl;show (lJ _ _ _).length<=k+1;omega
 ·show x∈q.ops.eraseIdx j\/∃ y,fP (lJ q.kv (q.ops.getD j 0) (itF q.st q.s).1) x=some y;rw [aC0]
  by_cases h1:x=q.ops.getD j 0
  ·right;rw [if_pos h1];exact ⟨_,rfl⟩
  ·rw [if_neg h1];rcases hq.al x hx with h2 | h2
   ·left;obtain ⟨m,hm,e⟩:=List.mem_iff_getElem.mp h2;refine List.mem_eraseIdx_iff_getElem.mpr ⟨m,hm,fun z=>h1 ?_,e⟩;subst z;rw [List.getD_eq_getElem?_getD,List.getElem?_eq_getElem hm,<- e];rfl
   ·exact .inr h2
 ·have e':fP (lJ q.kv (q.ops.getD j 0) (itF q.st q.s).1) x=some y:=e;rw [aC0] at e';split at e'
  ·cases e';exact hi.1
  ·exact hq.kv x y e'
theorem pG {n:Nat} {st:List Int} (hl:st.length=8) (s:S3):∀ k,k<=n->(itI n st s k).ok n k
 | 0,_=>⟨by simp [itI],fun x hx=>by simpa [itI] using hx,Nat.le_refl 0,hl,fun x hx=>.inl (by simpa [itI] using hx),fun x y e=>by simp [itI,fP] at e⟩
 | k+1,hk=>cN4 (pG hl s k (by omega)) (by omega)
theorem aZ3 (f:Nat->PyData):∀ (l:List Nat) (j:Nat),(l.map f).eraseIdx j=(l.eraseIdx j).map f
 | [],j=>by simp
 | a::r,0=>by simp
 | a::r,j+1=>by simp [aZ3 f r j]
noncomputable def Gc (h:aA) (i:Nat) (xs:List PyData) (kvs:List (PyData×PyData)) (s:S3):aA:=(h++[Cell.l xs,Cell.k kvs]).set i (stL s)
section
variable {h:aA} {i:Nat} (hi:i < h.length)
include hi
noncomputable def G_l (xs:List PyData) (kvs:List (PyData×PyData)) (s:S3):(Gc h i xs kvs s)[h.length]?=some (.l xs):=by
 unfold Gc;rw [List.getElem?_set_ne (by omega)];simp
noncomputable def G_k (xs:List PyData) (kvs:List (PyData×PyData)) (s:S3):(Gc h i xs kvs s)[h.length+1]?=some (.k kvs):=by
 unfold Gc;rw [List.getElem?_set_ne (by omega)];simp
noncomputable def dT4 (xs ys:List PyData) (kvs:List (PyData×PyData)) (s:S3):(Gc h i xs kvs s).set h.length (.l ys)=Gc h i ys kvs s:=by
 unfold Gc;rw [List.set_comm _ _ (by omega)];simp
noncomputable def dT5 (xs:List PyData) (kvs kvs':List (PyData×PyData)) (s:S3):(Gc h i xs kvs s).set (h.length+1) (.k kvs')=Gc h i xs kvs' s:=by
 unfold Gc;rw [List.set_comm _ _ (by omega)]
 congr 1
 rw [List.set_append_right _ _ (by omega)];simp
noncomputable def dD3 (xs:List PyData) (kvs:List (PyData×PyData)) (s:S3):cA [.c h.length] (Gc h i xs kvs s)=some (.d (.int xs.length),Gc h i xs kvs s):=by
 unfold cA ref;dsimp only;rw [G_l hi]
noncomputable def nC (d:Nat) (xs:List PyData) (kvs:List (PyData×PyData)) (s:S3) (b:Int) (hb:0 < b) (hb2:aX b=true):aD T (d+1) "_law_digit" [.c i,.d (.int b)] (Gc h i xs kvs s)=some (.int (aM s b),Gc h i xs kvs (digS s b)):=eT d _ s b (by simp;omega) hb hb2
noncomputable def cN5 (d:Nat) (xs:List PyData) (kvs:List (PyData×PyData)) (s:S3):aD T (d+4) "_law_step" [.c i] (Gc h i xs kvs s)=some ((sF s).1.dat,Gc h i xs kvs (sF s).2):=cM8 d _ s (by simp;omega)
noncomputable def dD4 {ops:List Nat} {j:Nat} (hj:j < ops.length) (hl:ops.length<=120) (kvs:List (PyData×PyData)) (s:S3):aT3 h.length [.d (.int j)] (Gc h i (ops.map nI) kvs s)=some (.d (.int (ops.getD j 0)),Gc h i ((ops.eraseIdx j).map nI) kvs s):=by
 unfold aT3;rw [G_l hi];have e:ixN (ops.map nI).length (j:Int)=some j:=by
  unfold ixN;rw [if_pos (by omega),List.length_map,if_pos (by omega)];simp
 have e2:(ops.map nI)[j]?=some (.int (ops.getD j 0)):=by
  rw [List.getElem?_map,List.getElem?_eq_getElem hj,List.getD_eq_getElem?_getD,List.getElem?_eq_getElem hj];rfl
 simp only [e,e2,bs];rw [if_pos ⟨by omega,by omega⟩,aZ3,dT4 hi]
end
end K13
set_option maxHeartbeats 1000000
namespace K13
open PySem PySem.Spec PyProof.Rows L2 DL CI SJ
noncomputable def dD5 {α:Type} {x:Option α} {f:α->Option (Fl×aA)} {P:DSt->aA->Prop} (a:α) (e:x=some a) (k:∃ δ2 h2,f a=some (.nx δ2,h2)/\P δ2 h2):∃ δ2 h2,x.bind f=some (.nx δ2,h2)/\P δ2 h2:=by
 rw [e];exact k
noncomputable def dfI:It:=⟨.lay [],.none,""⟩
noncomputable def itsF (n:Nat) (st:List Int) (s:S3):List It:=(List.range n).map fun k=>(fP (itI n st s n).kv k).getD dfI
noncomputable def bO4 {n:Nat} {st:List Int} (hl:st.length=8) (s:S3):∀ x∈itsF n st s,x.ok:=by
 intro x hx;obtain ⟨k,hk,rfl⟩:=List.mem_map.mp hx;have hk:=List.mem_range.mp hk;have hq:=pG hl s n (Nat.le_refl n);have ho:(itI n st s n).ops=[]:=List.eq_nil_of_length_eq_zero (by have:=hq.ol;omega);rcases hq.al k hk with z | ⟨y,e⟩
 ·rw [ho] at z;cases z
 ·rw [e];exact hq.kv k y e
noncomputable def aZ4 {n:Nat} {st:List Int} (hl:st.length=8) (s:S3) {k:Nat} (hk:k < n):∃ y,fP (itI n st s n).kv k=some y/\(fP (itI n st s n).kv k).getD dfI=y:=by
 have hq:=pG hl s n (Nat.le_refl n);have ho:(itI n st s n).ops=[]:=List.eq_nil_of_length_eq_zero (by have:=hq.ol;omega);rcases hq.al k hk with z | ⟨y,e⟩
 ·rw [ho] at z;cases z
 ·exact ⟨y,e,by rw [e];rfl⟩
noncomputable def an2 (st:List Int) (p:Stp) (w:Int):PyData:=if w=1 then aK5 st p else if w=0 then .none else (dnS st p).1
noncomputable def dD6 (st:List Int) (p:Stp) (s:S3):anF st p s=if aM s 7=2/\tX p=true then (if aM (digS s 7) 4=0 then (aY7,digS (digS s 7) 4) else (an2 st p (aM s 7),digS (digS s 7) 4)) else (an2 st p (aM s 7),digS s 7):=by
 unfold anF an2
 by_cases h0:aM s 7=0
 ·simp [h0]
 by_cases h1:aM s 7=1
 ·simp [h1]
 by_cases h2:aM s 7=2
 ·simp [h2]
 ·simp [h0,h1,h2]
noncomputable def dT6 {p:Stp}:∃ (w:String) (xs:List PyData),p.dat=.tuple (.str (Str.ofString w)::xs)/\(tX p=true ↔ ¬ w="look"/\¬ w="lay")/\w.length < 10:=by
 cases p with
 | call c =>
  cases c with
  | one o=>cases o<;>exact ⟨_,_,rfl,by simp [tX],by decide⟩
  | span lo hi=>exact ⟨_,_,rfl,by simp [tX],by decide⟩
  | deal cs=>exact ⟨_,_,rfl,by simp [tX],by decide⟩
 | look c=>exact ⟨"look",_,rfl,by simp [tX],by decide⟩
 | lay ps=>exact ⟨"lay",_,rfl,by simp [tX],by decide⟩
def IQ (h:aA) (i n:Nat) (st:List Int) (q:Rn) (δ:DSt) (H:aA):Prop:=∃ x6 x7 x8 x9 x10:Option W,δ=[some (.c i),some (.d (.tuple (st.map .int))),some (.d (.int n)),some (.d (.tuple (q.st.map .int))),some (.c h.length),some (.c (h.length+1)),x6,x7,x8,x9,x10]/\H=Gc h i (q.ops.map nI) (q.kv.map (cV It.dat)) q.s
noncomputable def sqE {β:Type} {x:Option (Fl×aA)} {f:Fl×aA->Option β} {R:Option β} (J:DSt->aA->Prop) (e:∃ δ' h',x=some (.nx δ',h')/\J δ' h') (k:∀ δ' h',J δ' h'->f (.nx δ',h')=R):x.bind f=R:=by
 obtain ⟨δ',h',e,j⟩:=e;rw [e];exact k δ' h' j
noncomputable def dT7 {h:aA} {i:Nat} (hi:i < h.length) (xs:List PyData) (kvs:List (PyData×PyData)) (s s':S3):okP (h.set i (stL s)) (Gc h i xs kvs s')/\(Gc h i xs kvs s').take h.length=h.set i (stL s'):=by
 unfold Gc;exact ⟨by rw [aW2 s' hi];trivial,aW3 hi⟩
noncomputable def fkV (kv:List (Nat×It)):PyData->PyData
 | .int k=>((fP kv k.toNat).getD dfI).dat
 | _=>.none
noncomputable def dT8 {h:aA} {i:Nat} (hi:i < h.length) (xs:List PyData) {kv:List (Nat×It)} {s:S3} {k:Nat} {y:It} (e:fP kv k=some y):xIx (.c (h.length+1)) (.d (.int k)) (Gc h i xs (kv.map (cV It.dat)) s)=some (.d y.dat,Gc h i xs (kv.map (cV It.dat)) s):=by
 have f:=bO2 It.dat kv k;rw [e,kN] at f;unfold xIx ref;dsimp only;rw [G_k hi];dsimp only [kN];cases q:(kv.map (cV It.dat)).find? (fun p=>decide (bF p.1=some (Sum.inl (k:Int)))) with
 | none=>rw [q] at f;cases f
 | some z =>
  rw [q] at f;have:z.2=y.dat:=Option.some.inj f;rw [Option.map_some,this]
noncomputable def bO5 (d:Nat) (h:aA) {i n:Nat} (s:S3) (hi:i < h.length) (hn:n<=120) {st:List Int} (hl:st.length=8):aD T (d+6) "_law_items" [.c i,.d (.tuple (st.map .int)),.d (.int n)] (h.set i (stL s))=some (.tuple ((itsF n st s).map It.dat),h.set i (stL (itI n st s n).s)):=by
 have e7:aX 7=true:=by decide
 have e4:aX 4=true:=by decide
 have er:iW 0 (n:Int)=true:=dL (by omega) (by omega);have sa:∀ (s:S3) (L:aA),h.set i (stL s)++L=(h++L).set i (stL s):=fun s L=>fH hi;rw [show d+6=(d+5)+1 from rfl,tP];simp only [aI7,bM5];refine sq (.rt (.d (.tuple ((itsF n st s).map It.dat))),Gc h i [] ((itI n st s n).kv.map (cV It.dat)) (itI n st s n).s) ?_ ?_
 ·refine sq (.nx [some (.c i),some (.d (.tuple (st.map .int))),some (.d (.int n)),some (.d (.tuple (st.map .int))),none,none,none,none,none,none,none],h.set i (stL s)) (by simp) ?_;dsimp only;refine sq (.nx [some (.c i),some (.d (.tuple (st.map .int))),some (.d (.int n)),some (.d (.tuple (st.map .int))),some (.c h.length),none,none,none,none,none,none],(h++[Cell.l ((List.range n).map nI)]).set i (stL s)) ?_ ?_
  ·have b1:(-4611686018427387904:Int)<=n:=by omega
   have b2:(n:Int) < 4611686018427387904:=by omega
   have b3:(n:Int)<=16000000:=by omega
   simp [cX,sa,b1,b2,b3,lH]
  dsimp only;refine sq (.nx [some (.c i),some (.d (.tuple (st.map .int))),some (.d (.int n)),some (.d (.tuple (st.map .int))),some (.c h.length),some (.c (h.length+1)),none,none,none,none,none],Gc h i ((List.range n).map nI) [] s) ?_ ?_
  ·have:∀ c,i < (h++[c]).length:=fun c=>by simp;omega
   simp [aT7,Gc];rw [fH (this _),List.append_assoc];rfl
  dsimp only;refine sqE (IQ h i n st (itI n st s n)) ?_ ?_
  ·refine dD5 ((rng 0 n,none),Gc h i ((List.range n).map nI) [] s) (by simp [er]) ?_;dsimp only;refine eJ (fun m=>IQ h i n st (itI n st s m)) ⟨_,_,_,_,_,rfl,rfl⟩ (fun δ h'=>by rw [CI.rng_len];exact id) fun m hm δ H r=>?_;obtain ⟨x6,x7,x8,x9,x10,rfl,rfl⟩:=r;have hm':m < n:=by simpa [rng] using hm
   have hq:=pG (n:=n) hl s m (Nat.le_of_lt hm');rw [itI];generalize (rng 0 n)[m]=v6;generalize itI n st s m=q at hq ⊢;obtain ⟨ops,kv,st',s'⟩:=q;have hst:st'.length=8:=hq.st;have hol:ops.length+m=n:=hq.ol;have hkl:kv.length<=m:=hq.kl;clear hq;obtain ⟨os,eos⟩:∃ os,os=ops.map nI:=⟨_,rfl⟩;obtain ⟨ks,eks⟩:∃ ks,ks=kv.map (cV It.dat):=⟨_,rfl⟩;refine ⟨[some (.c i),some (.d (.tuple (st.map .int))),some (.d (.int n)),some (.d (.tuple (st'.map .int))),some (.c h.length),some (.c (h.length+1)),some (.d v6),x7,x8,x9,x10],Gc h i os ks s',by rw [eos,eks];rfl,?_⟩;have g1:=cN5 hi (d+1) os ks s';obtain ⟨p,s1,ep⟩:∃ p s1,sF s'=(p,s1):=⟨_,_,rfl⟩;have hp:Sok p:=by have:=bN6 s';rw [ep] at this;exact this
   rw [ep] at g1;dsimp only at g1;refine fL [some (.c i),some (.d (.tuple (st.map .int))),some (.d (.int n)),some (.d (.tuple (st'.map .int))),some (.c h.length),some (.c (h.length+1)),some (.d v6),some (.d p.dat),x8,x9,x10] (Gc h i os ks s1) (by simp [g1]) ?_;dsimp only;have g2:=cM9 d (Gc h i os ks s1) hp hst;refine fL [some (.c i),some (.d (.tuple (st.map .int))),some (.d (.int n)),some (.d (.tuple ((dnS st' p).2.map .int))),some (.c h.length),some (.c (h.length+1)),some (.d v6),some (.d p.dat),some (.d (dnS st' p).1),x9,x10] (Gc h i os ks s1) (by simp [g2]) ?_;dsimp only;have g3:=nC hi (d+4) os ks s1 7 (by decide) e7;obtain ⟨w,ew⟩:∃ w,w=aM s1 7:=⟨_,rfl⟩;rw [<- ew] at g3;refine fL [some (.c i),some (.d (.tuple (st.map .int))),some (.d (.int n)),some (.d (.tuple ((dnS st' p).2.map .int))),some (.c h.length),some (.c (h.length+1)),some (.d v6),some (.d p.dat),some (.d (dnS st' p).1),some (.d (.int w)),x10] (Gc h i os ks (digS s1 7)) (by simp [g3]) ?_;dsimp only;refine fL [some (.c i),some (.d (.tuple (st.map .int))),some (.d (.int n)),some (.d (.tuple ((dnS st' p).2.map .int))),some (.c h.length),some (.c (h.length+1)),some (.d v6),some (.d p.dat),some (.d (if w=0 then .none else (dnS st' p).1)),some (.d (.int w)),x10] (Gc h i os ks (digS s1 7)) (by by_cases z:w=0<;>simp [z]) ?_;dsimp only;refine fL [some (.c i),some (.d (.tuple (st.map .int))),some (.d (.int n)),some (.d (.tuple ((dnS st' p).2.map .int))),some (.c h.length),some (.c (h.length+1)),some (.d v6),some (.d p.dat),some (.d (an2 st' p w)),some (.d (.int w)),x10] (Gc h i os ks (digS s1 7)) (by
    by_cases z:w=1
    ·have g4:=dD1 (d+3) (Gc h i os ks (digS s1 7)) hp hst;simp [z,an2,g4]
    ·simp [z,an2]) ?_
   dsimp only;obtain ⟨A,s2,eA⟩:∃ A s2,anF st' p s1=(A,s2):=⟨_,_,rfl⟩;refine fL [some (.c i),some (.d (.tuple (st.map .int))),some (.d (.int n)),some (.d (.tuple ((dnS st' p).2.map .int))),some (.c h.length),some (.c (h.length+1)),some (.d v6),some (.d p.dat),some (.d A),some (.d (.int w)),x10] (Gc h i os ks s2) (by
    rw [dD6,<- ew] at eA;obtain ⟨wd,xs,ed,hw,_⟩:=dT6 (p:=p)
    by_cases h2:w=2
    ·by_cases hc:tX p=true
     ·obtain ⟨n1,n2⟩:=hw.mp hc;have g5:=nC hi (d+4) os ks (digS s1 7) 4 (by decide) e4;rw [if_pos ⟨h2,hc⟩] at eA
      by_cases h4:aM (digS s1 7) 4=0
      ·rw [if_pos h4] at eA;cases eA;simp [h2,ed,PyData.eqv,n1,n2,g5,h4,aY7,szl]
      ·rw [if_neg h4] at eA;cases eA;simp [h2,ed,PyData.eqv,n1,n2,g5,h4]
     ·rw [if_neg (fun z=>hc z.2)] at eA;cases eA
      by_cases n1:wd="look"
      ·simp [h2,ed,PyData.eqv,n1]
      ·have n2:wd="lay":=Classical.byContradiction fun n2=>hc (hw.mpr ⟨n1,n2⟩);simp [h2,ed,PyData.eqv,n2]
    ·rw [if_neg (fun z=>h2 z.1)] at eA;cases eA;simp [h2]) ?_
   dsimp only;have g6:=nC hi (d+4) os ks s2 7 (by decide) e7;have g7:=dD2 s2;refine fL [some (.c i),some (.d (.tuple (st.map .int))),some (.d (.int n)),some (.d (.tuple ((dnS st' p).2.map .int))),some (.c h.length),some (.c (h.length+1)),some (.d v6),some (.d p.dat),some (.d A),some (.d (.int w)),some (.d (.str (Str.ofString (wdF (aM s2 7)))))] (Gc h i os ks (digS s2 7)) (by simp [g6,g7,szl,aQ]) ?_;dsimp only;have lo:(0:Int) < ops.length:=by omega
   obtain ⟨j,ej,hj⟩:=bG (digS s2 7) (b:=ops.length) lo;have hj':j < ops.length:=by omega
   have g8:=nC hi (d+4) os ks (digS s2 7) ops.length lo (eS lo (by omega));have g9:=dD3 hi os ks (digS s2 7);have g10:=dD4 hi hj' (by omega) ks (digS (digS s2 7) ops.length);have g11:=G_l hi os ks (digS s2 7);have ol:os.length=ops.length:=by rw [eos];simp
   rw [<- eos] at g10;rw [ej] at g8;rw [ol] at g9;have hk2:ks.length < 16777216:=by rw [eks];simp;omega
   have g12:=G_k hi ((ops.eraseIdx j).map nI) ks (digS (digS s2 7) ops.length);have g13:=cN3 It.dat kv (ops.getD j 0) ⟨p,A,wdF (aM s2 7)⟩;have ei:itF st' s'=(⟨p,A,wdF (aM s2 7)⟩,(dnS st' p).2,digS s2 7):=by simp [itF,ep,eA]
   have er':rnd ⟨ops,kv,st',s'⟩=⟨ops.eraseIdx j,lJ kv (ops.getD j 0) ⟨p,A,wdF (aM s2 7)⟩,(dnS st' p).2,digS (digS s2 7) ops.length⟩:=by
    unfold rnd;simp only [ei,ej,Int.toNat_natCast]
   rw [er'];refine ⟨[some (.c i),some (.d (.tuple (st.map .int))),some (.d (.int n)),some (.d (.tuple ((dnS st' p).2.map .int))),some (.c h.length),some (.c (h.length+1)),some (.d v6),some (.d p.dat),some (.d A),some (.d (.int w)),some (.d (.str (Str.ofString (wdF (aM s2 7)))))],Gc h i ((ops.eraseIdx j).map nI) ((lJ kv (ops.getD j 0) ⟨p,A,wdF (aM s2 7)⟩).map (cV It.dat)) (digS (digS s2 7) ops.length),?_,_,_,_,_,_,rfl,rfl⟩;rw [<- g13,<- eks];simp [g8,g9,g10,g11,g12,szl,hk2,kN,It.dat,dT5 hi]
  ·rintro δ' H ⟨x6,x7,x8,x9,x10,rfl,rfl⟩;have hq:=pG hl s n (Nat.le_refl n);have ho:(itI n st s n).ops=[]:=List.eq_nil_of_length_eq_zero (by have:=hq.ol;omega);rw [ho];simp [er,aQ,szl];rw [cL0 (fkV (itI n st s n).kv) (fun δ=>∃ a,δ=[a,some (.c (h.length+1))]) _ _ ⟨_,rfl⟩ (fun z hz δ ⟨a,e⟩=>by
    subst e;rw [lH] at hz;obtain ⟨k,hk,rfl⟩:=List.mem_map.mp hz;obtain ⟨y,ey,ey2⟩:=aZ4 hl s (List.mem_range.mp hk);have g:=dT8 hi [] (s:=(itI n st s n).s) ey;refine ⟨[some (.d (nI k)),_],rfl,⟨_,rfl⟩,?_⟩;simp [nI,fkV,g,ey])]
   rw [lH];simp [itsF,Function.comp_def,nI,fkV]
 ·have:=dT7 hi [] ((itI n st s n).kv.map (cV It.dat)) s (itI n st s n).s;simp [this.1,this.2]
end K13
set_option maxHeartbeats 400000
namespace K13
open PySem PySem.Spec PyProof.Rows L2 DL CI SJ
noncomputable def vs:Nat->S3->List Int×S3
 | 0,s=>([],s)
 | k+1,s=>((vF s).1::(vs k (vF s).2).1,(vs k (vF s).2).2)
theorem aZ5:∀ (k:Nat) (s:S3),(vs k s).1.length=k
 | 0,s=>rfl
 | k+1,s=>by simp [vs,aZ5 k]
theorem aC1 {g:XG} {te:XR W} {all:List PyData} {h:aA} {i:Nat} (k:Nat) (hg:∀ w δ h,g w δ h=some (δ.set k (some w),h)) :
  ∀ (rest:List PyData) (δ:DSt) (ac:List PyData) (c:Cell) (s:S3),Stf c s->(rest=[]->c=stL s)->(∀ x∈rest,∀ u c s,Stf c s->te ((δ.set k u).set k (some (.d x))) (h.set i c)=some (.d (.int (vF s).1),h.set i (stL (vF s).2))) ->
   aV g (aE true) te none all rest δ (h.set i c) ac=some (ac++(vs rest.length s).1.map .int,h.set i (stL (vs rest.length s).2))
 | [],δ,ac,c,s,_,hn,_=>by rw [hn rfl];simp [aV,vs]
 | x::r,δ,ac,c,s,hc,_,hf=>by
  have e:=hf x List.mem_cons_self none c s hc;rw [List.set_set] at e;rw [aV,dI,if_pos rfl,hg];simp only [Option.bind_some,kA,if_true,e];rw [aC1 k hg r _ _ _ _ (stf _) (fun _=>rfl) fun y hy u c s hc=>by
   have:=hf y (List.mem_cons_of_mem _ hy) u c s hc;rw [List.set_set] at this ⊢;rw [List.set_set];exact this]
  simp [vs]
noncomputable def stF (s:S3):List Int×S3:=if aM s 3=0 then vs 8 (digS s 3) else ([0,0,0,0,0,0,0,0],digS s 3)
noncomputable def tY (s:S3):(stF s).1.length=8:=by
 unfold stF;split
 ·exact aZ5 8 _
 ·rfl
noncomputable def pN (c:Int) (m:Nat):Nat:=(aM (st0 c) (m+1)).toNat
noncomputable def pS (c:Int) (m:Nat):List Int×S3:=stF (digS (st0 c) (m+1))
noncomputable def pI (c:Int) (m:Nat):List It:=itsF (pN c m) (pS c m).1 (pS c m).2
noncomputable def pT (c:Int) (m:Nat):S3:=(itI (pN c m) (pS c m).1 (pS c m).2 (pN c m)).s
noncomputable def pP (c:Int) (m:Nat):List (Nat×Nat)×S3:=itP (pN c m) (digS (pT c m) 5) (aM (pT c m) 5).toNat
noncomputable def pbF (c:Int) (m:Nat):Pb:=⟨(pS c m).1,pI c m,(pP c m).1,(itT (pI c m) (digS (pP c m).2 4) (aM (pP c m).2 4).toNat).1⟩
noncomputable def aZ6 (c:Int) (m:Nat):pN c m<=m:=by
 have h1:=gA (st0 c) (b:=(m:Int)+1) (by omega);have h2:=gB (st0 c) (b:=(m:Int)+1) (by omega);unfold pN;omega
noncomputable def yV (c:Int) (m:Nat):(pI c m).length=pN c m:=by simp [pI,itsF]
noncomputable def cN6 (c:Int) {m:Nat} (hm:m<=120):(pbF c m).ok:=by
 have hl:=aZ6 c m;have e:=yV c m;refine ⟨tY _,?_,bO4 (tY _) _,?_,?_,?_,yT _ _ _⟩
 ·show (pI c m).length<=120;omega
 ·have:=tV (pN c m) (digS (pT c m) 5) (aM (pT c m) 5).toNat;have:=gB (pT c m) (b:=5) (by decide);show (itP (pN c m) (digS (pT c m) 5) (aM (pT c m) 5).toNat).1.length<=100;omega
 ·intro p hp;show p.1 < (pI c m).length/\p.2 < (pI c m).length/\p.1≠p.2;rw [e];exact yS _ _ _ p hp
 ·have:=tW (pI c m) (digS (pP c m).2 4) (aM (pP c m).2 4).toNat;have:=gB (pP c m).2 (b:=4) (by decide);show (itT (pI c m) (digS (pP c m).2 4) (aM (pP c m).2 4).toNat).1.length<=100;omega
noncomputable def bO6 (h:aA) (c c':Cell):h++[c]=(h++[c']).set h.length c:=by simp
noncomputable def aK6 (d:Nat) (h:aA) (c:Int) {m:Nat} (hm:m<=120):aD T (d+7) "_law_problem" [.d (.int c),.d (.int m)] h=some ((pbF c m).dat,h):=by
 have e3:aX 3=true:=by decide
 have er:iW 0 8=true:=dL (by omega) (by omega);have hi:h.length < (h++[Cell.l []]).length:=by simp
 have as:∀ c,h++[c]=(h++[Cell.l []]).set h.length c:=fun c=>bO6 h c _;obtain ⟨H,eH⟩:∃ H,H=h++[Cell.l []]:=⟨_,rfl⟩;rw [<- eH] at hi as;have hm1:(0:Int) < m+1:=by omega
 have g1:=wH (d+5) H c (m+1) hi hm1 (eS hm1 (by omega));obtain ⟨n,en⟩:∃ n,n=pN c m:=⟨_,rfl⟩;have hn:aM (st0 c) (m+1)=n:=by
  have h1:=gA (st0 c) (b:=(m:Int)+1) (by omega);rw [en];unfold pN;omega
 have hn2:n<=120:=by have:=aZ6 c m;omega
 rw [hn] at g1;rw [show d+7=(d+6)+1 from rfl,oU];simp only [aI7,bM5];refine sq (.rt (.d (pbF c m).dat),H.set h.length (stL (itT (pI c m) (digS (pP c m).2 4) (aM (pP c m).2 4).toNat).2)) ?_ ?_
 ·refine sq (.nx [some (.d (.int c)),some (.d (.int m)),some (.c h.length),none,none,none],H.set h.length (.l [.int c])) (by simp [cX,szl,<- as]) ?_;dsimp only;refine sq (.nx [some (.d (.int c)),some (.d (.int m)),some (.c h.length),some (.d (.int n)),none,none],H.set h.length (stL (digS (st0 c) (m+1)))) (by simp [g1]) ?_;dsimp only;refine sq (.nx [some (.d (.int c)),some (.d (.int m)),some (.c h.length),some (.d (.int n)),some (.d (.tuple ([0,0,0,0,0,0,0,0].map .int))),none],H.set h.length (stL (digS (st0 c) (m+1)))) (by simp) ?_;dsimp only;refine sq (.nx [some (.d (.int c)),some (.d (.int m)),some (.c h.length),some (.d (.int n)),some (.d (.tuple ((pS c m).1.map .int))),none],H.set h.length (stL (pS c m).2)) ?_ ?_
  ·have g2:=eT (d+5) H (digS (st0 c) (m+1)) 3 hi (by decide) e3;unfold pS stF
   by_cases z:aM (digS (st0 c) (m+1)) 3=0
   ·rw [if_pos z];rw [z] at g2;simp [g2,er,aQ,szl];rw [aC1 0 (fun _ _ _=>rfl) _ _ _ _ _ (stf _) (fun _=>rfl) (fun x hx u c s hc=>by
     have:=wJ (d+4) H hc hi;simp [this])]
    simp [rng]
   ·rw [if_neg z];simp [g2,z]
  dsimp only;have g3:=bO5 d H (pS c m).2 hi hn2 (tY (digS (st0 c) (m+1)));have g4:=bO1 (d+4) H (n:=n) (pT c m) hi hn2;have g5:=aK4 (d+4) H (pP c m).2 hi (its:=pI c m) (by rw [yV];omega);refine sq (.nx [some (.d (.int c)),some (.d (.int m)),some (.c h.length),some (.d (.int n)),some (.d (.tuple ((pS c m).1.map .int))),some (.d (.tuple ((pI c m).map It.dat)))],H.set h.length (stL (pT c m))) ?_ ?_
  ·have g3':aD T (d+6) "_law_items" [.c h.length,.d (.tuple ((pS c m).1.map .int)),.d (.int n)] (H.set h.length (stL (pS c m).2))=some (.tuple ((pI c m).map It.dat),H.set h.length (stL (pT c m))):=by
    rw [en];rw [en] at g3;exact g3
   simp [g3']
  dsimp only;have g4':aD T (d+6) "_law_pairs" [.c h.length,.d (.int n)] (H.set h.length (stL (pT c m)))=some (.tuple ((pP c m).1.map p2),H.set h.length (stL (pP c m).2)):=by
   rw [en];rw [en] at g4;exact g4
  simp [g4',g5,szl,pbF,Pb.dat]
 ·have ek:∀ c,H.set h.length c=h++[c]:=fun c=>(as c).symm;rw [ek];simp
variable (d:Nat) (h:aA)
noncomputable def gdI:It:=⟨.call (.one (.read 0)),.none,"must"⟩
noncomputable def aC2:gdI.ok:=⟨show (0:Nat) < 8 by decide,.inl rfl,.inl rfl,.inl rfl⟩
noncomputable def z8:List Int:=[0,0,0,0,0,0,0,0]
noncomputable def aZ7 {n x:Nat} (hx:x < n):must (List.replicate n gdI) x:=⟨gdI,by simp [hx],rfl⟩
noncomputable def dD7 {n m k:Nat} (hn:3<=n) (hn2:n<=120) (hm:m<=4000) (hk:k<=4000):aD T (d+12) "is_problem" [.d (.tuple [.tuple (z8.map .int),.tuple (List.replicate n gdI.dat),.tuple (List.replicate m (p2 (0,1))),.tuple (List.replicate k (p3 (0,1,2)))])] h=some (.bool true,h):=by
 have e1:=bW (d+8) h (st:=z8) rfl;have e2:=dM d h (xs:=List.replicate n gdI) (fun x hx=>by rw [List.eq_of_mem_replicate hx];exact aC2) (by simpa using hn2);have e3:=dN (d+6) h (ps:=List.replicate m (0,1)) (n:=n) (by simpa using hm) (fun p hp=>by rw [List.eq_of_mem_replicate hp];exact ⟨by show 0 < n;omega,by show 1 < n;omega,by decide⟩);have e4:=jB (d+6) h (its:=List.replicate n gdI) (ts:=List.replicate k (0,1,2)) (by simpa using hk) (fun p hp=>by
  rw [List.eq_of_mem_replicate hp];simp only [List.length_replicate];exact ⟨by show 0 < n;omega,by show 1 < n;omega,by show 2 < n;omega,by decide,by decide,by decide,aZ7 (by omega),aZ7 (by omega)⟩)
 rw [List.map_replicate] at e2 e3 e4;rw [List.map_replicate] at e4;simp [bY,bL,e1,e2,e3,e4]
end K13
namespace K13
open PySem PySem.Spec PyProof.Rows L2 DL CI SJ
variable (d:Nat) (h:aA)
noncomputable def rD (k:Int):PyData:=.tuple [.str "read",.int k]
noncomputable def sD (x:String):PyData:=.str (Str.ofString x)
noncomputable def badI:List PyData:=[.tuple [rD 0,.none],.tuple [rD 0,.none,sD "must",.int 0],.list [rD 0,.none,sD "must"],.tuple [rD 8,.none,sD "must"],.int 5] ++
 [.tuple [rD 0,.tuple [sD "done"],sD "must"],.tuple [rD 0,.tuple [sD "got",.bool true],sD "may"],.tuple [rD 0,.none,sD "Must"],.tuple [rD 0,.none,.none]] ++
 [.tuple [.tuple [sD "lay",.tuple []],.none,sD "must"],.tuple [.tuple [sD "look",.tuple [sD "look",rD 0]],.none,sD "must"],.tuple [.tuple [sD "deal",.tuple []],.none,sD "may"]] ++
 [.tuple [rD 0,.none,sD ""],.tuple [rD 0,.none,sD "mus"],.tuple [rD 0,.none,sD "musts"],.tuple [rD 0,.none,sD "may out"]] ++
 [.tuple [.tuple [sD "look",rD 0],.tuple [sD "refused"],sD "must"],.tuple [.tuple [sD "span",.int 3,.int 3],.none,sD "out"],.tuple [.tuple [],.none,sD "must"]]
noncomputable def wO:aD T (d+1) "_law_bad_items" [] h=some (.list badI,h):=by
 simp [lE,badI,rD,sD,szl,aQ]
end K13
namespace K13
open PySem PySem.Spec PyProof.Rows L2 DL CI SJ
variable (d:Nat) (h:aA)
noncomputable def tZ {x:PyData} (hx:bL x 3=false):aD T (d+10) "is_item" [.d x] h=some (.bool false,h):=by simp [dJ,hx]
noncomputable def rS {p t w:PyData} (hs:dS p=true) (hp:fX p=false):aD T (d+10) "is_item" [.d (.tuple [p,t,w])] h=some (.bool false,h):=by
 have:=eO (d+1) p h hs;rw [hp] at this;simp [dJ,bL,this]
noncomputable def bV9:Sok (.call (.one (.read 0))):=show (0:Nat) < 8 by decide
noncomputable def cN7:aD T (d+8) "is_step" [.d (rD 0)] h=some (.bool true,h):=by
 rw [show rD 0=(Stp.call (.one (.read 0))).dat from rfl];exact pC d h bV9
noncomputable def bW0 {t:List PyData} {w:PyData} (ht:iO (.call (.one (.read 0))) (.tuple t)=false):aD T (d+10) "is_item" [.d (.tuple [rD 0,.tuple t,w])] h=some (.bool false,h):=by
 have e1:=cN7 (d+1) h;have e2:=pB d h (.tuple t) bV9;rw [ht,show (Stp.call (.one (.read 0))).dat=rD 0 from rfl] at e2;simp [dJ,bL,e1,e2]
noncomputable def aZ8 {w:String} (hw:xIn (.d (sD w)) (.d (.tuple [.str (Str.ofString "must"),.str (Str.ofString "may"),.str (Str.ofString "out")])) h=some false):aD T (d+10) "is_item" [.d (.tuple [rD 0,.none,sD w])] h=some (.bool false,h):=by
 have e1:=cN7 (d+1) h;rw [sD] at hw;simp [dJ,bL,e1,isi,eU,hw,sD]
noncomputable def cN8:∀ x∈badI,aD T (d+10) "is_item" [.d x] h=some (.bool false,h):=by
 intro x hx;simp only [badI,List.mem_append,List.mem_cons,List.not_mem_nil,or_false,or_assoc] at hx;rcases hx with rfl | rfl | rfl | rfl | rfl | rfl | rfl | rfl | rfl | rfl | rfl | rfl | rfl | rfl | rfl | rfl | rfl | rfl | rfl
 ·exact tZ d h rfl
 ·exact tZ d h rfl
 ·exact tZ d h rfl
 ·exact rS d h (by decide +kernel) (by decide +kernel)
 ·exact tZ d h rfl
 ·exact bW0 d h (by simp [iO,aG,bJ,cD,sD])
 ·exact bW0 d h (by simp [iO,aG,bJ,cD,sD,fV])
 ·exact aZ8 d h (by simp [xIn,ref,PyData.eqv,sD])
 ·have e1:=cN7 (d+1) h;simp [dJ,bL,e1,isi,eU]
 ·exact rS d h (by decide +kernel) (by decide +kernel)
 ·exact rS d h (by decide +kernel) (by decide +kernel)
 ·exact rS d h (by decide +kernel) (by decide +kernel)
 ·exact aZ8 d h (by simp [xIn,ref,PyData.eqv,sD])
 ·exact aZ8 d h (by simp [xIn,ref,PyData.eqv,sD])
 ·exact aZ8 d h (by simp [xIn,ref,PyData.eqv,sD])
 ·exact aZ8 d h (by simp [xIn,ref,PyData.eqv,sD])
 ·have hp:Sok (.look (.one (.read 0))):=show (0:Nat) < 8 by decide
  have e1:=pC (d+1) h hp;have e2:=pB d h (.tuple [sD "refused"]) hp;rw [show (Stp.look (.one (.read 0))).dat=.tuple [sD "look",rD 0] from rfl] at e1 e2;rw [show iO (.look (.one (.read 0))) (.tuple [sD "refused"])=false by simp [iO,aG,sD]] at e2;simp [dJ,bL,e1,e2]
 ·exact rS d h (by decide +kernel) (by decide +kernel)
 ·exact rS d h (by decide +kernel) (by decide +kernel)
end K13
namespace K13
open PySem PySem.Spec PyProof.Rows L2 DL CI SJ
noncomputable def iD (its:List It) (x:PyData):PyData:=.tuple (its.map It.dat++[x])
variable (d:Nat) (h:aA)
noncomputable def dT9 {x:PyData} (hx:bL x 4=false):aD T (d+12) "is_problem" [.d x] h=some (.bool false,h):=by
 simp [bY,hx]
noncomputable def pZ {f i p a:PyData} (hf:∀ h,aD T (d+11) "is_stand" [.d f] h=some (.bool true,h)) (bi bp ba:Bool) (hi:∀ h,aD T (d+11) "are_items" [.d i] h=some (.bool bi,h))
  (hp:bi=true->∀ h,∃ n,cA [.d i] h=some (.d (.int n),h)/\aD T (d+11) "are_pairs" [.d p,.d (.int n)] h=some (.bool bp,h)) (ha:bi=true->bp=true->∀ h,aD T (d+11) "are_triples" [.d a,.d i] h=some (.bool ba,h)) (hb:(bi&&(bp&&ba))=false) :
  aD T (d+12) "is_problem" [.d (.tuple [f,i,p,a])] h=some (.bool false,h):=by
 cases bi with
 | false=>simp [bY,bL,hf,hi]
 | true =>
  obtain ⟨n,e1,e2⟩:=hp rfl h;cases bp with
  | false=>simp [bY,bL,hf,hi,e1,e2]
  | true =>
   have e3:=ha rfl rfl h;cases ba with
   | false=>simp [bY,bL,hf,hi,e1,e2,e3]
   | true=>simp at hb
noncomputable def rT (xs:List PyData) (h:aA):cA [.d (.tuple xs)] h=some (.d (.int xs.length),h):=by simp [cA,ref]
theorem wP:∀ its:List It,dH (its.map (fun _=>PyData.bool true)++[.bool false])=some (its.map (fun _=>true)++[false])
 | []=>rfl
 | a::r=>by
  rw [List.map_cons,List.cons_append,dH,wP r];rfl
noncomputable def aK7 {its:List It} (hx:∀ x∈its,x.ok) (hl:its.length<=100) {z:PyData} (hz:∀ h,aD T (d+10) "is_item" [.d z] h=some (.bool false,h)):aD T (d+11) "are_items" [.d (iD its z)] h=some (.bool false,h):=by
 have hl':(its.length:Int)+1<=120:=by omega
 have e1:its.map It.dat++[z]=(its.map (fun x=>(x.dat,PyData.bool true))++[(z,PyData.bool false)]).map (·.1):=by simp
 have e2:(its.map (fun x=>(x.dat,PyData.bool true))++[(z,PyData.bool false)]).map (·.2)=its.map (fun _=>PyData.bool true)++[.bool false]:=by simp
 simp [fS,iD,isi,eU,hl',aQ];rw [e1,dG (fun δ=>∃ a,δ=[a]) _ _ _ ⟨_,rfl⟩ (fun q hq δ ⟨a,e⟩=>by
  subst e;refine ⟨[some (.d q.1)],rfl,⟨_,rfl⟩,?_⟩;rcases List.mem_append.mp hq with hq | hq
  ·obtain ⟨x,hx',rfl⟩:=List.mem_map.mp hq;simp [rQ d h (hx x hx')]
  ·rw [List.mem_singleton.mp hq];simp [hz]),List.nil_append,e2]
 simp [wP]
noncomputable def bO7 (xs:List PyData):aD T (d+11) "are_items" [.d (.list xs)] h=some (.bool false,h):=by simp [fS,isi,eU]
noncomputable def cN9 (ns:List Int) (n:Int):aD T (d+3) "are_numbers" [.d (.tuple (ns.map .int)),.d (.int n)] h=some (.bool ((ns.map PyData.int).all fun x=>bP x 0 (n - 1)),h):=by
 simp only [fZ,aI7];simp [aQ];have eb:=fG (f:=fun x=>bP x 0 (n - 1)) (ns.map PyData.int);rw [List.map_map] at eb;rw [bK (fun x=>.bool (bP x 0 (n - 1))) 0 (fun _ _ _=>rfl)]
 ·simp [eb]
 ·intro y hy u;simp
noncomputable def pH (n a b:Int) (hab:¬ (0<=a/\a < n)\/¬ (0<=b/\b < n)\/a=b):aD T (d+4) "are_unlike" [.d (.tuple [.int a,.int b]),.d (.int 2),.d (.int n)] h=some (.bool false,h):=by
 have e:=cN9 d h [a,b] n;simp only [List.map_cons,List.map_nil] at e;cases q:([PyData.int a,.int b].all fun x=>bP x 0 (n - 1)) with
 | false =>
  rw [q] at e;simp [cG,bL,e]
 | true =>
  rw [q] at e;simp [bP,fV] at q;have:a=b:=by omega
  subst this;simp [cG,bL,e,xLS,gX,ST.dd,step_dedup]
def noP (d:Nat) (x:PyData):Prop:=∀ h,aD T (d+12) "is_problem" [.d x] h=some (.bool false,h)
noncomputable def cO0 {b:Pb} (hb:b.ok) (hil:b.its.length<=60) {z p a:PyData} (hz:∀ h,aD T (d+10) "is_item" [.d z] h=some (.bool false,h)):noP d (.tuple [.tuple (b.st.map .int),iD b.its z,p,a]):=fun h =>
 pZ d h (fun h=>bW (d+8) h hb.st) false false false (fun h=>aK7 d h hb.its (by omega) hz) (fun z=>nomatch z) (fun z=>nomatch z) rfl
noncomputable def bO8 {b:Pb} (hb:b.ok) (hil:b.its.length<=60) {z p a:PyData} (hz:z∈badI):noP d (.tuple [.tuple (b.st.map .int),iD b.its z,p,a]):=cO0 d hb hil fun h=>cN8 d h z hz
end K13
namespace K13
open PySem PySem.Spec PyProof.Rows L2 DL CI SJ
variable (d:Nat) (h:aA)
theorem kO {α:Type}:∀ its:List α,dH (its.map (fun _=>PyData.bool true)++[.bool false])=some (its.map (fun _=>true)++[false])
 | []=>rfl
 | a::r=>by
  rw [List.map_cons,List.cons_append,dH,kO r];rfl
noncomputable def dD8 {p:Nat×Nat} {n:Nat} (hp:p.1 < n/\p.2 < n/\p.1≠p.2):aD T (d+4) "are_unlike" [.d (p2 p),.d (.int 2),.d (.int n)] h=some (.bool true,h):=by
 obtain ⟨h1,h2,h3⟩:=hp;exact kM d h (ns:=[(p.1:Int),(p.2:Int)]) (n:=n) (by simp;omega) (by simp;omega) (by simp)
noncomputable def bW1 {p:Nat×Nat×Nat} {n:Nat} (hp:p.1 < n/\p.2.1 < n/\p.2.2 < n/\p.1≠p.2.1/\p.1≠p.2.2/\p.2.1≠p.2.2):aD T (d+4) "are_unlike" [.d (p3 p),.d (.int 3),.d (.int n)] h=some (.bool true,h):=by
 obtain ⟨h1,h2,h3,h4,h5,h6⟩:=hp;exact kM d h (ns:=[(p.1:Int),(p.2.1:Int),(p.2.2:Int)]) (n:=n) (by simp;omega) (by simp;omega) (by simp)
noncomputable def aK8 {ps:List (Nat×Nat)} {n:Nat} (hl:ps.length<=100) (hp:∀ p∈ps,p.1 < n/\p.2 < n/\p.1≠p.2) {z:PyData} (hz:∀ h,aD T (d+4) "are_unlike" [.d z,.d (.int 2),.d (.int n)] h=some (.bool false,h)) :
  aD T (d+5) "are_pairs" [.d (.tuple (ps.map p2++[z])),.d (.int n)] h=some (.bool false,h):=by
 have hl':¬ (4000:Int) < (ps.length:Int)+1:=by omega
 have e1:ps.map p2++[z]=(ps.map (fun x=>(p2 x,PyData.bool true))++[(z,PyData.bool false)]).map (·.1):=by simp
 have e2:(ps.map (fun x=>(p2 x,PyData.bool true))++[(z,PyData.bool false)]).map (·.2)=ps.map (fun _=>PyData.bool true)++[.bool false]:=by simp
 simp [fT,isi,eU,hl',aQ];rw [e1,dG (fun δ=>∃ a,δ=[a,some (.d (.int n))]) _ _ _ ⟨_,rfl⟩ (fun q hq δ ⟨a,e⟩=>by
  subst e;refine ⟨[some (.d q.1),some (.d (.int n))],rfl,⟨_,rfl⟩,?_⟩;rcases List.mem_append.mp hq with hq | hq
  ·obtain ⟨x,hx',rfl⟩:=List.mem_map.mp hq;simp [dD8 d h (hp x hx')]
  ·rw [List.mem_singleton.mp hq];simp [hz]),List.nil_append,e2]
 simp [kO]
noncomputable def wQ {its:List PyData} {ts:List (Nat×Nat×Nat)} (hl:ts.length<=100) (hp:∀ p∈ts,p.1 < its.length/\p.2.1 < its.length/\p.2.2 < its.length/\p.1≠p.2.1/\p.1≠p.2.2/\p.2.1≠p.2.2) {z:PyData} (hz:∀ h,aD T (d+4) "are_unlike" [.d z,.d (.int 3),.d (.int its.length)] h=some (.bool false,h)) :
  aD T (d+5) "are_triples" [.d (.tuple (ts.map p3++[z])),.d (.tuple its)] h=some (.bool false,h):=by
 have hl':¬ (4000:Int) < (ts.length:Int)+1:=by omega
 have e1:ts.map p3++[z]=(ts.map (fun x=>(p3 x,PyData.bool true))++[(z,PyData.bool false)]).map (·.1):=by simp
 have e2:(ts.map (fun x=>(p3 x,PyData.bool true))++[(z,PyData.bool false)]).map (·.2)=ts.map (fun _=>PyData.bool true)++[.bool false]:=by simp
 simp [dA,isi,eU,hl',aQ];rw [e1,dG (fun δ=>∃ a,δ=[a,some (.d (.tuple its))]) _ _ _ ⟨_,rfl⟩ (fun q hq δ ⟨a,e⟩=>by
  subst e;refine ⟨[some (.d q.1),some (.d (.tuple its))],rfl,⟨_,rfl⟩,?_⟩;rcases List.mem_append.mp hq with hq | hq
  ·obtain ⟨x,hx',rfl⟩:=List.mem_map.mp hq;simp [bW1 d h (hp x hx')]
  ·rw [List.mem_singleton.mp hq];simp [hz]),List.nil_append,e2]
 simp [kO]
end K13
namespace K13
open PySem PySem.Spec PyProof.Rows L2 DL CI SJ
variable (d:Nat) (h:aA)
noncomputable def dD9 {x:PyData} (hx:bL x 4=false):noP d x:=fun h=>dT9 d h hx
noncomputable def aZ9 {f i p a:PyData} (hf:∀ h,aD T (d+11) "is_stand" [.d f] h=some (.bool false,h)):noP d (.tuple [f,i,p,a]):=fun h=>by simp [bY,bL,hf]
noncomputable def dE0 {f:PyData} (hf:bL f 8=false):aD T (d+11) "is_stand" [.d f] h=some (.bool false,h):=by
 simp [jK,hf]
noncomputable def dU0 {xs:List PyData} (hl:xs.length=8) (hw:xs.all fV=false):aD T (d+11) "is_stand" [.d (.tuple xs)] h=some (.bool false,h):=by
 simp [jK,bL,hl]
 simpa using hw
noncomputable def bA0 (xs:List PyData) (n:Int):aD T (d+3) "are_numbers" [.d (.tuple xs),.d (.int n)] h=some (.bool (xs.all fun x=>bP x 0 (n - 1)),h):=by
 simp only [fZ,aI7];simp [aQ];have eb:=fG (f:=fun x=>bP x 0 (n - 1)) xs;rw [bK (fun x=>.bool (bP x 0 (n - 1))) 0 (fun _ _ _=>rfl)]
 ·simp [eb]
 ·intro y hy u;simp
noncomputable def bA1 {z:PyData} {k n:Int} (hz:bL z k=false):aD T (d+4) "are_unlike" [.d z,.d (.int k),.d (.int n)] h=some (.bool false,h):=by
 simp [cG,hz]
noncomputable def cO1 {xs:List PyData} {k n:Int} (hl:(xs.length:Int)=k) (hz:(xs.all fun x=>bP x 0 (n - 1))=false):aD T (d+4) "are_unlike" [.d (.tuple xs),.d (.int k),.d (.int n)] h=some (.bool false,h):=by
 have e:=bA0 d h xs n;rw [hz] at e;simp [cG,bL,hl,e]
noncomputable def bA2 (n a b c:Int) (hab:¬ (0<=a/\a < n)\/¬ (0<=b/\b < n)\/¬ (0<=c/\c < n)\/a=b\/b=c\/a=c):aD T (d+4) "are_unlike" [.d (.tuple [.int a,.int b,.int c]),.d (.int 3),.d (.int n)] h=some (.bool false,h):=by
 have e:=bA0 d h [.int a,.int b,.int c] n;cases q:([PyData.int a,.int b,.int c].all fun x=>bP x 0 (n - 1)) with
 | false=>exact cO1 d h rfl q
 | true =>
  rw [q] at e;simp [bP] at q;have hs:a=b\/b=c\/a=c:=by omega
  have e3:∀ l:List Int,l.length<=2->¬ ((l.length:Int)=3):=fun l hl=>by omega
  have:(ST.dd [a,b,c]).length<=2:=by
   rcases hs with rfl | rfl | rfl
   ·simp [ST.dd,step_dedup];split<;>simp<;>split<;>simp
   ·simp [ST.dd,step_dedup];split<;>simp<;>split<;>simp
   ·simp [ST.dd,step_dedup];split<;>simp<;>split<;>simp
  simp [cG,bL,e,xLS,gX,e3 _ this]
end K13
namespace K13
open PySem PySem.Spec PyProof.Rows L2 DL CI SJ
variable (d:Nat) (h:aA)
noncomputable def myI:It:=⟨.call (.one (.read 1)),.none,"may"⟩
noncomputable def dE1:myI.ok:=⟨show (1:Nat) < 8 by decide,.inl rfl,.inl rfl,.inr (.inl rfl)⟩
noncomputable def mo (its:List It):List It:=its++[gdI,gdI,myI]
noncomputable def fO (its:List It):(mo its).length=its.length+3:=by simp [mo]
noncomputable def dE2 {its:List It} (hi:∀ x∈its,x.ok):∀ x∈mo its,x.ok:=fun x hx=>by
 rcases List.mem_append.mp hx with q | q
 ·exact hi x q
 ·simp only [List.mem_cons,List.not_mem_nil,or_false] at q;rcases q with rfl | rfl | rfl
  ·exact aC2
  ·exact aC2
  ·exact dE1
noncomputable def aC3 {its:List It} {x:Nat} (m:must its x):must (mo its) x:=by
 obtain ⟨y,e,w⟩:=m;have hx:x < its.length:=(List.getElem?_eq_some_iff.mp e).1;exact ⟨y,by rw [mo,List.getElem?_append_left hx];exact e,w⟩
noncomputable def moD (its:List It):PyData:=.tuple ((mo its).map It.dat)
section
variable {b:Pb} (hb:b.ok)
include hb
noncomputable def bA3:∀ p∈b.ps,p.1 < (mo b.its).length/\p.2 < (mo b.its).length/\p.1≠p.2:=fun p hp=>by
 obtain ⟨h1,h2,h3⟩:=hb.ps p hp;rw [fO];exact ⟨by omega,by omega,h3⟩
noncomputable def bW2:∀ p∈b.ts,p.1 < (mo b.its).length/\p.2.1 < (mo b.its).length/\p.2.2 < (mo b.its).length/\p.1≠p.2.1/\p.1≠p.2.2/\p.2.1≠p.2.2/\must (mo b.its) p.1/\must (mo b.its) p.2.1:=fun p hp=>by
 obtain ⟨h1,h2,h3,h4,h5,h6,h7,h8⟩:=hb.ts p hp;rw [fO];exact ⟨by omega,by omega,by omega,h4,h5,h6,aC3 h7,aC3 h8⟩
noncomputable def cO2 {p a:PyData} (xs:List PyData):noP d (.tuple [.tuple (b.st.map .int),.list xs,p,a]):=fun h=>pZ d h (fun h=>bW (d+8) h hb.st) false false false (fun h=>bO7 d h xs) (fun z=>nomatch z) (fun z=>nomatch z) rfl
end
section
variable {b:Pb} (hb:b.ok) (hil:b.its.length<=60)
include hb hil
noncomputable def bA4 (h:aA):aD T (d+11) "are_items" [.d (moD b.its)] h=some (.bool true,h):=dM d h (dE2 hb.its) (by rw [fO];omega)
noncomputable def dE3 {z a:PyData} (hz:∀ h,aD T (d+10) "are_unlike" [.d z,.d (.int 2),.d (.int (b.its.length+3:Nat))] h=some (.bool false,h)):noP d (.tuple [.tuple (b.st.map .int),moD b.its,.tuple (b.ps.map p2++[z]),a]):=fun h=>by
 refine pZ d h (fun h=>bW (d+8) h hb.st) true false false (fun h=>bA4 d hb hil h) (fun _ h=>⟨(b.its.length+3:Nat),?_,?_⟩) (fun _ z=>nomatch z) rfl
 ·rw [moD,rT,List.length_map,fO]
 ·have:=bA3 hb;rw [fO] at this;exact aK8 (d+6) h hb.pl this hz
noncomputable def dE4 {z:PyData} (hz:∀ h,aD T (d+10) "are_unlike" [.d z,.d (.int 3),.d (.int (b.its.length+3:Nat))] h=some (.bool false,h)):noP d (.tuple [.tuple (b.st.map .int),moD b.its,.tuple (b.ps.map p2),.tuple (b.ts.map p3++[z])]):=fun h=>by
 refine pZ d h (fun h=>bW (d+8) h hb.st) true true false (fun h=>bA4 d hb hil h) (fun _ h=>⟨(b.its.length+3:Nat),?_,?_⟩) (fun _ _ h=>?_) rfl
 ·rw [moD,rT,List.length_map,fO]
 ·have:=bA3 hb;rw [fO] at this;exact dN (d+6) h (Nat.le_trans hb.pl (by decide)) this
 ·refine wQ (d+6) h (its:=(mo b.its).map It.dat) hb.tl (fun p hp=>?_) (fun h=>?_)
  ·obtain ⟨h1,h2,h3,h4,h5,h6,_⟩:=bW2 hb p hp;simp only [List.length_map];exact ⟨h1,h2,h3,h4,h5,h6⟩
  ·rw [List.length_map,fO];exact hz h
noncomputable def bW3 {q:Nat×Nat×Nat} (hq:q.1 < b.its.length+3/\q.2.1 < b.its.length+3/\q.2.2 < b.its.length+3/\q.1≠q.2.1/\q.1≠q.2.2/\q.2.1≠q.2.2) {x1 x2:It} (e1:(mo b.its)[q.1]?=some x1) (e2:(mo b.its)[q.2.1]?=some x2) (hw:(x1.w="may"/\(x2.w="must"\/x2.w="may"))\/(x1.w="must"/\x2.w="may")) :
  noP d (.tuple [.tuple (b.st.map .int),moD b.its,.tuple (b.ps.map p2),.tuple (b.ts.map p3++[p3 q])]):=fun h=>by
 refine pZ d h (fun h=>bW (d+8) h hb.st) true true false (fun h=>bA4 d hb hil h) (fun _ h=>⟨(b.its.length+3:Nat),?_,?_⟩) (fun _ _ h=>?_) rfl
 ·rw [moD,rT,List.length_map,fO]
 ·have:=bA3 hb;rw [fO] at this;exact dN (d+6) h (Nat.le_trans hb.pl (by decide)) this
 ·have hp:=bW2 hb;have hl':¬ (4000:Int) < (b.ts.length:Int)+1:=by have:=hb.tl;omega
  have ex:b.ts.map p3++[p3 q]=(b.ts++[q]).map p3:=by simp
  have eu:∀ p∈b.ts++[q],∀ h,aD T (d+10) "are_unlike" [.d (p3 p),.d (.int 3),.d (.int ((mo b.its).map It.dat).length)] h=some (.bool true,h):=fun p hm h=>by
   rw [List.length_map];refine bW1 (d+6) h ?_;rcases List.mem_append.mp hm with hm | hm
   ·obtain ⟨h1,h2,h3,h4,h5,h6,_⟩:=hp p hm;exact ⟨h1,h2,h3,h4,h5,h6⟩
   ·rw [List.mem_singleton.mp hm,fO];exact hq
  have e4:(b.ts.map (fun x=>(p3 x,PyData.bool true))++[(p3 q,PyData.bool false)]).map (·.1)=(b.ts++[q]).map p3:=by simp
  have e5:(b.ts.map (fun x=>(p3 x,PyData.bool true))++[(p3 q,PyData.bool false)]).map (·.2)=b.ts.map (fun _=>PyData.bool true)++[.bool false]:=by simp
  rw [ex,moD];generalize hI:(mo b.its).map It.dat=its at *;simp [dA,isi,eU,hl',aQ,-List.map_append];rw [bK (fun x=>.bool true) 0 (fun _ _ _=>rfl)]
  ·simp [gW,-List.map_append];rw [<- e4,dG (fun δ=>∃ a b c,δ=[a,b,c,some (.d (.tuple its))]) _ _ _ ⟨_,_,_,rfl⟩ (fun y hy δ ⟨a,b',c,e⟩=>by
    subst e;rcases List.mem_append.mp hy with hy | hy
    ·obtain ⟨p,hm,rfl⟩:=List.mem_map.mp hy;obtain ⟨h1,h2,h3,h4,h5,h6,⟨x1,e1,w1⟩,⟨x2,e2,w2⟩⟩:=hp p hm;refine ⟨[some (.d (.int p.1)),some (.d (.int p.2.1)),some (.d (.int p.2.2)),some (.d (.tuple its))],by simp [p3],⟨_,_,_,rfl⟩,?_⟩;subst hI;simp [pD e1,pD e2,It.dat,w1,w2,PyData.eqv]
    ·rw [List.mem_singleton.mp hy];refine ⟨[some (.d (.int q.1)),some (.d (.int q.2.1)),some (.d (.int q.2.2)),some (.d (.tuple its))],by simp [p3],⟨_,_,_,rfl⟩,?_⟩;subst hI;rcases hw with ⟨w1,w2 | w2⟩ | ⟨w1,w2⟩<;>simp [pD e1,pD e2,It.dat,w1,w2,PyData.eqv]),List.nil_append,e5]
   simp [kO]
  ·intro y hy u;obtain ⟨p,hm,rfl⟩:=List.mem_map.mp hy;simp [eu p hm]
noncomputable def cO3 {a:PyData} (xs:List PyData):noP d (.tuple [.tuple (b.st.map .int),.tuple (b.its.map It.dat),.list xs,a]):=fun h=>by
 refine pZ d h (fun h=>bW (d+8) h hb.st) true false false (fun h=>dM d h hb.its (by omega)) (fun _ h=>⟨b.its.length,?_,?_⟩) (fun _ z=>nomatch z) rfl
 ·rw [rT,List.length_map]
 ·simp [fT,isi,eU]
noncomputable def cO4 (xs:List PyData):noP d (.tuple [.tuple (b.st.map .int),.tuple (b.its.map It.dat),.tuple (b.ps.map p2),.list xs]):=fun h=>by
 refine pZ d h (fun h=>bW (d+8) h hb.st) true true false (fun h=>dM d h hb.its (by omega)) (fun _ h=>⟨b.its.length,?_,?_⟩) (fun _ _ h=>?_) rfl
 ·rw [rT,List.length_map]
 ·exact dN (d+6) h (Nat.le_trans hb.pl (by decide)) hb.ps
 ·simp [dA,isi,eU]
end
end K13
namespace K13
open PySem PySem.Spec PyProof.Rows L2 DL CI SJ
noncomputable def hV {γ:Type} {x:Option (Fl×aA)} {f:Fl×aA->Option (Fl×aA)} {e:Fl×aA->Option γ} {Q:Option γ->Prop} (δ':DSt) (h':aA) (e1:x=some (.nx δ',h')) (k:Q ((f (.nx δ',h')).bind e)):Q ((x.bind f).bind e):=by
 rw [e1];exact k
noncomputable def bA5 {γ:Type} {x:Option (Fl×aA)} {f:Fl×aA->Option (Fl×aA)} {e:Fl×aA->Option γ} {Q:Option γ->Prop} (Jv:DSt->aA->Prop) (e1:∃ δ' h',x=some (.nx δ',h')/\Jv δ' h') (k:∀ δ' h',Jv δ' h'->Q ((f (.nx δ',h')).bind e)):Q ((x.bind f).bind e):=by
 obtain ⟨δ',h',e1,j⟩:=e1;rw [e1];exact k δ' h' j
section
variable (h:aA) (c0 c1:Cell)
noncomputable def g2 (c:Cell):(h++[c0,c1,c])[h.length+2]?=some c:=by simp
noncomputable def s2 (c c':Cell):(h++[c0,c1,c]).set (h.length+2) c'=h++[c0,c1,c']:=by
 rw [List.set_append_right _ _ (by omega)];simp
noncomputable def mp2 (xs:List PyData):pQ (Str.ofString "append") (.c (h.length+2)) (h++[c0,c1,.l xs])=true:=by simp [pQ,g2]
noncomputable def r2 (xs:List PyData):ref (h++[c0,c1,.l xs]) (.c (h.length+2))=some (.list xs):=by simp [ref,g2]
noncomputable def r1 (xs:List PyData):ref (h++[c0,.l xs]) (.c (h.length+1))=some (.list xs):=by simp [ref]
noncomputable def r0 (xs:List PyData):ref (h++[.l xs]) (.c h.length)=some (.list xs):=by simp [ref]
end
def noA (x:PyData):Prop:=∀ d,noP d x
def Bd (h:aA) (r:Option (PyData×aA)):Prop:=∃ F:List PyData,(∀ x∈F,noA x)/\1<=F.length/\F.length<=100/\r=some (.list F,h)
noncomputable def yW {F:List PyData} {z:PyData} (hF:∀ x∈F,noA x) (hz:noA z):∀ x∈F++[z],noA x:=fun x hx=>by
 rcases List.mem_append.mp hx with q | q
 ·exact hF x q
 ·rw [List.mem_singleton.mp q];exact hz
noncomputable def aC4 {α:Type} {x:Option α} (v:α) (e:x=some v) {f:α->Option (Fl×aA)} {P:DSt->aA->Prop} (k:∃ δ' h',f v=some (.nx δ',h')/\P δ' h'):∃ δ' h',x.bind f=some (.nx δ',h')/\P δ' h':=by
 rw [e];exact k
noncomputable def dE5 (d:Nat) (h:aA) {b:Pb} (hb:b.ok) (hil:b.its.length<=60):Bd h (aD T (d+2) "_law_bad" [.d b.dat] h):=by
 have bi:∀ h,aD T (d+1) "_law_bad_items" [] h=some (.list badI,h):=fun h=>wO d h;have kI:∀ z∈badI,noA (.tuple [.tuple (b.st.map .int),iD b.its z,.tuple (b.ps.map p2),.tuple (b.ts.map p3)]):=fun z hz d=>bO8 d hb hil hz;have kP:∀ z:PyData,(∀ d h,aD T (d+10) "are_unlike" [.d z,.d (.int 2),.d (.int (b.its.length+3:Nat))] h=some (.bool false,h))->noA (.tuple [.tuple (b.st.map .int),moD b.its,.tuple (b.ps.map p2++[z]),.tuple (b.ts.map p3)]):=fun z hz d=>dE3 d hb hil (hz d);have kQ:∀ z:PyData,(∀ d h,aD T (d+10) "are_unlike" [.d z,.d (.int 3),.d (.int (b.its.length+3:Nat))] h=some (.bool false,h))->noA (.tuple [.tuple (b.st.map .int),moD b.its,.tuple (b.ps.map p2),.tuple (b.ts.map p3++[z])]):=fun z hz d=>dE4 d hb hil (hz d);have g0:(mo b.its)[b.its.length]?=some gdI:=by simp [mo]
 have g1:(mo b.its)[b.its.length+1]?=some gdI:=by rw [mo,List.getElem?_append_right (by omega)];simp
 have g2':(mo b.its)[b.its.length+2]?=some myI:=by rw [mo,List.getElem?_append_right (by omega)];simp
 have kM1:noA (.tuple [.tuple (b.st.map .int),moD b.its,.tuple (b.ps.map p2),.tuple (b.ts.map p3++[.tuple [.int b.its.length,.int ((b.its.length:Int)+2),.int ((b.its.length:Int)+1)]])]):=fun d=>bW3 d hb hil (q:=(b.its.length,b.its.length+2,b.its.length+1)) ⟨by simp,by simp,by simp,by simp,by simp,by simp⟩ g0 g2' (.inr ⟨rfl,rfl⟩);have kM2:noA (.tuple [.tuple (b.st.map .int),moD b.its,.tuple (b.ps.map p2),.tuple (b.ts.map p3++[.tuple [.int ((b.its.length:Int)+2),.int b.its.length,.int ((b.its.length:Int)+1)]])]):=fun d=>bW3 d hb hil (q:=(b.its.length+2,b.its.length,b.its.length+1)) ⟨by simp,by simp,by simp,by simp,by simp,by simp⟩ g2' g0 (.inl ⟨rfl,.inl rfl⟩);clear g0 g1 g2';have k7:noA (.tuple [.tuple (cut (b.st.map .int) none (some 7)),.tuple (b.its.map It.dat),.tuple (b.ps.map p2),.tuple (b.ts.map p3)]):=fun d=>aZ9 d fun h=>dE0 d h (by
  rw [show ((7:Int))=((7:Nat):Int) from rfl,yN _ (by rw [List.length_map,hb.st];omega)];simp [bL,hb.st])
 have k8:noA (.tuple [.list (b.st.map .int),.tuple (b.its.map It.dat),.tuple (b.ps.map p2),.tuple (b.ts.map p3)]):=fun d=>aZ9 d fun h=>dE0 d h rfl;have k9:noA (.tuple [.tuple (.bool true::cut (b.st.map .int) (some 1) none),.tuple (b.its.map It.dat),.tuple (b.ps.map p2),.tuple (b.ts.map p3)]):=fun d=>aZ9 d fun h=>dU0 d h (by
  rw [show ((1:Int))=((1:Nat):Int) from rfl,yO _ (by rw [List.length_map,hb.st];omega)];simp [hb.st]) (by simp [fV])
 have k10:noA _:=fun d=>cO2 d hb (p:=.tuple (b.ps.map p2)) (a:=.tuple (b.ts.map p3)) (b.its.map It.dat);have k11:noA _:=fun d=>cO3 d hb hil (a:=.tuple (b.ts.map p3)) (b.ps.map p2);have k12:noA _:=fun d=>cO4 d hb hil (b.ts.map p3);have l1:(cut (b.st.map PyData.int) (some 1) none).length=7:=by
  rw [show ((1:Int))=((1:Nat):Int) from rfl,yO _ (by rw [List.length_map,hb.st];omega)];simp [hb.st]
 have lI:(b.its.map It.dat).length=b.its.length:=List.length_map _;have lP:(b.ps.map p2).length<=100:=by rw [List.length_map];exact hb.pl
 have lT:(b.ts.map p3).length<=100:=by rw [List.length_map];exact hb.tl
 have lb:badI.length<=30:=by decide
 rw [yH];simp only [dA4,dA5,dA3,dA6,dB5,dA7,dB3,dB4,aI7,bM5,dB9,dC1,dB6,dB1,bV5,dC2,dC3,dC4,dC5,dC6,dC7,dC8,dB7,dA8,dA9,dB0,dB2,dC0,bV4,dB8];generalize aD T (d+1)=fn at *;have c3:cut [PyData.tuple (b.st.map .int),.tuple (b.its.map It.dat),.tuple (b.ps.map p2),.tuple (b.ts.map p3)] none (some 3)=[.tuple (b.st.map .int),.tuple (b.its.map It.dat),.tuple (b.ps.map p2)]:=by rfl
 have mD:moD b.its=.tuple (b.its.map It.dat++[gdI.dat,gdI.dat,myI.dat]):=by simp [moD,mo]
 have e7:∀ h,xSl (.d (.tuple (b.st.map .int))) none (some 7) h=some (.d (.tuple (cut (b.st.map .int) none (some 7))),h):=fun h=>rfl;have e1':∀ h,xSl (.d (.tuple (b.st.map .int))) (some 1) none h=some (.d (.tuple (cut (b.st.map .int) (some 1) none)),h):=fun h=>rfl;unfold Pb.dat;simp only [iD] at kI;simp only [mD] at kP kQ kM1 kM2;generalize hfs:b.st.map PyData.int=fs at *;generalize his:b.its.map It.dat=is at *;generalize hps:b.ps.map p2=ps at *;generalize hts:b.ts.map p3=ts at *;generalize hn:b.its.length=n0 at *;have hlen:∀ h,cA [.d (.tuple is)] h=some (.d (.int n0),h):=fun h=>by rw [rT,lI]
 refine hV (Q:=Bd h) [some (.d (.tuple [.tuple fs,.tuple is,.tuple ps,.tuple ts])),some (.d (.tuple fs)),some (.d (.tuple is)),some (.d (.tuple ps)),some (.d (.tuple ts)),none,none,none,none,none,none,none,none,none,none,none] (h) (by simp [jA]) ?_;dsimp only;refine hV (Q:=Bd h) [some (.d (.tuple [.tuple fs,.tuple is,.tuple ps,.tuple ts])),some (.d (.tuple fs)),some (.d (.tuple is)),some (.d (.tuple ps)),some (.d (.tuple ts)),some (.d (.int (n0:Nat))),none,none,none,none,none,none,none,none,none,none] (h) (by simp [hlen]) ?_;dsimp only;obtain ⟨F0,hF0⟩:∃ F0,F0=[PyData.tuple [.tuple fs,.tuple is,.tuple ps],.tuple [.tuple fs,.tuple is,.tuple ps,.tuple ts,.tuple []],.list [.tuple fs,.tuple is,.tuple ps,.tuple ts],.none,.int 7,.str "problem"]:=⟨_,rfl⟩;have n0':∀ x∈F0,noA x:=fun x hx=>by
  subst hF0;simp only [List.mem_cons,List.not_mem_nil,or_false] at hx;rcases hx with rfl | rfl | rfl | rfl | rfl | rfl<;>exact fun d=>dD9 d rfl
 have L0:F0.length=6:=by rw [hF0];rfl
 refine hV (Q:=Bd h) [some (.d (.tuple [.tuple fs,.tuple is,.tuple ps,.tuple ts])),some (.d (.tuple fs)),some (.d (.tuple is)),some (.d (.tuple ps)),some (.d (.tuple ts)),some (.d (.int (n0:Nat))),some (.c h.length),none,none,none,none,none,none,none,none,none] (h++[.l F0]) (by simp [cX,aQ,ref,szl,hF0,c3]) ?_;dsimp only;clear hF0;obtain ⟨F1,hF1⟩:∃ F1,F1=F0++[PyData.tuple [.tuple (cut fs none (some 7)),.tuple is,.tuple ps,.tuple ts],.tuple [.list fs,.tuple is,.tuple ps,.tuple ts]]:=⟨_,rfl⟩;have n1':∀ x∈F1,noA x:=fun x hx=>by
  subst hF1;rcases List.mem_append.mp hx with q | q
  ·exact n0' x q
  ·simp only [List.mem_cons,List.not_mem_nil,or_false] at q;rcases q with rfl | rfl
   ·exact k7
   ·exact k8
 have L1:F1.length=8:=by rw [hF1];simp [L0]
 refine hV (Q:=Bd h) [some (.d (.tuple [.tuple fs,.tuple is,.tuple ps,.tuple ts])),some (.d (.tuple fs)),some (.d (.tuple is)),some (.d (.tuple ps)),some (.d (.tuple ts)),some (.d (.int (n0:Nat))),some (.c (h.length+1)),none,none,none,none,none,none,none,none,none] (h++[.l F0,.l F1]) (by simp [cX,aQ,r0,ref,szl,hF1,e7,L0]) ?_;dsimp only;clear hF1;obtain ⟨F2,hF2⟩:∃ F2,F2=F1++[PyData.tuple [.tuple (.bool true::cut fs (some 1) none),.tuple is,.tuple ps,.tuple ts],.tuple [.tuple fs,.list is,.tuple ps,.tuple ts]]:=⟨_,rfl⟩;have n2':∀ x∈F2,noA x:=fun x hx=>by
  subst hF2;rcases List.mem_append.mp hx with q | q
  ·exact n1' x q
  ·simp only [List.mem_cons,List.not_mem_nil,or_false] at q;rcases q with rfl | rfl
   ·exact k9
   ·exact k10
 have L2':F2.length=10:=by rw [hF2];simp [L1]
 refine hV (Q:=Bd h) [some (.d (.tuple [.tuple fs,.tuple is,.tuple ps,.tuple ts])),some (.d (.tuple fs)),some (.d (.tuple is)),some (.d (.tuple ps)),some (.d (.tuple ts)),some (.d (.int (n0:Nat))),some (.c (h.length+2)),none,none,none,none,none,none,none,none,none] (h++[.l F0,.l F1,.l F2]) (by simp [cX,aQ,r1,ref,szl,hF2,e1',l1,L1]) ?_;dsimp only;clear hF2;generalize Cell.l F0=c0;generalize Cell.l F1=c1;have eE:∀ G,cJ (fun (x:DSt) (h:aA)=>(fn (Str.ofString "_law_bad_items") [] h).bind fun p=>some (W.d p.1,p.2)) [some (.d (.tuple [.tuple fs,.tuple is,.tuple ps,.tuple ts])),some (.d (.tuple fs)),some (.d (.tuple is)),some (.d (.tuple ps)),some (.d (.tuple ts)),some (.d (.int (n0:Nat))),some (.c (h.length+2)),none,none,none,none,none,none,none,none,none] G=some ((badI,none),G):=fun G=>by simp [bi]
 have lp:is.length+1<=16777216:=by rw [lI];omega
 refine bA5 (Q:=Bd h) (fun δ H=>∃ F y,(∀ x∈F,noA x)/\F.length<=40/\1<=F.length/\δ=[some (.d (.tuple [.tuple fs,.tuple is,.tuple ps,.tuple ts])),some (.d (.tuple fs)),some (.d (.tuple is)),some (.d (.tuple ps)),some (.d (.tuple ts)),some (.d (.int (n0:Nat))),some (.c (h.length+2)),y,none,none,none,none,none,none,none,none]/\H=h++[c0,c1,.l F]) ?_ ?_
 ·rw [eE];simp only [bs];refine eJ (fun (k:Nat) (δ:DSt) (H:aA)=>∃ F y,(∀ x∈F,noA x)/\F.length=10+k/\δ=[some (.d (.tuple [.tuple fs,.tuple is,.tuple ps,.tuple ts])),some (.d (.tuple fs)),some (.d (.tuple is)),some (.d (.tuple ps)),some (.d (.tuple ts)),some (.d (.int (n0:Nat))),some (.c (h.length+2)),y,none,none,none,none,none,none,none,none]/\H=h++[c0,c1,.l F]) (rest:=badI) ⟨F2,none,n2',L2',rfl,rfl⟩ (fun δ h' ⟨F,y,z1,z2,z3,z4⟩=>⟨F,y,z1,by omega,by omega,z3,z4⟩) ?_;rintro k hk δ H ⟨F,y,hF,hL,rfl,rfl⟩;have hz:=kI _ (List.getElem_mem hk);generalize badI[k]=z at *;refine ⟨[some (.d (.tuple [.tuple fs,.tuple is,.tuple ps,.tuple ts])),some (.d (.tuple fs)),some (.d (.tuple is)),some (.d (.tuple ps)),some (.d (.tuple ts)),some (.d (.int (n0:Nat))),some (.c (h.length+2)),some (.d z),none,none,none,none,none,none,none,none],h++[c0,c1,.l F],by simp,[some (.d (.tuple [.tuple fs,.tuple is,.tuple ps,.tuple ts])),some (.d (.tuple fs)),some (.d (.tuple is)),some (.d (.tuple ps)),some (.d (.tuple ts)),some (.d (.int (n0:Nat))),some (.c (h.length+2)),some (.d z),none,none,none,none,none,none,none,none],h++[c0,c1,.l (F++[.tuple [.tuple fs,.tuple (is++[z]),.tuple ps,.tuple ts]])],?_,_,_,yW hF hz,by simp [hL];omega,rfl,rfl⟩;have fl:F.length < 16777216:=by omega
  simp [mp2,g2,s2,szl,lp,fl]
 rintro _ _ ⟨F,y7,hF,hL,hL1,rfl,rfl⟩;dsimp only;refine hV (Q:=Bd h) [some (.d (.tuple [.tuple fs,.tuple is,.tuple ps,.tuple ts])),some (.d (.tuple fs)),some (.d (.tuple is)),some (.d (.tuple ps)),some (.d (.tuple ts)),some (.d (.int (n0:Nat))),some (.c (h.length+2)),y7,some (.d gdI.dat),none,none,none,none,none,none,none] (h++[c0,c1,.l F]) (by simp [szl,gdI,It.dat,Stp.dat,Call.dat,One.dat]) ?_;dsimp only;have lp3:is.length+3<=16777216:=by rw [lI];omega
 refine hV (Q:=Bd h) [some (.d (.tuple [.tuple fs,.tuple is,.tuple ps,.tuple ts])),some (.d (.tuple fs)),some (.d (.tuple is)),some (.d (.tuple ps)),some (.d (.tuple ts)),some (.d (.int (n0:Nat))),some (.c (h.length+2)),y7,some (.d gdI.dat),some (.d (.tuple (is++[gdI.dat,gdI.dat,myI.dat]))),none,none,none,none,none,none] (h++[c0,c1,.l F]) (by simp [szl,lp3,myI,It.dat,Stp.dat,Call.dat,One.dat]) ?_;dsimp only;obtain ⟨PL,hPL⟩:∃ PL,PL=[PyData.tuple [.int 0,.int ((n0:Int)+3)],.tuple [.int (-1),.int 0],.tuple [.int 0,.int 0],.tuple [.int 0],.list [.int 0,.int 1],.tuple [.int 0,.int 1,.int 2],.tuple [.bool false,.int 1]]:=⟨_,rfl⟩;have hP:∀ z∈PL,noA (.tuple [.tuple fs,.tuple (is++[gdI.dat,gdI.dat,myI.dat]),.tuple (ps++[z]),.tuple ts]):=fun z hz=>by
  refine kP z fun d h=>?_;subst hPL;simp only [List.mem_cons,List.not_mem_nil,or_false] at hz;rcases hz with rfl | rfl | rfl | rfl | rfl | rfl | rfl
  ·exact pH (d+6) h _ _ _ (by omega)
  ·exact pH (d+6) h _ _ _ (by omega)
  ·exact pH (d+6) h _ _ _ (by omega)
  ·exact bA1 (d+6) h rfl
  ·exact bA1 (d+6) h rfl
  ·exact bA1 (d+6) h rfl
  ·exact cO1 (d+6) h rfl rfl
 have lPL:PL.length=7:=by rw [hPL];rfl
 have lps:ps.length+1<=16777216:=by omega
 have lts:ts.length+1<=16777216:=by omega
 refine bA5 (Q:=Bd h) (fun δ H=>∃ F y,(∀ x∈F,noA x)/\F.length<=47/\1<=F.length/\δ=[some (.d (.tuple [.tuple fs,.tuple is,.tuple ps,.tuple ts])),some (.d (.tuple fs)),some (.d (.tuple is)),some (.d (.tuple ps)),some (.d (.tuple ts)),some (.d (.int (n0:Nat))),some (.c (h.length+2)),y7,some (.d gdI.dat),some (.d (.tuple (is++[gdI.dat,gdI.dat,myI.dat]))),y,none,none,none,none,none]/\H=h++[c0,c1,.l F]) ?_ ?_
 ·refine aC4 ((PL,none),h++[c0,c1,.l F]) (by simp [aQ,szl,hPL]) ?_;dsimp only;refine eJ (fun (k:Nat) (δ:DSt) (H:aA)=>∃ F' y,(∀ x∈F',noA x)/\F'.length=F.length+k/\δ=[some (.d (.tuple [.tuple fs,.tuple is,.tuple ps,.tuple ts])),some (.d (.tuple fs)),some (.d (.tuple is)),some (.d (.tuple ps)),some (.d (.tuple ts)),some (.d (.int (n0:Nat))),some (.c (h.length+2)),y7,some (.d gdI.dat),some (.d (.tuple (is++[gdI.dat,gdI.dat,myI.dat]))),y,none,none,none,none,none]/\H=h++[c0,c1,.l F']) (rest:=PL) ⟨F,none,hF,rfl,rfl,rfl⟩ (fun δ h' ⟨F,y,z1,z2,z3,z4⟩=>⟨F,y,z1,by omega,by omega,z3,z4⟩) ?_;rintro k hk δ H ⟨F',y,hF',hL',rfl,rfl⟩;have hz:=hP _ (List.getElem_mem hk);generalize PL[k]=z at *;refine ⟨[some (.d (.tuple [.tuple fs,.tuple is,.tuple ps,.tuple ts])),some (.d (.tuple fs)),some (.d (.tuple is)),some (.d (.tuple ps)),some (.d (.tuple ts)),some (.d (.int (n0:Nat))),some (.c (h.length+2)),y7,some (.d gdI.dat),some (.d (.tuple (is++[gdI.dat,gdI.dat,myI.dat]))),some (.d z),none,none,none,none,none],h++[c0,c1,.l F'],by simp,[some (.d (.tuple [.tuple fs,.tuple is,.tuple ps,.tuple ts])),some (.d (.tuple fs)),some (.d (.tuple is)),some (.d (.tuple ps)),some (.d (.tuple ts)),some (.d (.int (n0:Nat))),some (.c (h.length+2)),y7,some (.d gdI.dat),some (.d (.tuple (is++[gdI.dat,gdI.dat,myI.dat]))),some (.d z),none,none,none,none,none],h++[c0,c1,.l (F'++[.tuple [.tuple fs,.tuple (is++[gdI.dat,gdI.dat,myI.dat]),.tuple (ps++[z]),.tuple ts]])],?_,_,_,yW hF' hz,by simp [hL'];omega,rfl,rfl⟩;have fl:F'.length < 16777216:=by omega
  simp [mp2,g2,s2,szl,lps,fl]
 clear hF hL hL1 hPL hP lPL;rintro _ _ ⟨F,y10,hF,hL,hL1,rfl,rfl⟩;dsimp only;refine hV (Q:=Bd h) [some (.d (.tuple [.tuple fs,.tuple is,.tuple ps,.tuple ts])),some (.d (.tuple fs)),some (.d (.tuple is)),some (.d (.tuple ps)),some (.d (.tuple ts)),some (.d (.int (n0:Nat))),some (.c (h.length+2)),y7,some (.d gdI.dat),some (.d (.tuple (is++[gdI.dat,gdI.dat,myI.dat]))),y10,some (.d (.int (n0:Nat))),some (.d (.int ((n0:Int)+1))),some (.d (.int ((n0:Int)+2))),none,none] (h++[c0,c1,.l F]) (by simp) ?_;dsimp only;obtain ⟨SL,hSL⟩:∃ SL,SL=[PyData.tuple [.int (n0:Nat),.int ((n0:Int)+1),.int ((n0:Int)+1)],.tuple [.int (n0:Nat),.int ((n0:Int)+1),.int (n0:Nat)],.tuple [.int (n0:Nat),.int (n0:Nat),.int ((n0:Int)+2)],.tuple [.int (n0:Nat),.int ((n0:Int)+2),.int ((n0:Int)+1)],.tuple [.int ((n0:Int)+2),.int (n0:Nat),.int ((n0:Int)+1)],.tuple [.int (n0:Nat),.int ((n0:Int)+1),.int ((n0:Int)+2+1)],.tuple [.int (n0:Nat),.int ((n0:Int)+1),.int (-1)],.tuple [.int (n0:Nat),.int ((n0:Int)+1),.bool true]]:=⟨_,rfl⟩;refine hV (Q:=Bd h) [some (.d (.tuple [.tuple fs,.tuple is,.tuple ps,.tuple ts])),some (.d (.tuple fs)),some (.d (.tuple is)),some (.d (.tuple ps)),some (.d (.tuple ts)),some (.d (.int (n0:Nat))),some (.c (h.length+2)),y7,some (.d gdI.dat),some (.d (.tuple (is++[gdI.dat,gdI.dat,myI.dat]))),y10,some (.d (.int (n0:Nat))),some (.d (.int ((n0:Int)+1))),some (.d (.int ((n0:Int)+2))),some (.d (.list SL)),none] (h++[c0,c1,.l F]) (by simp [aQ,szl,hSL]) ?_;dsimp only;obtain ⟨TL,hTL⟩:∃ TL,TL=[PyData.tuple [.int (n0:Nat),.int ((n0:Int)+1),.int ((n0:Int)+1)],.tuple [.int (n0:Nat),.int ((n0:Int)+1),.int (n0:Nat)],.tuple [.int (n0:Nat),.int (n0:Nat),.int ((n0:Int)+2)],.tuple [.int (n0:Nat),.int ((n0:Int)+2),.int ((n0:Int)+1)],.tuple [.int ((n0:Int)+2),.int (n0:Nat),.int ((n0:Int)+1)],.tuple [.int (n0:Nat),.int ((n0:Int)+1),.int ((n0:Int)+2+1)],.tuple [.int (n0:Nat),.int ((n0:Int)+1),.int (-1)],.tuple [.int (n0:Nat),.int ((n0:Int)+1),.bool true],.tuple [.int (n0:Nat),.int ((n0:Int)+1)],.list [.int (n0:Nat),.int ((n0:Int)+1),.int ((n0:Int)+2)]]:=⟨_,rfl⟩;have hT:∀ z∈TL,noA (.tuple [.tuple fs,.tuple (is++[gdI.dat,gdI.dat,myI.dat]),.tuple ps,.tuple (ts++[z])]):=fun z hz=>by
  subst hTL;simp only [List.mem_cons,List.not_mem_nil,or_false] at hz;rcases hz with rfl | rfl | rfl | rfl | rfl | rfl | rfl | rfl | rfl | rfl
  ·exact kQ _ fun d h=>bA2 (d+6) h _ _ _ _ (by omega)
  ·exact kQ _ fun d h=>bA2 (d+6) h _ _ _ _ (by omega)
  ·exact kQ _ fun d h=>bA2 (d+6) h _ _ _ _ (by omega)
  ·exact kM1
  ·exact kM2
  ·exact kQ _ fun d h=>bA2 (d+6) h _ _ _ _ (by omega)
  ·exact kQ _ fun d h=>bA2 (d+6) h _ _ _ _ (by omega)
  ·exact kQ _ fun d h=>cO1 (d+6) h rfl (by simp [bP])
  ·exact kQ _ fun d h=>bA1 (d+6) h rfl
  ·exact kQ _ fun d h=>bA1 (d+6) h rfl
 have lTL:TL.length=10:=by rw [hTL];rfl
 have lSL:SL.length=8:=by rw [hSL];rfl
 have eTL:SL++[.tuple [.int (n0:Nat),.int ((n0:Int)+1)],.list [.int (n0:Nat),.int ((n0:Int)+1),.int ((n0:Int)+2)]]=TL:=by rw [hSL,hTL];rfl
 clear hSL;refine bA5 (Q:=Bd h) (fun δ H=>∃ F y,(∀ x∈F,noA x)/\F.length<=57/\1<=F.length/\δ=[some (.d (.tuple [.tuple fs,.tuple is,.tuple ps,.tuple ts])),some (.d (.tuple fs)),some (.d (.tuple is)),some (.d (.tuple ps)),some (.d (.tuple ts)),some (.d (.int (n0:Nat))),some (.c (h.length+2)),y7,some (.d gdI.dat),some (.d (.tuple (is++[gdI.dat,gdI.dat,myI.dat]))),y10,some (.d (.int (n0:Nat))),some (.d (.int ((n0:Int)+1))),some (.d (.int ((n0:Int)+2))),some (.d (.list SL)),y]/\H=h++[c0,c1,.l F]) ?_ ?_
 ·refine aC4 ((TL,none),h++[c0,c1,.l F]) (by simp [aQ,szl,lSL,eTL]) ?_;dsimp only;refine eJ (fun (k:Nat) (δ:DSt) (H:aA)=>∃ F' y,(∀ x∈F',noA x)/\F'.length=F.length+k/\δ=[some (.d (.tuple [.tuple fs,.tuple is,.tuple ps,.tuple ts])),some (.d (.tuple fs)),some (.d (.tuple is)),some (.d (.tuple ps)),some (.d (.tuple ts)),some (.d (.int (n0:Nat))),some (.c (h.length+2)),y7,some (.d gdI.dat),some (.d (.tuple (is++[gdI.dat,gdI.dat,myI.dat]))),y10,some (.d (.int (n0:Nat))),some (.d (.int ((n0:Int)+1))),some (.d (.int ((n0:Int)+2))),some (.d (.list SL)),y]/\H=h++[c0,c1,.l F']) (rest:=TL) ⟨F,none,hF,rfl,rfl,rfl⟩ (fun δ h' ⟨F,y,z1,z2,z3,z4⟩=>⟨F,y,z1,by omega,by omega,z3,z4⟩) ?_;rintro k hk δ H ⟨F',y,hF',hL',rfl,rfl⟩;have hz:=hT _ (List.getElem_mem hk);generalize TL[k]=z at *;refine ⟨[some (.d (.tuple [.tuple fs,.tuple is,.tuple ps,.tuple ts])),some (.d (.tuple fs)),some (.d (.tuple is)),some (.d (.tuple ps)),some (.d (.tuple ts)),some (.d (.int (n0:Nat))),some (.c (h.length+2)),y7,some (.d gdI.dat),some (.d (.tuple (is++[gdI.dat,gdI.dat,myI.dat]))),y10,some (.d (.int (n0:Nat))),some (.d (.int ((n0:Int)+1))),some (.d (.int ((n0:Int)+2))),some (.d (.list SL)),some (.d z)],h++[c0,c1,.l F'],by simp,[some (.d (.tuple [.tuple fs,.tuple is,.tuple ps,.tuple ts])),some (.d (.tuple fs)),some (.d (.tuple is)),some (.d (.tuple ps)),some (.d (.tuple ts)),some (.d (.int (n0:Nat))),some (.c (h.length+2)),y7,some (.d gdI.dat),some (.d (.tuple (is++[gdI.dat,gdI.dat,myI.dat]))),y10,some (.d (.int (n0:Nat))),some (.d (.int ((n0:Int)+1))),some (.d (.int ((n0:Int)+2))),some (.d (.list SL)),some (.d z)],h++[c0,c1,.l (F'++[.tuple [.tuple fs,.tuple (is++[gdI.dat,gdI.dat,myI.dat]),.tuple ps,.tuple (ts++[z])]])],?_,_,_,yW hF' hz,by simp [hL'];omega,rfl,rfl⟩;have fl:F'.length < 16777216:=by omega
  simp [mp2,g2,s2,szl,lts,fl]
 clear hF hL hL1 hTL hT lTL;rintro _ _ ⟨F,y15,hF,hL,hL1,rfl,rfl⟩;dsimp only;refine ⟨F++[.tuple [.tuple fs,.tuple is,.list ps,.tuple ts],.tuple [.tuple fs,.tuple is,.tuple ps,.list ts]],fun x hx=>?_,by simp,by simp;omega,?_⟩
 ·rcases List.mem_append.mp hx with q | q
  ·exact hF x q
  ·simp only [List.mem_cons,List.not_mem_nil,or_false] at q;rcases q with rfl | rfl
   ·exact k11
   ·exact k12
 ·have fl:F.length+2<=16777216:=by omega
  simp [aQ,ref,szl,r2,dU,bJ9,fl,g2]
def dE6 (ws:List W):Prop:=∃ (x:PyData) (i:Int),ws=[.d x,.d (.int i)]/\noA x/\0<=i/\i<=2
open Classical in
noncomputable def wR:XF:=fun ws h=>if dE6 ws then some (.bool true,h) else none
noncomputable def fnL (d:Nat):Str->Option XF:=fun y=>if y="_law_refused" then some wR else (T.defs y).map fun _=>aD T d y
noncomputable def top (k:Nat):Stmt:=PySem.Challenge.pw_storejudge_k13_what_is_a_problem.main.body.getD k (.Pass ⟨0,0,0,0⟩)
abbrev cO5:Stmt:=top 73
noncomputable def rV (d:Nat):XF:=lU T (fnL d) (obT T (fun y=>callW T d y) (fun y=>callI T d y) fun y=>callM T d y) "law" cO5
noncomputable def YL (d:Nat):List W->XR W:=fun ws _ h=>(wR ws h).bind fun p=>some (.d p.1,p.2)
@[simp] theorem dU1 (d:Nat):YL d=fun ws _ h=>(wR ws h).bind fun p=>some (.d p.1,p.2):=rfl
noncomputable def cO6 (d:Nat) (w0:W) (h:aA):rV d [w0] h =
 YP
 (YP (aW 1 (xb (Y2 (xb (Y2 (aB 0) (YJ 0)) (YF d "_law_cell_at")) (YJ 8)) (YF d "_law_problem")) [some w0,none,none,none,none,none,none,none,none] h) (YQ fun δ' p =>
 YP
 (YP (xC1 CmpOp.IsNot (xb (Y1 (aB 1)) (YF d "is_problem")) (aE (W.d (PyData.bool true))) δ' p.2) (YT2 false δ'))
 (YQ fun δ' p =>
 YP (aW 2 (xb (Y1 (aB 1)) (YF d "_law_bad")) δ' p.2) (YQ fun δ' p =>
 YP
 (YP (cJ (aB 2) δ' p.2) fun (p:(List PyData×Option Nat)×aA) =>
 cW (YG 3)
 (fun (x:DSt) (x_1:aA) =>
 YP
 (YP (xC1 CmpOp.IsNot (xb (Y1 (aB 3)) (YF d "is_problem")) (aE (W.d (PyData.bool false))) x x_1) (YT2 false x))
 YE)
 (Prod.snd p.1) (Prod.fst p.1) (Prod.fst p.1) δ' p.2)
 (YQ fun δ' p =>
 YP (aW 4 (xb (xPl (Y3 (xb (xPl (Y2 (YS "read") (YJ 0))) YT) (YZ) (YS "must"))) YT) δ' p.2) (YQ fun δ' p =>
 YP (aW 5 (xb (xb (xPl (Y1 (xb (xPl (Y2 (YJ 0) (YJ 1))) YT))) YT) (YB .Mult 4000)) δ' p.2) (YQ fun δ' p =>
 YP (aW 6 (xb (xb (xPl (Y1 (xb (xPl (Y3 (YJ 0) (YJ 1) (YJ 2))) YT))) YT) (YB .Mult 4000)) δ' p.2) (YQ fun δ' p =>
 YP
 (YP
 (xb
 (xb
 (xb (xb (Y1 (xb (xPl (Y4 (aE (W.d (PyData.tuple (List.reverse [PyData.int 0,PyData.int 0,PyData.int 0,PyData.int 0,PyData.int 0,PyData.int 0,PyData.int 0,PyData.int 0])))) (xb (xb (xPl (Y1 (aB 4))) YT) (YB .Mult 120)) (aB 5) (aB 6))) YT)) (YF d "is_problem")) YD)
 fun (b:Bool)=>aE !b)
 (fun c =>
 if c=true then aE true
 else
 xb (xb (Y1 (xb (xPl (Y4 (aE (W.d (PyData.tuple (List.reverse [PyData.int 0,PyData.int 0,PyData.int 0,PyData.int 0,PyData.int 0,PyData.int 0,PyData.int 0,PyData.int 0])))) (xb (xb (xPl (Y1 (aB 4))) YT) (YB .Mult 121)) (xb (xPl (aE [])) YT) (xb (xPl (aE [])) YT))) YT)) (YF d "is_problem")) YD)
 δ' p.2)
 (YT2 false δ'))
 (YQ fun δ' p =>
 YP (aW 7 (xb (xPl (Y3 (aB 4) (aB 4) (aB 4))) YT) δ' p.2) (YQ fun δ' p =>
 YP
 (YP
 (xb
 (xb (xb (Y1 (xb (xPl (Y4 (aE (W.d (PyData.tuple (List.reverse [PyData.int 0,PyData.int 0,PyData.int 0,PyData.int 0,PyData.int 0,PyData.int 0,PyData.int 0,PyData.int 0])))) (aB 7) (xb (aB 5) fun u=>xb (xb (xPl (Y1 (xb (xPl (Y2 (YJ 1) (YJ 2))) YT))) YT) (YO .Add u)) (xb (xPl (aE [])) YT))) YT)) (YF d "is_problem")) YD)
 (fun c =>
 if c=true then aE true
 else
 xb
 (xb
 (Y1 (xb
 (xPl
 (Y4 (aE (W.d (PyData.tuple (List.reverse [PyData.int 0,PyData.int 0,PyData.int 0,PyData.int 0,PyData.int 0,PyData.int 0,PyData.int 0,PyData.int 0])))) (aB 7) (xb (xPl (aE [])) YT) (xb (aB 6) fun (u:W) =>
 xb
 (xb (aB 6) fun (x:W) =>
 xb (aE none) fun (l:Option Int) =>
 xb
 (xb (YJ 1) YU)
 (YS3 x l))
 (YO .Add u))))
 YT))
 (YF d "is_problem"))
 YD)
 δ' p.2)
 (YT2 false δ'))
 (YQ fun δ' p =>
 YP
 (YP
 (xb (YJ 6)
 (YR)
 δ' p.2)
 fun (p:(List PyData×Option Nat)×aA) =>
 cW (YG 8)
 (fun (x:DSt) (x_1:aA) =>
 YP
 (YP
 (xb
 (xb (xb (Y2 (xb (aB 2) fun x=>xb (xb (xb (Y2 (aB 0) (xb (YJ 1) fun u=>xb (aB 8) (YO .Add u))) (YF d "_law_cell_at")) fun u=>xb (xb (Y1 (aB 2)) (YK cA)) (YO .Mod u)) (YX x)) (xb (aB 8) (YB .Mod 3))) (YL d)) YD)
 (fun (b:Bool)=>aE !b) x x_1)
 (YT2 false x))
 YE)
 (Prod.snd p.1) (Prod.fst p.1) (Prod.fst p.1) δ' p.2)
 (YQ fun δ' p =>
 YP (YP (cI (xC1 CmpOp.Is (xb (Y1 (aB 1)) (YF d "is_problem")) (aE (W.d (PyData.bool true)))) δ' p.2) YW) YE))))))))))))
 (ends h):=by kernel_rfl
noncomputable def cO7 {x:PyData} {i:Int} (hx:noA x) (h0:0<=i) (h2:i<=2) (h:aA):wR [.d x,.d (.int i)] h=some (.bool true,h):=if_pos ⟨x,i,rfl,hx,h0,h2⟩
def Tr (r:Option (PyData×aA)):Prop:=∃ h',r=some (.bool true,h')
noncomputable def aC5 (x:PyData) (k:Nat) (h2:2<=k) (hk:k<=16777216) (h:aA):dU .Mult (.d (.tuple [x])) (.d (.int k)) h=some (.d (.tuple (List.replicate k x)),h):=by
 rw [aI1,if_neg (by omega),if_pos ⟨by simp,by omega,by omega,by simp [sizeLine_eq];omega⟩];have:(List.replicate (k:Int).toNat [x]).flatten=List.replicate k x:=by
  rw [Int.toNat_natCast];induction k with
  | zero=>rfl
  | succ n ih=>simp [List.replicate_succ]
 rw [this]
noncomputable def bO9 (d:Nat) (h:aA) (xs:List PyData) (hl:120 < xs.length):aD T (d+11) "are_items" [.d (.tuple xs)] h=some (.bool false,h):=by
 have:¬ ((xs.length:Int)<=120):=by omega
 simp [fS,isi,eU,this]
noncomputable def bP0 (d:Nat) (h:aA) (xs:List PyData) (n:Int) (hl:4000 < xs.length):aD T (d+11) "are_pairs" [.d (.tuple xs),.d (.int n)] h=some (.bool false,h):=by
 have:(4000:Int) < xs.length:=by omega
 simp [fT,isi,eU,this]
noncomputable def bP1 (d:Nat) (h:aA) (xs:List PyData) (i:PyData) (hl:4000 < xs.length):aD T (d+11) "are_triples" [.d (.tuple xs),.d i] h=some (.bool false,h):=by
 have:(4000:Int) < xs.length:=by omega
 simp [dA,isi,eU,this]
noncomputable def st8 (d:Nat) (h:aA):aD T (d+11) "is_stand" [.d (.tuple (z8.map .int))] h=some (.bool true,h):=bW (d+8) h rfl
noncomputable def wS (d:Nat) (h:aA):aD T (d+11) "are_items" [.d (.tuple [gdI.dat,gdI.dat,gdI.dat])] h=some (.bool true,h):=dM d h (xs:=[gdI,gdI,gdI]) (fun x hx=>by
 simp only [List.mem_cons,List.not_mem_nil,or_false] at hx;rcases hx with rfl | rfl | rfl<;>exact aC2) (by decide)
noncomputable def dU2 (d:Nat) (h:aA) (xs:List PyData) (p a:PyData) (hl:120 < xs.length):aD T (d+12) "is_problem" [.d (.tuple [.tuple (z8.map .int),.tuple xs,p,a])] h=some (.bool false,h) :=
 pZ d h (fun h=>st8 d h) false false false (fun h=>bO9 d h xs hl) (fun z=>nomatch z) (fun z=>nomatch z) rfl
noncomputable def dU3 (d:Nat) (h:aA) (ps:List PyData) (a:PyData) (hl:4000 < ps.length):aD T (d+12) "is_problem" [.d (.tuple [.tuple (z8.map .int),.tuple [gdI.dat,gdI.dat,gdI.dat],.tuple ps,a])] h=some (.bool false,h) :=
 pZ d h (fun h=>st8 d h) true false false (fun h=>wS d h) (fun _ h=>⟨3,rfl,bP0 d h ps 3 hl⟩) (fun _ z=>nomatch z) rfl
noncomputable def dU4 (d:Nat) (h:aA) (ts:List PyData) (hl:4000 < ts.length):aD T (d+12) "is_problem" [.d (.tuple [.tuple (z8.map .int),.tuple [gdI.dat,gdI.dat,gdI.dat],.tuple [],.tuple ts])] h=some (.bool false,h) :=
 pZ d h (fun h=>st8 d h) true true false (fun h=>wS d h) (fun _ h=>⟨3,rfl,dN (d+6) h (ps:=[]) (n:=3) (by decide) (fun p hp=>nomatch hp)⟩) (fun _ _ h=>bP1 d h ts _ hl) rfl
noncomputable def cO8 (d:Nat) (h:aA) (ns:List Int) (k:Nat):aD T (d+1) "_law_cell_at" [.d (.list (ns.map .int)),.d (.int k)] h=some (.int (ns.getD k 0),h):=by
 by_cases hk:k < ns.length
 ·have e:atI (ns.map PyData.int) (k:Int)=some (.int (ns.getD k 0)):=fQ (by simp [hk]);simp [iM,hk,e]
 ·have e:ns.getD k 0=0:=by simp [List.getD,List.getElem?_eq_none (Nat.le_of_not_lt hk)]
  simp [iM,hk,e]
noncomputable def dE7:xIs (.d (.bool true)) (.d (.bool true))=some true:=rfl
noncomputable def dU5:xIs (.d (.bool false)) (.d (.bool false))=some true:=rfl
noncomputable def cO9 (ns:List Int) (d:Nat):Tr (rV (d+12) [.d (.list (ns.map .int))] []):=by
 have g1:∀ (k:Nat) h,aD T (d+12) "_law_cell_at" [.d (.list (ns.map .int)),.d (.int k)] h=some (.int (ns.getD k 0),h):=fun k h=>cO8 (d+11) h ns k;have g1a:∀ h,aD T (d+12) "_law_cell_at" [.d (.list (ns.map .int)),.d (.int 0)] h=some (.int (ns.getD 0 0),h):=g1 0;have g2:∀ c h,aD T (d+12) "_law_problem" [.d (.int c),.d (.int 8)] h=some ((pbF c 8).dat,h):=fun c h=>aK6 (d+5) h c (m:=8) (by decide);have hok:=cN6 (ns.getD 0 0) (m:=8) (by decide);have hil:(pbF (ns.getD 0 0) 8).its.length<=8:=by
  show (pI (ns.getD 0 0) 8).length<=8;rw [yV];exact aZ6 _ _
 have g3:∀ h,aD T (d+12) "is_problem" [.d (pbF (ns.getD 0 0) 8).dat] h=some (.bool true,h):=fun h=>tU d h hok;have g4:∀ h,Bd h (aD T (d+12) "_law_bad" [.d (pbF (ns.getD 0 0) 8).dat] h):=fun h=>dE5 (d+10) h hok (by omega);have g2':=g2 (ns.getD 0 0);have g5:∀ x,noA x->∀ h,aD T (d+12) "is_problem" [.d x] h=some (.bool false,h):=fun x hx h=>hx d h;have b0:∀ h,aD T (d+12) "is_problem" [.d (.tuple [.tuple (z8.map .int),.tuple (List.replicate 120 gdI.dat),.tuple (List.replicate 4000 (p2 (0,1))),.tuple (List.replicate 4000 (p3 (0,1,2)))])] h=some (.bool true,h):=fun h=>dD7 d h (n:=120) (m:=4000) (k:=4000) (by decide) (by decide) (by decide) (by decide);have b1:∀ h,aD T (d+12) "is_problem" [.d (.tuple [.tuple (z8.map .int),.tuple (List.replicate 121 gdI.dat),.tuple [],.tuple []])] h=some (.bool false,h):=fun h=>dU2 d h _ _ _ (by rw [List.length_replicate];decide);have b2:∀ h,aD T (d+12) "is_problem" [.d (.tuple [.tuple (z8.map .int),.tuple [gdI.dat,gdI.dat,gdI.dat],.tuple (List.replicate 4000 (p2 (0,1))++[p2 (1,2)]),.tuple []])] h=some (.bool false,h):=fun h=>dU3 d h _ _ (by rw [List.length_append,List.length_replicate];decide);have b3:∀ h,aD T (d+12) "is_problem" [.d (.tuple [.tuple (z8.map .int),.tuple [gdI.dat,gdI.dat,gdI.dat],.tuple [],.tuple (List.replicate 4000 (p3 (0,1,2))++[p3 (0,1,2)])])] h=some (.bool false,h):=fun h=>dU4 d h _ (by rw [List.length_append,List.length_replicate];decide);rw [cO6];simp only [dA4,dA5,dA3,dA6,dB5,dA7,dB3,dB4,aI7,bM5,dT2,dB9,dC1,dB6,dB1,bV5,dC2,dC3,dC4,dC5,dC6,dC7,dC8,dB7,dA8,dA9,dB0,dB2,dC0,bV4,dB8,dU1];generalize aD T (d+12)=fn at *;generalize ns.getD 0 0=q0 at *;generalize (pbF q0 8).dat=B at *;clear g2;generalize hZ:PyData.tuple (z8.map .int)=Z at *;have eZ:PyData.tuple (List.reverse [PyData.int 0,PyData.int 0,PyData.int 0,PyData.int 0,PyData.int 0,PyData.int 0,PyData.int 0,PyData.int 0])=Z:=by rw [<- hZ];rfl
 rw [eZ] at *;clear hok hil hZ eZ;have gD:gdI.dat=.tuple [.tuple [.str (Str.ofString "read"),.int 0],.none,.str (Str.ofString "must")]:=rfl;obtain ⟨F,hF,hF1,hF2,eF⟩:=g4 [];refine hV (Q:=Tr) [some (.d (.list (ns.map .int))),some (.d B),none,none,none,none,none,none,none] [] (by simp [g1a,g2']) ?_;dsimp only;refine hV (Q:=Tr) [some (.d (.list (ns.map .int))),some (.d B),none,none,none,none,none,none,none] [] (by simp [g3,dE7]) ?_;dsimp only;refine hV (Q:=Tr) [some (.d (.list (ns.map .int))),some (.d B),some (.d (.list F)),none,none,none,none,none,none] [] (by simp [eF]) ?_;dsimp only;refine bA5 (Q:=Tr) (fun δ H=>∃ y,δ=[some (.d (.list (ns.map .int))),some (.d B),some (.d (.list F)),y,none,none,none,none,none]/\H=[]) ?_ ?_
 ·simp only [aW1,bL6,List.getElem?_cons_zero,List.getElem?_cons_succ,bs];refine rK (fun δ H=>∃ y,δ=[some (.d (.list (ns.map .int))),some (.d B),some (.d (.list F)),y,none,none,none,none,none]/\H=[]) _ ?_ _ _ ⟨_,rfl,rfl⟩;rintro x hx δ H ⟨y,rfl,rfl⟩;refine ⟨[some (.d (.list (ns.map .int))),some (.d B),some (.d (.list F)),some (.d x),none,none,none,none,none],[],by simp,[some (.d (.list (ns.map .int))),some (.d B),some (.d (.list F)),some (.d x),none,none,none,none,none],[],by simp [g5 x (hF x hx),dU5],_,rfl,rfl⟩
 rintro _ _ ⟨y3,rfl,rfl⟩;dsimp only;refine hV (Q:=Tr) [some (.d (.list (ns.map .int))),some (.d B),some (.d (.list F)),y3,some (.d gdI.dat),none,none,none,none] [] (by simp [szl,gD]) ?_;dsimp only;clear gD;generalize gdI.dat=gd at *;have m1:∀ h,dU .Mult (.d (.tuple [p2 (0,1)])) (.d (.int 4000)) h=some (.d (.tuple (List.replicate 4000 (p2 (0,1)))),h):=fun h=>aC5 _ 4000 (by decide) (by decide) h;have m2:∀ h,dU .Mult (.d (.tuple [p3 (0,1,2)])) (.d (.int 4000)) h=some (.d (.tuple (List.replicate 4000 (p3 (0,1,2)))),h):=fun h=>aC5 _ 4000 (by decide) (by decide) h;have m3:∀ h,dU .Mult (.d (.tuple [gd])) (.d (.int 120)) h=some (.d (.tuple (List.replicate 120 gd)),h):=fun h=>aC5 _ 120 (by decide) (by decide) h;have m4:∀ h,dU .Mult (.d (.tuple [gd])) (.d (.int 121)) h=some (.d (.tuple (List.replicate 121 gd)),h):=fun h=>aC5 _ 121 (by decide) (by decide) h;have q2:p2 (0,1)=.tuple [.int 0,.int 1]:=rfl;have q3:p3 (0,1,2)=.tuple [.int 0,.int 1,.int 2]:=rfl;have q12:p2 (1,2)=.tuple [.int 1,.int 2]:=rfl;have cS:cut (List.replicate 4000 (p3 (0,1,2))) none (some 1)=[p3 (0,1,2)]:=by
  rw [show ((1:Int))=((1:Nat):Int) from rfl,yN _ (by rw [List.length_replicate];decide)];rfl
 have lp:(List.replicate 4000 (p2 (0,1))).length=4000:=List.length_replicate;have lt:(List.replicate 4000 (p3 (0,1,2))).length=4000:=List.length_replicate;generalize List.replicate 4000 (p2 (0,1))=PP at *;generalize List.replicate 4000 (p3 (0,1,2))=TT at *;generalize List.replicate 120 gd=A120 at *;generalize List.replicate 121 gd=A121 at *;simp only [q2] at m1;simp only [q3] at m2 cS b3;simp only [q12] at b2;refine hV (Q:=Tr) [some (.d (.list (ns.map .int))),some (.d B),some (.d (.list F)),y3,some (.d gd),some (.d (.tuple PP)),none,none,none] [] (by simp [szl,m1]) ?_;dsimp only;refine hV (Q:=Tr) [some (.d (.list (ns.map .int))),some (.d B),some (.d (.list F)),y3,some (.d gd),some (.d (.tuple PP)),some (.d (.tuple TT)),none,none] [] (by simp [szl,m2]) ?_;dsimp only;refine hV (Q:=Tr) [some (.d (.list (ns.map .int))),some (.d B),some (.d (.list F)),y3,some (.d gd),some (.d (.tuple PP)),some (.d (.tuple TT)),none,none] [] (by simp [szl,m3,m4,b0,b1]) ?_;dsimp only;refine hV (Q:=Tr) [some (.d (.list (ns.map .int))),some (.d B),some (.d (.list F)),y3,some (.d gd),some (.d (.tuple PP)),some (.d (.tuple TT)),some (.d (.tuple [gd,gd,gd])),none] [] (by simp [szl]) ?_;dsimp only;refine hV (Q:=Tr) [some (.d (.list (ns.map .int))),some (.d B),some (.d (.list F)),y3,some (.d gd),some (.d (.tuple PP)),some (.d (.tuple TT)),some (.d (.tuple [gd,gd,gd])),none] [] (by simp [szl,cS,lp,lt,b2,b3]) ?_;dsimp only;have r6:iW 0 (6:Int)=true:=by decide
 refine bA5 (Q:=Tr) (fun δ H=>∃ y,δ=[some (.d (.list (ns.map .int))),some (.d B),some (.d (.list F)),y3,some (.d gd),some (.d (.tuple PP)),some (.d (.tuple TT)),some (.d (.tuple [gd,gd,gd])),y]/\H=[]) ?_ ?_
 ·simp only [bV2,kA,bs,r6,if_true];refine rK (fun δ H=>∃ y,δ=[some (.d (.list (ns.map .int))),some (.d B),some (.d (.list F)),y3,some (.d gd),some (.d (.tuple PP)),some (.d (.tuple TT)),some (.d (.tuple [gd,gd,gd])),y]/\H=[]) _ ?_ _ _ ⟨_,rfl,rfl⟩;rintro x hx δ H ⟨y,rfl,rfl⟩;obtain ⟨k,hk,rfl⟩:=bL8 hx;have e3:aX 3=true:=by decide
  have eL:aX (F.length:Int)=true:=by unfold aX;simp;omega
  have gk:=fun h=>g1 (1+k) h;generalize ns.getD (1+k) 0=c at gk;have h0:0<=c%(F.length:Int):=Int.emod_nonneg _ (by omega);have h1:c%(F.length:Int) < F.length:=Int.emod_lt_of_pos _ (by omega);obtain ⟨m,hm⟩:∃ m:Nat,c%(F.length:Int)=m:=⟨(c%(F.length:Int)).toNat,by omega⟩;have hm2:m < F.length:=by omega
  have eA:∀ h,xIx (.d (.list F)) (.d (.int (m:Int))) h=some (.d F[m],h):=fun h=>by
   show (atI F (m:Int)).map _=_;rw [fQ (List.getElem?_eq_getElem hm2)];rfl
  have hr:=cO7 (hF _ (List.getElem_mem hm2)) (i:=(0+(k:Int))%3) (by omega) (by omega);generalize F[m]=z at *;have gk':∀ h,fn (Str.ofString "_law_cell_at") [.d (.list (ns.map .int)),.d (.int (1+(0+(k:Int))))] h=some (.int c,h):=fun h=>by
   have:=gk h;rw [show (((1+k:Nat)):Int)=1+(0+(k:Int)) by omega] at this;exact this
  refine ⟨[some (.d (.list (ns.map .int))),some (.d B),some (.d (.list F)),y3,some (.d gd),some (.d (.tuple PP)),some (.d (.tuple TT)),some (.d (.tuple [gd,gd,gd])),some (.d (.int (0+(k:Nat))))],[],by simp,[some (.d (.list (ns.map .int))),some (.d B),some (.d (.list F)),y3,some (.d gd),some (.d (.tuple PP)),some (.d (.tuple TT)),some (.d (.tuple [gd,gd,gd])),some (.d (.int (0+(k:Nat))))],[],?_,_,rfl,rfl⟩;have gk2:=gk';have hr2:=hr;have hF0:0 < F.length:=by omega
  simp only [Int.zero_add] at gk2 hr2;simp [gk',gk2,eL,hm,eA,e3,hr,hr2,hF0]
 rintro _ _ ⟨y8,rfl,rfl⟩;dsimp only;have ok0:∀ L:aA,okP [] L:=fun L i c hi=>absurd hi (Nat.not_lt_zero _);refine ⟨[],?_⟩;simp [g3,ok0,dE7,asW]
end K13
namespace DL
open PySem PySem.Spec PyProof.Rows L2
section
variable {X:Cx} {C:Addr} {E:XK} {Ex:Value->Shared->Prop} {e:Expr} {es:List Expr} {t:DTA} {x:Str} {p pos:Pos} {f:Addr} {fd:FuncData} {ps:List Str} {k kk:Nat} {pre:List W->Prop}
noncomputable def dU6 {v:V} (h:PE X e (tC v)):DE X e (fun δ h Q=>Q (.v v) h):=aI h fun σ H Q ⟨δ,h,A,μ,k,R,q,c⟩=>c _ h _ H A μ q .refl R.1 rfl
noncomputable def bW4:DE X (.Tuple [] kk pos) (fun δ h Q=>∀ p,Q (.v (.ref p)) h):=aI (aM0 nG) fun σ H Q ⟨δ,h,A,μ,k,R,q,c⟩=>⟨Nat.zero_le _,fun p hp=>c _ h _ _ A μ (q p) (bR hp) (R.1.fresh hp) rfl⟩
noncomputable def bA6 (F:FnOk X.prog X.w X.K X.mg X.base (CXC X.prog X.w C) k f fd ps (upX X.K C pre)) (hr:Room k X.A) (hm:X.mg x=some (.ref f)) (hk:PySem.W.keepIn X.K (.ref f)=true) (hb:Binds X.K fd ps []) (ha:DA (X.wish Ex) (e::es) t)
  {pins:List (Addr×Obj)} {s:Shared} {σ:L2.St} {H:Hp} (I:Inv X pins σ H s) (q:∃ (δ:DSt) (h:aA) (A μ:List Addr),Ab X.K A μ δ h σ H/\(t δ h fun ws h1=>h1=h/\pre ws)/\Wx X.K C E A μ h H)
  (hE:∀ H1 s1 ex s',Inv X pins σ H1 s1->CXC X.prog X.w C X.stack H1 s1 E ex s'->Ex ex s') (hg:autoParam (Gl X x) ZR) (hdb:autoParam ((x==("__debug__":Str))=false) ZD) (he:autoParam (starEach (e::es) X.env=(false,eval e X.env)::starEach es X.env) ZR) (hpl:autoParam ((backTo pos (starEach es X.env)).any (·.1)=false) ZR) :
  wpAny (model X.prog X.w) X.A (eval (.Call (.Name x p) (e::es) [] pos) X.env) (fun _ _=>False) Ex s:=by
 obtain ⟨δ,h,A,μ,R,q,W⟩:=q;refine lW (Ex:=Ex) (t:=upA X.K t) (E:=E) F hr hg hm hk hb ha I ⟨δ,h,A,μ,_,R,q,fun ws h1 vs H1 A1 μ1 ⟨e1,l⟩ x1 R1 r1=>?_⟩ hE hdb he hpl;subst e1;exact ⟨ws,_,A1,μ1,R1,r1,l,W.step R.1 x1⟩
noncomputable def yX {C ea:Addr} {oe:Obj} (hh:X.A.handled=some (.ref ea)) (hp:(ea,oe)∈X.pn) (hE:ErC (.ref C) oe):cU X (.builtin "any") (upC X.K (OfX cG9)):=by
 intro pins s σ H xs us Q I r h;obtain ⟨ws,h,A,μ,k,R,rw',⟨rr,h',e,q⟩,c⟩:=h;unfold cG9 at e;split at e
 ·rename_i w h0;obtain ⟨v,rfl,rv⟩:=dY rw';split at e
  ·rename_i ys ey;obtain ⟨bs,eb,e2⟩:=Option.map_eq_some_iff.mp e;cases e2;obtain ⟨p,vs,rfl,sq,rr⟩:=bZ R rv ey;have ev:=jE eb rr;subst ev;exact aI4 hh hp hE pins s σ H _ us Q I r ⟨p,bs,rfl,sq,c _ _ _ _ _ _ q .refl R bB⟩
  ·cases e
 ·cases e
end
end DL
namespace K13
open PySem PySem.Spec PyProof.Rows L2 DL CI
abbrev sC:Stmt:=top 53
abbrev sW:Stmt:=top 54
abbrev sM:Stmt:=top 55
abbrev sB:Stmt:=top 56
abbrev sRw:Stmt:=top 58
abbrev sR:Stmt:=top 70
noncomputable def eC:T.defs "check_problem"=some sC:=by kernel_rfl
noncomputable def eW:T.defs "ways_of"=some sW:=by kernel_rfl
noncomputable def eM:T.defs "may_come"=some sM:=by kernel_rfl
noncomputable def eB:T.defs "behind"=some sB:=by kernel_rfl
noncomputable def eF:T.defs "row_fault"=some sRw:=by kernel_rfl
noncomputable def eR:T.defs "_law_refused"=some sR:=by kernel_rfl
noncomputable def eI:∃ s,T.defs "is_problem"=some s:=⟨top 50,by kernel_rfl⟩
noncomputable def scC:FnScope ["problem"] ["problem"] (aF sC):=by
 have:=cY (s:=sC) (by kernel_rfl)
 rwa [show eD sC=(["problem"]:List Str) by kernel_rfl,show aO sC=(["problem"]:List Str) by kernel_rfl] at this
noncomputable def scW:FnScope ["problem"] ["problem"] (aF sW):=by
 have:=cY (s:=sW) (by kernel_rfl)
 rwa [show eD sW=(["problem"]:List Str) by kernel_rfl,show aO sW=(["problem"]:List Str) by kernel_rfl] at this
noncomputable def scM:FnScope ["problem","placed"] ["problem","placed"] (aF sM):=by
 have:=cY (s:=sM) (by kernel_rfl)
 rwa [show eD sM=(["problem","placed"]:List Str) by kernel_rfl,show aO sM=(["problem","placed"]:List Str) by kernel_rfl] at this
noncomputable def scB:FnScope ["problem","stand","item"] ["problem","stand","item"] (aF sB):=by
 have:=cY (s:=sB) (by kernel_rfl)
 rwa [show eD sB=(["problem","stand","item"]:List Str) by kernel_rfl,show aO sB=(["problem","stand","item"]:List Str) by kernel_rfl] at this
noncomputable def scF:FnScope ["problem","row","ways","placed","stand","place","x","missing"] ["problem","row"] (aF sRw):=by
 have:=cY (s:=sRw) (by kernel_rfl)
 rwa [show eD sRw=(["problem","row","ways","placed","stand","place","x","missing"]:List Str) by kernel_rfl,show aO sRw=(["problem","row"]:List Str) by kernel_rfl] at this
noncomputable def scR:FnScope ["_law_thing","_law_way","_law_found","e","_law_others"] ["_law_thing","_law_way"] (aF sR):=by
 have:=cY (s:=sR) (by kernel_rfl)
 rwa [show eD sR=(["_law_thing","_law_way","_law_found","e","_law_others"]:List Str) by kernel_rfl,show aO sR=(["_law_thing","_law_way"]:List Str) by kernel_rfl] at this
abbrev bmV:List Value:=[.type "ValueError",.type "Exception",.type "BaseException",.type "object"]
structure Er (K:Frag) (mg:Str->Option Value) (base:Heap) (C CJ cH cL cP cS cT:Addr):Prop where
 O:OwnCls "NoProblem" C bmV "ValueError.__new__" mg base
 Z:XCls K C
 mC:mg "NoProblem"=some (.ref C)
 hC:PySem.W.exmOne K (.ref C) (.ref C)=some true
 mH:mg "NoHistory"=some (.ref cH)
 mL:mg "NoLine"=some (.ref cL)
 mP:mg "NoPromise"=some (.ref cP)
 mS:mg "NoStore"=some (.ref cS)
 mT:mg "NoText"=some (.ref cT)
 mJ:mg "JudgeError"=some (.ref CJ)
 mV:mg "ValueError"=none
 kH:PySem.W.kitOne K (.ref C) (.ref cH)=some false
 kL:PySem.W.kitOne K (.ref C) (.ref cL)=some false
 kP:PySem.W.kitOne K (.ref C) (.ref cP)=some false
 kS:PySem.W.kitOne K (.ref C) (.ref cS)=some false
 kT:PySem.W.kitOne K (.ref C) (.ref cT)=some false
 kJ:PySem.W.kitOne K (.ref C) (.ref CJ)=some true
 kV:PySem.W.kitOne K (.ref C) (.type "ValueError")=some true
def aK9 (ws:List W):Prop:=∃ x,ws=[.d x]/\noA x
def bP2 (ws:List W):Prop:=∃ x y,ws=[.d x,y]/\noA x
def dE8 (ws:List W):Prop:=∃ x y z,ws=[.d x,y,z]/\noA x
section
variable {P:Program} {w:World} {K:Frag} {mg:Str->Option Value} {base:Heap} {C CJ cH cL cP cS cT:Addr} {d:Nat} {f fc:Addr} {fd fdc:FuncData}
noncomputable def bA7 (F:Fun K "check_problem" "check_problem" sC f fd) (X:Er K mg base C CJ cH cL cP cS cT) (D:DFn P w K mg base (d+12) "is_problem" (jY (aD T (d+12) "is_problem"))) :
  FnOk P w K mg base (CXC P w C) (d+12+1) f fd ["problem"] (upX K C aK9):=by
 refine aX3 F scC (fun ws ⟨_,e,_⟩=>by subst e;rfl) fun cdv A outer s H E hr ws h hw=>⟨_,dA1 (aN8 (aN7 (zI D hr (aY (dv 0) cK)))) (aI6 X.O PySem.F.excBase_ValueError fM (aY aN6 cK)),?_⟩;obtain ⟨x,rfl,hx⟩:=hw;have e1:=hx d h;simp [cT1,dB,aO3,nR,pL,sO,cM,jY,e1,DL.dC,szl];exact ⟨_,_,⟨rfl,rfl⟩,rfl,rfl⟩
noncomputable def bP3 (F:Fun K "ways_of" "ways_of" sW f fd) (Fc:Fun K "check_problem" "check_problem" sC fc fdc) (mc:mg "check_problem"=some (.ref fc)) (bc:Binds K fdc ["problem"] [])
  (N:FnOk P w K mg base (CXC P w C) (d+13) fc fdc ["problem"] (upX K C aK9)):FnOk P w K mg base (CXC P w C) (d+14) f fd ["problem"] (upX K C aK9):=by
 refine aX3 F scW (fun ws ⟨_,e,_⟩=>by subst e;rfl) fun cdv A outer s H E hr ws h hw=>⟨_,kC (aX2 N hr mc Fc.kp bc fM (aY (dv 0) cK)),?_⟩;obtain ⟨x,rfl,hx⟩:=hw;simp [nR,pL,sO,cM];exact ⟨x,rfl,hx⟩
noncomputable def cP0 (F:Fun K "may_come" "may_come" sM f fd) (Fc:Fun K "ways_of" "ways_of" sW fc fdc) (mc:mg "ways_of"=some (.ref fc)) (bc:Binds K fdc ["problem"] [])
  (N:FnOk P w K mg base (CXC P w C) (d+14) fc fdc ["problem"] (upX K C aK9)):FnOk P w K mg base (CXC P w C) (d+15) f fd ["problem","placed"] (upX K C bP2):=by
 refine aX3 F scM (fun ws ⟨_,_,e,_⟩=>by subst e;rfl) fun cdv A outer s H E hr ws h hw=>⟨_,kC (aA9 N hr mc Fc.kp bc fM (aY (dv 0) cK) rfl),?_⟩;obtain ⟨x,y,rfl,hx⟩:=hw;simp [nR,pL,sO,cM];exact ⟨x,rfl,hx⟩
noncomputable def cP1 (F:Fun K "behind" "behind" sB f fd) (Fc:Fun K "ways_of" "ways_of" sW fc fdc) (mc:mg "ways_of"=some (.ref fc)) (bc:Binds K fdc ["problem"] [])
  (N:FnOk P w K mg base (CXC P w C) (d+14) fc fdc ["problem"] (upX K C aK9)):FnOk P w K mg base (CXC P w C) (d+15) f fd ["problem","stand","item"] (upX K C dE8):=by
 refine aX3 F scB (fun ws ⟨_,_,_,e,_⟩=>by subst e;rfl) fun cdv A outer s H E hr ws h hw=>⟨_,kC (aA9 N hr mc Fc.kp bc fM (aY (dv 0) cK) rfl),?_⟩;obtain ⟨x,y,z,rfl,hx⟩:=hw;simp [nR,pL,sO,cM];exact ⟨x,rfl,hx⟩
noncomputable def cP2 (F:Fun K "row_fault" "row_fault" sRw f fd) (Fc:Fun K "ways_of" "ways_of" sW fc fdc) (mc:mg "ways_of"=some (.ref fc)) (bc:Binds K fdc ["problem"] [])
  (N:FnOk P w K mg base (CXC P w C) (d+14) fc fdc ["problem"] (upX K C aK9)):FnOk P w K mg base (CXC P w C) (d+15) f fd ["problem","row"] (upX K C bP2):=by
 refine aX3 F scF (fun ws ⟨_,_,e,_⟩=>by subst e;rfl) fun cdv A outer s H E hr ws h hw=>⟨_,kC (bM3 N hr mc Fc.kp bc fM (aY (dv 0) cK)),?_⟩;obtain ⟨x,y,rfl,hx⟩:=hw;simp [nR,pL,sO,cM];exact ⟨x,rfl,hx⟩
end
section
variable {P:Program} {w:World} {K:Frag} {mg:Str->Option Value} {base:Heap} {C CJ cH cL cP cS cT:Addr} {d:Nat} {f fm fb fr:Addr} {fd fdm fdb fdr:FuncData}
noncomputable def cP3 (F:Fun K "_law_refused" "_law_refused" sR f fd) (X:Er K mg base C CJ cH cL cP cS cT) (hm:mg "isinstance"=none) (hma:mg "any"=none) {u1:Value} {v1:V} (mF:mg "FIRST"=some u1) (rF:RelV v1 u1)
  (Fm:Fun K "may_come" "may_come" sM fm fdm) (mm:mg "may_come"=some (.ref fm)) (bm:Binds K fdm ["problem","placed"] []) (Nm:FnOk P w K mg base (CXC P w C) (d+15) fm fdm ["problem","placed"] (upX K C bP2))
  (Fb:Fun K "behind" "behind" sB fb fdb) (mb:mg "behind"=some (.ref fb)) (bb:Binds K fdb ["problem","stand","item"] []) (Nb:FnOk P w K mg base (CXC P w C) (d+15) fb fdb ["problem","stand","item"] (upX K C dE8))
  (Fr:Fun K "row_fault" "row_fault" sRw fr fdr) (mr:mg "row_fault"=some (.ref fr)) (br:Binds K fdr ["problem","row"] []) (Nr:FnOk P w K mg base (CXC P w C) (d+15) fr fdr ["problem","row"] (upX K C bP2)) :
  FnOk P w K mg base CX0 (d+15+1) f fd ["_law_thing","_law_way"] (mB K (jY wR)):=by
 have hR:∀ ws h z h',wR ws h=some (z,h')->dE6 ws/\z=.bool true/\h'=h:=fun ws h z h' e=>by
  unfold wR at e;split at e
  ·rename_i hp;cases e;exact ⟨hp,rfl,rfl⟩
  ·cases e
 refine F.ok scR (fun vs H Q E ⟨ws,h,A,μ,kk,_,r,⟨z,h',e,_⟩,_⟩=>by obtain ⟨⟨x,i,rfl,_⟩,_⟩:=hR _ _ _ _ e;rw [dZ r];rfl) fun cdv A outer s H vs Q E hroom hsp=>?_;obtain ⟨ws,h,B,μ,kk,R,r,⟨z,h',e,q⟩,c⟩:=hsp;obtain ⟨⟨x,i,rfl,hx,hi0,hi2⟩,rfl,rfl⟩:=hR _ _ _ _ e;refine ⟨_,jL (rX scR.nd (i:=2) rfl (.inl rfl) bP7) (jL (bM4 (C:=C) (CJ:=C) (i:=3) (tb:=fun E σ H=>∃ A μ,Ab K A μ [some (.d x),some (.d (.int i)),some (.d (.bool false)),none,none] h' σ H/\Wx K C E A μ h' H) ⟨rfl,rfl,rfl⟩ X.mC X.hC scR.nd rfl rfl ?_
  (ts:=fun ea=>upS K _) (fun ea oe hE=>uX (xK scR.nd (i:=4) (sP (xF
   (aY (jJ (i:=3) (cv:=.ref cH) (cu:=.ref cH) X.Z hE.1 (List.mem_cons_self) hm (dP rfl X.mH rfl) (fun u r=>by cases r;rfl) X.kH)
   (aY (jJ (i:=3) (cv:=.ref cL) (cu:=.ref cL) X.Z hE.1 (List.mem_cons_self) hm (dP rfl X.mL rfl) (fun u r=>by cases r;rfl) X.kL)
   (aY (jJ (i:=3) (cv:=.ref cP) (cu:=.ref cP) X.Z hE.1 (List.mem_cons_self) hm (dP rfl X.mP rfl) (fun u r=>by cases r;rfl) X.kP)
   (aY (jJ (i:=3) (cv:=.ref cS) (cu:=.ref cS) X.Z hE.1 (List.mem_cons_self) hm (dP rfl X.mS rfl) (fun u r=>by cases r;rfl) X.kS) cK)))))))
   (bF3 (xK scR.nd (i:=2) (xH (jJ (i:=3) (cv:=.ref CJ) (cu:=.ref CJ) X.Z hE.1 (List.mem_cons_self) hm (dP rfl X.mJ rfl) (fun u r=>by cases r;rfl) X.kJ)
    (xH (jJ (i:=3) (cv:=.ty "ValueError") (cu:=.type "ValueError") X.Z hE.1 (List.mem_cons_self) hm (yZ rfl X.mV rfl rfl (by decide) (by decide)) (fun u r=>by cases r;rfl) X.kV)
    (xG (aN9 (uU (yX rfl (List.mem_cons_self) hE) hma (aY (bQ5 zW (dv 4) (sP (xF (aY (jJ (i:=3) (cv:=.ref cT) (cu:=.ref cT) X.Z hE.1 (List.mem_cons_self) hm (dP rfl X.mT rfl) (fun u r=>by cases r;rfl) X.kT) cK)))) cK))))))))))
  (mK (aL4 (nD (i:=2) rfl (.inl rfl))))),?_⟩
 ·rintro Ex E pins s σ H hE I ⟨A',μ',RR,W⟩;have hv1:σ[1]?=some (some (.int i)):=by
   obtain ⟨v,e6,r6⟩:=RR.2.val 1 _ rfl;rw [bD r6] at e6;exact e6
  refine wpAny_execs_cons (wpAny_mono (Q:=fun _ _=>False) ?_ (fun _ _ z=>z.elim) fun _ _ z=>z);refine wpAny_If (thn (mM bQ0 (nD (i:=1) rfl (.inl rfl)) wT rfl pins s σ H (fun b H1=>b=decide (V.int i=V.int 0)/\H1=H) (I.wish Ex) ⟨_,hv1,rfl,_,rfl,rfl,rfl⟩) fun b s1 ⟨H1,I1,eb,eH⟩=>?_);subst eH;have I1:=I1.unwish
  by_cases q0:i=0
  ·subst q0;rw [decide_eq_true rfl] at eb;subst eb;refine wpAny_execs_cons (wpAny_mono (Q:=fun _ _=>False) (wpAny_Expr_any (wpAny_mono (bA6 (E:=E) Nm hroom mm Fm.kp bm (aY (dv 0) (aY bW4 cK)) I1 ⟨_,_,_,_,RR,?_,W⟩ hE) (fun _ _ z=>z.elim) fun _ _ z=>z) I1.quiet rfl) (fun _ _ z=>z.elim) fun _ _ z=>z);exact fun p=>⟨rfl,x,_,rfl,hx⟩
  ·rw [decide_eq_false (fun z=>q0 (by injection z))] at eb;subst eb;refine wpAny_execs_cons (wpAny_mono (Q:=fun _ _=>False) ?_ (fun _ _ z=>z.elim) fun _ _ z=>z);refine wpAny_If (thn (mM bQ0 (nD (i:=1) rfl (.inl rfl)) wT rfl pins s1 σ H1 (fun b H2=>b=decide (V.int i=V.int 1)/\H2=H1) (I1.wish Ex) ⟨_,hv1,rfl,_,rfl,rfl,rfl⟩) fun b s2 ⟨H2,I2,eb,eH⟩=>?_);subst eH;have I2:=I2.unwish
   by_cases q1:i=1
   ·subst q1;rw [decide_eq_true rfl] at eb;subst eb;refine wpAny_execs_cons (wpAny_mono (Q:=fun _ _=>False) (wpAny_Expr_any (wpAny_mono (bA6 (E:=E) Nb hroom mb Fb.kp bb (aY (dv 0) (aY (dU6 (dP (x:="FIRST") (by rfl) mF rF)) (aY aN5 cK))) I2 ⟨_,_,_,_,RR,?_,W⟩ hE) (fun _ _ z=>z.elim) fun _ _ z=>z) I2.quiet rfl) (fun _ _ z=>z.elim) fun _ _ z=>z);exact ⟨rfl,x,_,_,rfl,hx⟩
   ·rw [decide_eq_false (fun z=>q1 (by injection z))] at eb;subst eb;refine wpAny_execs_cons (wpAny_mono (Q:=fun _ _=>False) (wpAny_Expr_any (wpAny_mono (bA6 (E:=E) Nr hroom mr Fr.kp br (aY (dv 0) (aY bW4 cK)) I2 ⟨_,_,_,_,RR,?_,W⟩ hE) (fun _ _ z=>z.elim) fun _ _ z=>z) I2.quiet rfl) (fun _ _ z=>z.elim) fun _ _ z=>z);exact fun p=>⟨rfl,x,_,rfl,hx⟩
 ·obtain ⟨v,vr,rfl,rv,v2,vr2,rfl,rv2,r3⟩:=id r;have env:EnvRep K B μ H [some (.d x),some (.d (.int i)),some (.d (.bool false)),none,none] ((start (["_law_thing","_law_way","_law_found","e","_law_others"]:List Str) (v::v2::vr2)).set 2 (some (.bl false))):=(iS (N:=["_law_thing","_law_way","_law_found","e","_law_others"]) r).set 2 bB;refine ⟨fun c dO H2=>c=.ref C/\Ext B B μ μ H H2/\HeapRep K B μ h' H2,⟨B,μ,⟨R,env⟩,fun H' x' R'=>⟨rfl,x',R'⟩⟩,?_⟩;rintro H2 ⟨_,x2,R2⟩ ea;refine ⟨[some (.d x),some (.d (.int i)),some (.d (.bool false)),some (.v (.ref ea)),none],h',B,μ,{ nx:=fun δ h=>δ[2]?=some (some (.d (.bool true)))/\h=h',rt:=fun _ _=>False },⟨R2,(env.ext x2 R.sub).set 3 rfl⟩,?_,⟨fun δ3 h3 σ3 H3 A3 μ3 q3 x3 R3=>?_,fun _ _ _ _ _ _ z=>z.elim,fun _ _ _ _ _ _ z=>z.elim,fun _ _ _ _ _ _ z=>z.elim⟩⟩
  ·simp [cU1,xJ,nV,dA2,nR,pL,sO,bD8,cT0,bQ6,bQ7,dOp,zU,dQ,cG9,dH,szl,ref,dCB,OfX];exact ⟨_,_,⟨rfl,rfl⟩,rfl,rfl⟩
  ·obtain ⟨q3,rfl⟩:=q3;obtain ⟨v3,e3,r3'⟩:=R3.2.val 2 _ q3;obtain rfl:v3=.bl true:=by
    have r4:Rep K A3 H3 (.bool true) v3:=r3';rw [Rep] at r4;exact r4
   obtain ⟨x4,R4⟩:=iT R R3.1 (x2.trans x3) (fun i c _ e=>.inr e);rw [List.take_length] at R4;exact ⟨_,by rw [List.getElem?_set_ne (by decide)];exact e3,c (.bool true) h3 (.bl true) H3 B q x4 R4 (by rw [Rep])⟩
noncomputable def bP4 (TT:TopOk T P w K mg base) (X:Er K mg base C CJ cH cL cP cS cT) (hm:mg "isinstance"=none) (hma:mg "any"=none) {u1:Value} {v1:V} (mF:mg "FIRST"=some u1) (rF:RelV v1 u1):DFn P w K mg base (d+15+1) "_law_refused" (jY wR):=by
 obtain ⟨fc,fdc,Fc,mc,bc⟩:=TT.defs _ _ eC;obtain ⟨fw,fdw,Fw,mw,bw⟩:=TT.defs _ _ eW;obtain ⟨fm,fdm,Fm,mm,bm⟩:=TT.defs _ _ eM;obtain ⟨fb,fdb,Fb,mb,bb⟩:=TT.defs _ _ eB;obtain ⟨fr,fdr,Fr,mr,br⟩:=TT.defs _ _ eF;obtain ⟨f,fd,F,mf,bf⟩:=TT.defs _ _ eR;obtain ⟨s,hs⟩:=eI;have D:=(tL TT (d+12)).fn "is_problem" (aD T (d+12) "is_problem") (by show (T.defs "is_problem").map _=_;rw [hs];rfl);rw [show aO sC=(["problem"]:List Str) by kernel_rfl] at bc;rw [show aO sW=(["problem"]:List Str) by kernel_rfl] at bw;rw [show aO sM=(["problem","placed"]:List Str) by kernel_rfl] at bm;rw [show aO sB=(["problem","stand","item"]:List Str) by kernel_rfl] at bb;rw [show aO sRw=(["problem","row"]:List Str) by kernel_rfl] at br;have W1:=bP3 (d:=d) Fw Fc mc bc (bA7 Fc X D);have R:=cP3 (d:=d) F X hm hma mF rF Fm mm bm (cP0 Fm Fw mw bw W1) Fb mb bb (cP1 Fb Fw mw bw W1) Fr mr br (cP2 Fr Fw mw bw W1);rw [show (["_law_thing","_law_way"]:List Str)=aO sR by kernel_rfl] at R;exact aP1 R mf F bf
noncomputable def bP5 (TT:TopOk T P w K mg base) (X:Er K mg base C CJ cH cL cP cS cT) (hm:mg "isinstance"=none) (hma:mg "any"=none) {u1:Value} {v1:V} (mF:mg "FIRST"=some u1) (rF:RelV v1 u1) (F:Fun K "law" "law" cO5 f fd):FnOk P w K mg base CX0 (d+15+1+1) f fd (aO cO5) (mB K (jY (rV (d+15+1)))):=by
 have B:=tL TT (d+15+1);refine bU9 (x:="law") TT F ⟨fun x m e=>?_,B.fnW,B.cls,B.om,B.fo⟩;unfold fnL at e;split at e
 ·rename_i hx;cases e;subst hx;exact bP4 TT X hm hma mF rF
 ·exact B.fn x m e
end
noncomputable def cP4 {K:Frag} {h:Heap} {x:Str} {C:Addr} {mg:Str->Option Value} {bmB:List Value} {newId:String} (X:K.In h) (hm:mg x=some (.ref C)) (q:PySem.W.excIn K C bmB newId=true):OwnCls x C bmB newId mg h:=by
 refine ⟨hm,?_⟩;unfold PySem.W.excIn at q;split at q
 ·rename_i d0 c0 s0 lk;split at q
  ·rename_i D tl r0 r1 r2 r3 ni r5 em es;obtain ⟨q5,q6⟩:=Bool.and_eq_true_iff.mp q;obtain ⟨q4,q7⟩:=Bool.and_eq_true_iff.mp q5;obtain ⟨q3,q8⟩:=Bool.and_eq_true_iff.mp q4;obtain ⟨q2,q9⟩:=Bool.and_eq_true_iff.mp q3;obtain ⟨q1,q0⟩:=Bool.and_eq_true_iff.mp q2;have e1:D=C:=eq_of_beq q1;have e2:ni=newId:=eq_of_beq q0;subst e1 e2;obtain ⟨v1,v2,v3,v4,v5,v6,v7,v8,v9,v10,v11⟩:=c0;simp only [Bool.not_eq_true'] at q9;dsimp only at em q7 q6 q9;subst em q9;have e3:s0=#[r0,r1,r2,r3,some (.builtin ni),r5]:=by
    obtain ⟨ll⟩:=s0;dsimp only at es;rw [es]
   subst e3;exact ⟨tl,v4,v1,v5,v2,v6,v7,v8,v9,v10,d0,r0,r1,r2,r3,r5,_,X _ _ lk,.of_isNs (PySem.W.isNs_of_in X q7),PySem.W.nsMap_none_of_in X q7 (eq_of_beq q6),PySem.W.tail_of_in X q8⟩
  ·cases q
 ·cases q
noncomputable def bP6 {m:XF} (hL:∀ ns:List Int,Tr (m [.d (.list (ns.map .int))] [])) (K:Frag) (H:Hp) (a:Addr) (ns:List Int) (hS:SqL K H a (ns.map V.int)):mB K (jY m) [.ref a] H (fun v _=>v=.bl true) fun _ _ _=>False:=by
 obtain ⟨h',e⟩:=hL ns;refine ⟨[.d (.list (ns.map .int))],[],[],[],fun z _=>z=.bool true,⟨rfl,List.nodup_nil,fun _ z=>(nomatch z),fun _ z=>(nomatch z),fun i a xs e=>by simp at e⟩,⟨_,[],rfl,?_,rfl⟩,⟨.bool true,h',e,rfl⟩,fun z h' v H' A' e _ _ r=>?_⟩
 ·show Rep K [] H (.list (ns.map .int)) (.ref a);rw [Rep];refine ⟨a,_,rfl,?_,lC K [] H ns⟩;rcases hS with h | h
  ·exact .inl ⟨by simp,h⟩
  ·exact .inr h
 ·subst e;rw [Rep] at r;exact r
end K13
namespace CI
open PySem PySem.Spec PyProof.Rows L2 DL
noncomputable def FI.ok0 {K:Frag} {n:Str} {s:Stmt} {h:Heap} {mg:Str->Option Value} (a:FI K n s) (X:K.In h) (G:h.Ns mainGlobals mg) (hn:(aO s).length=0) (hb:∀ (kV doc pm:Value) (an:Option Addr) (cdv ct:Value),bindArgs (PySem.W.fnOf n n (cF s) (bI s) (aF s) .none kV doc pm an cdv ct) ⟨[],[]⟩=pure ((aO s).zip [])):∃ f fd,Fun K n n s f fd/\mg n=some (.ref f)/\Binds K fd (aO s) []:=a.ok X G rfl fun kV doc pm an cdv ct us hl=>by
 rw [hn] at hl
 match us,hl with
 | [],_=>exact hb kV doc pm an cdv ct
end CI
set_option maxHeartbeats 4000000
namespace K13
open PySem PySem.Spec PyProof.Rows L2 DL CI
abbrev s_0:Stmt:=top 1
abbrev s_1:Stmt:=top 2
abbrev s_2:Stmt:=top 3
abbrev s_3:Stmt:=top 4
abbrev s_4:Stmt:=top 5
abbrev s_5:Stmt:=top 10
abbrev s_6:Stmt:=top 11
abbrev s_7:Stmt:=top 12
abbrev s_8:Stmt:=top 13
abbrev s_9:Stmt:=top 14
abbrev dE9:Stmt:=top 15
abbrev dF0:Stmt:=top 16
abbrev dF1:Stmt:=top 17
abbrev dF2:Stmt:=top 18
abbrev dF3:Stmt:=top 19
abbrev dF4:Stmt:=top 20
abbrev dF5:Stmt:=top 21
abbrev dF6:Stmt:=top 22
abbrev dF7:Stmt:=top 33
abbrev dF8:Stmt:=top 34
abbrev dF9:Stmt:=top 35
abbrev dG0:Stmt:=top 36
abbrev dG1:Stmt:=top 37
abbrev dG2:Stmt:=top 38
abbrev dG3:Stmt:=top 44
abbrev dG4:Stmt:=top 45
abbrev dG5:Stmt:=top 46
abbrev dG6:Stmt:=top 47
abbrev dG7:Stmt:=top 48
abbrev dG8:Stmt:=top 49
abbrev dG9:Stmt:=top 50
abbrev dH0:Stmt:=top 52
abbrev dH1:Stmt:=top 53
abbrev dH2:Stmt:=top 54
abbrev dH3:Stmt:=top 55
abbrev dH4:Stmt:=top 56
abbrev dH5:Stmt:=top 58
abbrev dH6:Stmt:=top 60
abbrev dH7:Stmt:=top 61
abbrev dH8:Stmt:=top 62
abbrev dH9:Stmt:=top 63
abbrev dI0:Stmt:=top 64
abbrev dI1:Stmt:=top 65
abbrev dI2:Stmt:=top 66
abbrev dI3:Stmt:=top 67
abbrev dI4:Stmt:=top 68
abbrev dI5:Stmt:=top 69
abbrev dI6:Stmt:=top 70
abbrev dI7:Stmt:=top 71
abbrev dI8:Stmt:=top 72
abbrev yY:Stmt:=top 73
noncomputable def dI9:gcl body=([(Str.ofString "LAST_KEY",PyData.int 7),(Str.ofString "MOST_PARTS",PyData.int 4),(Str.ofString "FIRST",PyData.tuple [PyData.int 0,PyData.int 0,PyData.int 0,PyData.int 0,PyData.int 0,PyData.int 0,PyData.int 0,PyData.int 0]),(Str.ofString "WORDS",PyData.tuple [PyData.str (Str.ofString "must"),PyData.str (Str.ofString "may"),PyData.str (Str.ofString "out")]),(Str.ofString "MOST_ITEMS",PyData.int 120),(Str.ofString "MOST_PAIRS",PyData.int 4000),(Str.ofString "MOST_TRIPLES",PyData.int 4000)]:List (Str×PyData)):=by kernel_rfl
noncomputable def dJ0:tkl body=([(Str.ofString "NUMBERS_BEHIND",[(Str.ofString "read",0),(Str.ofString "write",1),(Str.ofString "add",1),(Str.ofString "swap",2)])]:List (Str×List (Str×Int))):=by kernel_rfl
noncomputable def dJ1:dfl body=([(Str.ofString "is_whole",s_0),(Str.ofString "is_between",s_1),(Str.ofString "is_tuple_of",s_2),(Str.ofString "are_whole",s_3),(Str.ofString "are_rising",s_4),(Str.ofString "is_key",s_5),(Str.ofString "word_of",s_6),(Str.ofString "is_worded",s_7),(Str.ofString "is_single",s_8),(Str.ofString "is_span",s_9),(Str.ofString "is_deal",dE9),(Str.ofString "is_call",dF0),(Str.ofString "is_look",dF1),(Str.ofString "is_value_pair",dF2),(Str.ofString "is_lay",dF3),(Str.ofString "is_step",dF4),(Str.ofString "is_answer",dF5),(Str.ofString "is_own_answer",dF6),(Str.ofString "is_stand",dF7),(Str.ofString "with_value",dF8),(Str.ofString "done",dF9),(Str.ofString "single_done",dG0),(Str.ofString "deal_done",dG1),(Str.ofString "laid",dG2),(Str.ofString "is_item",dG3),(Str.ofString "are_items",dG4),(Str.ofString "are_numbers",dG5),(Str.ofString "are_unlike",dG6),(Str.ofString "are_pairs",dG7),(Str.ofString "are_triples",dG8),(Str.ofString "is_problem",dG9),(Str.ofString "marked",dH0),(Str.ofString "check_problem",dH1),(Str.ofString "ways_of",dH2),(Str.ofString "may_come",dH3),(Str.ofString "behind",dH4),(Str.ofString "row_fault",dH5),(Str.ofString "_law_cell_at",dH6),(Str.ofString "_law_digit",dH7),(Str.ofString "_law_value",dH8),(Str.ofString "_law_plain_call",dH9),(Str.ofString "_law_step",dI0),(Str.ofString "_law_altered",dI1),(Str.ofString "_law_items",dI2),(Str.ofString "_law_pairs",dI3),(Str.ofString "_law_triples",dI4),(Str.ofString "_law_problem",dI5),(Str.ofString "_law_refused",dI6),(Str.ofString "_law_bad_items",dI7),(Str.ofString "_law_bad",dI8),(Str.ofString "law",yY)]:List (Str×Stmt)):=by kernel_rfl
noncomputable def dJ2:aO yY=([Str.ofString "_law_script"]:List Str):=by kernel_rfl
noncomputable def all_mk {l:PySem.W.OpenLaw} {w:World} {K:Frag} {h:Heap} {mg:Str->Option Value} {fa:Addr} (X:K.In h) (G:h.Ns mainGlobals mg) (hfa:mg "law"=some (.ref fa))
  (a0:FI K "is_whole" s_0)
  (a1:FI K "is_between" s_1)
  (a2:FI K "is_tuple_of" s_2)
  (a3:FI K "are_whole" s_3)
  (a4:FI K "are_rising" s_4)
  (a5:FI K "is_key" s_5)
  (a6:FI K "word_of" s_6)
  (a7:FI K "is_worded" s_7)
  (a8:FI K "is_single" s_8)
  (a9:FI K "is_span" s_9)
  (a10:FI K "is_deal" dE9)
  (a11:FI K "is_call" dF0)
  (a12:FI K "is_look" dF1)
  (a13:FI K "is_value_pair" dF2)
  (a14:FI K "is_lay" dF3)
  (a15:FI K "is_step" dF4)
  (a16:FI K "is_answer" dF5)
  (a17:FI K "is_own_answer" dF6)
  (a18:FI K "is_stand" dF7)
  (a19:FI K "with_value" dF8)
  (a20:FI K "done" dF9)
  (a21:FI K "single_done" dG0)
  (a22:FI K "deal_done" dG1)
  (a23:FI K "laid" dG2)
  (a24:FI K "is_item" dG3)
  (a25:FI K "are_items" dG4)
  (a26:FI K "are_numbers" dG5)
  (a27:FI K "are_unlike" dG6)
  (a28:FI K "are_pairs" dG7)
  (a29:FI K "are_triples" dG8)
  (a30:FI K "is_problem" dG9)
  (a31:FI K "marked" dH0)
  (a32:FI K "check_problem" dH1)
  (a33:FI K "ways_of" dH2)
  (a34:FI K "may_come" dH3)
  (a35:FI K "behind" dH4)
  (a36:FI K "row_fault" dH5)
  (a37:FI K "_law_cell_at" dH6)
  (a38:FI K "_law_digit" dH7)
  (a39:FI K "_law_value" dH8)
  (a40:FI K "_law_plain_call" dH9)
  (a41:FI K "_law_step" dI0)
  (a42:FI K "_law_altered" dI1)
  (a43:FI K "_law_items" dI2)
  (a44:FI K "_law_pairs" dI3)
  (a45:FI K "_law_triples" dI4)
  (a46:FI K "_law_problem" dI5)
  (a47:FI K "_law_refused" dI6)
  (a48:FI K "_law_bad_items" dI7)
  (a49:FI K "_law_bad" dI8)
  (a50:FI K "law" yY)
  {tg0:Tok} (cg0:PySem.W.nsIn K mainGlobals "LAST_KEY"=some (some (.int 7 tg0)))
  {tg1:Tok} (cg1:PySem.W.nsIn K mainGlobals "MOST_PARTS"=some (some (.int 4 tg1)))
  {q2:Addr} {nq2:Nat} {tq2_0 tq2_1 tq2_2 tq2_3 tq2_4 tq2_5 tq2_6 tq2_7:Tok} (aQ2:PySem.W.nsIn K mainGlobals "FIRST"=some (some (.ref q2))) (lQ2:K.lookup q2=some ⟨.type "tuple",none,.seq #[.int 0 tq2_0,.int 0 tq2_1,.int 0 tq2_2,.int 0 tq2_3,.int 0 tq2_4,.int 0 tq2_5,.int 0 tq2_6,.int 0 tq2_7] nq2,#[]⟩)
  {q3:Addr} {nq3:Nat} {tq3_0 tq3_1 tq3_2:Tok} (aQ3:PySem.W.nsIn K mainGlobals "WORDS"=some (some (.ref q3))) (lQ3:K.lookup q3=some ⟨.type "tuple",none,.seq #[.str "must" tq3_0,.str "may" tq3_1,.str "out" tq3_2] nq3,#[]⟩)
  {tg4:Tok} (cg4:PySem.W.nsIn K mainGlobals "MOST_ITEMS"=some (some (.int 120 tg4)))
  {tg5:Tok} (cg5:PySem.W.nsIn K mainGlobals "MOST_PAIRS"=some (some (.int 4000 tg5)))
  {tg6:Tok} (cg6:PySem.W.nsIn K mainGlobals "MOST_TRIPLES"=some (some (.int 4000 tg6)))
  {p0:Addr} {n0:Nat} {hh0_0 hh0_1 hh0_2 hh0_3:Int} {tk0_0 tv0_0 tk0_1 tv0_1 tk0_2 tv0_2 tk0_3 tv0_3:Tok} (aT0:PySem.W.nsIn K mainGlobals "NUMBERS_BEHIND"=some (some (.ref p0))) (lT0:K.lookup p0=some ⟨.type "dict",none,.dict #[⟨hh0_0,.str "read" tk0_0,.int 0 tv0_0⟩,⟨hh0_1,.str "write" tk0_1,.int 1 tv0_1⟩,⟨hh0_2,.str "add" tk0_2,.int 1 tv0_2⟩,⟨hh0_3,.str "swap" tk0_3,.int 2 tv0_3⟩] n0,#[]⟩) (kT0:PySem.W.KeysLit w.params [⟨hh0_0,.str "read" tk0_0,.int 0 tv0_0⟩,⟨hh0_1,.str "write" tk0_1,.int 1 tv0_1⟩,⟨hh0_2,.str "add" tk0_2,.int 1 tv0_2⟩,⟨hh0_3,.str "swap" tk0_3,.int 2 tv0_3⟩]) (sT0:(p0==sysModules)=false)
  {C:Addr} (aC:PySem.W.nsIn K mainGlobals "NoProblem"=some (some (.ref C))) (qX:PySem.W.excIn K C bmV "ValueError.__new__"=true)
  (x1:PySem.W.findIn K (.ref C) "__getattribute__"=some (some (.builtin "BaseException.__getattribute__"))) (x2:PySem.W.findIn K (.ref C) "__getattr__"=some none) (x3:PySem.W.findIn K (.ref C) "__class__"=some (some (.builtin "object.__class__"))) (x4:PySem.W.mroIn K C (.type "BaseException")=some true) (x5:PySem.W.mroIn K C (.type "object")=some true)
  {CJ cH cL cP cS cT:Addr} (aJ:PySem.W.nsIn K mainGlobals "JudgeError"=some (some (.ref CJ))) (aH:PySem.W.nsIn K mainGlobals "NoHistory"=some (some (.ref cH))) (aLn:PySem.W.nsIn K mainGlobals "NoLine"=some (some (.ref cL))) (aP:PySem.W.nsIn K mainGlobals "NoPromise"=some (some (.ref cP))) (aS:PySem.W.nsIn K mainGlobals "NoStore"=some (some (.ref cS))) (aTx:PySem.W.nsIn K mainGlobals "NoText"=some (some (.ref cT)))
  (hC:PySem.W.exmOne K (.ref C) (.ref C)=some true) (zV:PySem.W.nsIn K mainGlobals "ValueError"=some none)
  (w1:PySem.W.kitOne K (.ref C) (.ref cH)=some false) (w2:PySem.W.kitOne K (.ref C) (.ref cL)=some false) (w3:PySem.W.kitOne K (.ref C) (.ref cP)=some false) (w4:PySem.W.kitOne K (.ref C) (.ref cS)=some false) (w5:PySem.W.kitOne K (.ref C) (.ref cT)=some false) (w6:PySem.W.kitOne K (.ref C) (.ref CJ)=some true) (w7:PySem.W.kitOne K (.ref C) (.type "ValueError")=some true)
  (zb:∀ b∈blAll,PySem.W.nsIn K mainGlobals b=some none) :
  ∃ fd:FuncData,(∀ (s:Shared) (v:Value),BindsTo s fd ⟨[v],[]⟩ [("_law_script",v)])/\∀ base:Heap,K.In base->base.Ns mainGlobals mg->FnOk l.prog w K mg base CX0 17 fa fd ["_law_script"] (mB K (jY (rV 16))):=by
 have aL:=a50;obtain ⟨f50,od50,an50,sl50,oc50,kV50,dc50,pm50,cd50,ct50,b50,l50,c50,kk50⟩:=aL;have e:=hfa.symm.trans (PySem.W.mg_of X G b50);cases e;have F50:=aN1 (st:=yY) l50 c50 kk50;refine ⟨PySem.W.fnOf "law" "law" (cF yY) (bI yY) (aF yY) .none kV50 dc50 pm50 an50 cd50 ct50,fun s v=>.of_eq rfl,fun base XB GB=>?_⟩;have TT:TopOk T l.prog w K mg base:=by
  refine ⟨fun x hx=>?_,fun x z hz=>?_,fun x f hf=>?_,fun x s hs=>?_,fun x C s hs=>?_,fun x C s hs=>?_,fun C f hf=>?_⟩
  ·have hx:blAll.contains x=true:=hx;rw [List.contains_iff_mem] at hx;exact PySem.W.mg_none_of X G (zb x hx)
  ·have hm:=cL1 (show cK1 body x=some z from hz);rw [dI9] at hm;simp only [List.mem_cons,List.not_mem_nil,or_false,Prod.mk.injEq] at hm;rcases hm with ⟨rfl,rfl⟩ | ⟨rfl,rfl⟩ | ⟨rfl,rfl⟩ | ⟨rfl,rfl⟩ | ⟨rfl,rfl⟩ | ⟨rfl,rfl⟩ | ⟨rfl,rfl⟩
   ·exact ⟨.int 7,_,PySem.W.mg_of X G cg0,⟨tg0,rfl⟩,fun _ _=>jR⟩
   ·exact ⟨.int 4,_,PySem.W.mg_of X G cg1,⟨tg1,rfl⟩,fun _ _=>jR⟩
   ·exact ⟨.ref q2,_,PySem.W.mg_of X G aQ2,rfl,cL5 (ws:=[0,0,0,0,0,0,0,0]) lQ2 (.cons ⟨_,rfl⟩ (.cons ⟨_,rfl⟩ (.cons ⟨_,rfl⟩ (.cons ⟨_,rfl⟩ (.cons ⟨_,rfl⟩ (.cons ⟨_,rfl⟩ (.cons ⟨_,rfl⟩ (.cons ⟨_,rfl⟩ .nil)))))))) (show 8<=16777216 by decide)⟩
   ·exact ⟨.ref q3,_,PySem.W.mg_of X G aQ3,rfl,cL4 (ws:=["must","may","out"]) lQ3 (.cons ⟨_,rfl⟩ (.cons ⟨_,rfl⟩ (.cons ⟨_,rfl⟩ .nil))) (show 3<=16777216 by decide) (by decide +kernel)⟩
   ·exact ⟨.int 120,_,PySem.W.mg_of X G cg4,⟨tg4,rfl⟩,fun _ _=>jR⟩
   ·exact ⟨.int 4000,_,PySem.W.mg_of X G cg5,⟨tg5,rfl⟩,fun _ _=>jR⟩
   ·exact ⟨.int 4000,_,PySem.W.mg_of X G cg6,⟨tg6,rfl⟩,fun _ _=>jR⟩
  ·obtain ⟨t,hm,rfl⟩:=cL2 (show cK3 body x=some f from hf);rw [dJ0] at hm;simp only [List.mem_cons,List.not_mem_nil,or_false,Prod.mk.injEq] at hm;rcases hm with ⟨rfl,rfl⟩
   ·refine ⟨p0,PySem.W.mg_of X G aT0,⟨⟨_,n0,lT0,kT0,fun y i hy=>?_,fun y hy=>?_⟩,sT0⟩⟩
    ·repeat rw [vY]
     simp only [List.lookup] at hy
     repeat (first | (split at hy;(rename_i q;rw [if_pos (eq_of_beq q).symm];cases hy;exact ⟨_,rfl⟩);(rename_i q;rw [if_neg (fun z=>(beq_eq_false_iff_ne.mp q) z.symm)])) | cases hy)
    ·repeat rw [vY]
     simp only [List.lookup] at hy
     repeat (split at hy;(cases hy);(rename_i q;rw [if_neg (fun z=>(beq_eq_false_iff_ne.mp q) z.symm)]))
     rfl
  ·have hm:=cL3 (show yD body x=some s from hs);rw [dJ1] at hm;simp only [List.mem_cons,List.not_mem_nil,or_false,Prod.mk.injEq] at hm;rcases hm with ⟨rfl,rfl⟩ | ⟨rfl,rfl⟩ | ⟨rfl,rfl⟩ | ⟨rfl,rfl⟩ | ⟨rfl,rfl⟩ | ⟨rfl,rfl⟩ | ⟨rfl,rfl⟩ | ⟨rfl,rfl⟩ | ⟨rfl,rfl⟩ | ⟨rfl,rfl⟩ | ⟨rfl,rfl⟩ | ⟨rfl,rfl⟩ | ⟨rfl,rfl⟩ | ⟨rfl,rfl⟩ | ⟨rfl,rfl⟩ | ⟨rfl,rfl⟩ | ⟨rfl,rfl⟩ | ⟨rfl,rfl⟩ | ⟨rfl,rfl⟩ | ⟨rfl,rfl⟩ | ⟨rfl,rfl⟩ | ⟨rfl,rfl⟩ | ⟨rfl,rfl⟩ | ⟨rfl,rfl⟩ | ⟨rfl,rfl⟩ | ⟨rfl,rfl⟩ | ⟨rfl,rfl⟩ | ⟨rfl,rfl⟩ | ⟨rfl,rfl⟩ | ⟨rfl,rfl⟩ | ⟨rfl,rfl⟩ | ⟨rfl,rfl⟩ | ⟨rfl,rfl⟩ | ⟨rfl,rfl⟩ | ⟨rfl,rfl⟩ | ⟨rfl,rfl⟩ | ⟨rfl,rfl⟩ | ⟨rfl,rfl⟩ | ⟨rfl,rfl⟩ | ⟨rfl,rfl⟩ | ⟨rfl,rfl⟩ | ⟨rfl,rfl⟩ | ⟨rfl,rfl⟩ | ⟨rfl,rfl⟩ | ⟨rfl,rfl⟩ | ⟨rfl,rfl⟩ | ⟨rfl,rfl⟩ | ⟨rfl,rfl⟩ | ⟨rfl,rfl⟩ | ⟨rfl,rfl⟩ | ⟨rfl,rfl⟩
   all_goals first | exact FI.ok0 (by assumption) X G (by kernel_rfl) (fun _ _ _ _ _ _=>rfl) | exact FI.ok1 (by assumption) X G (by kernel_rfl) (fun _ _ _ _ _ _ _=>rfl) | exact FI.ok2 (by assumption) X G (by kernel_rfl) (fun _ _ _ _ _ _ _ _=>rfl) | exact FI.ok3 (by assumption) X G (by kernel_rfl) (fun _ _ _ _ _ _ _ _ _=>rfl)
  ·have h:(none:Option (Addr×Stmt))=some (C,s):=hs;cases h
  ·have h:(none:Option (Addr×Stmt))=some (C,s):=hs;cases h
  ·have h:false=true:=hf;cases h
 have XE:Er K mg base C CJ cH cL cP cS cT:=⟨cP4 XB (PySem.W.mg_of X G aC) qX,⟨x1,x2,x3,x4,x5⟩,PySem.W.mg_of X G aC,hC,PySem.W.mg_of X G aH,PySem.W.mg_of X G aLn,PySem.W.mg_of X G aP,PySem.W.mg_of X G aS,PySem.W.mg_of X G aTx,PySem.W.mg_of X G aJ,PySem.W.mg_none_of X G zV,w1,w2,w3,w4,w5,w6,w7⟩;have q:=bP5 (d:=0) TT XE (PySem.W.mg_none_of X G (zb "isinstance" (by decide +kernel))) (PySem.W.mg_none_of X G (zb "any" (by decide +kernel))) (v1:=.ref q2) (PySem.W.mg_of X G aQ2) rfl F50;rw [dJ2] at q;exact q
noncomputable def walk {l:PySem.W.OpenLaw} {q:Program} {loose:List Str} {XP:(Str->Option Value)->Heap->Prop} {YP:World->Heap->Prop} {d:DefRec} {K:Params->Frag} (hn:l.most=some 63) (hdf:d.params.defaults=[])
  (hY:∀ (w:World) (h:Heap),YP w h->(K w.params).In h)
  (F:∀ (w:World) (mg:Str->Option Value) (fa:Addr) (h:Heap),(K w.params).In h->h.Ns mainGlobals mg->mg d.name=some (.ref fa) ->
   ∃ fd:FuncData,(∀ (s:Shared) (u:Value),BindsTo s fd ⟨[u],[]⟩ [("_law_script",u)])/\∀ base:Heap,(K w.params).In base->base.Ns mainGlobals mg->FnOk l.prog w (K w.params) mg base CX0 17 fa fd ["_law_script"] (mB (K w.params) (jY (rV 16)))) :
  PySem.W.WalkO q loose XP YP l.row.toRowW d [] (fun f vs=>PySem.call f vs) :=
 L2.walk_of (n:=63) (k:=17) (x:="_law_script") (CX:=fun _=>CX0) (sp:=fun w=>mB (K w.params) (jY (rV 16))) hn (by decide) hdf ⟨rfl,by decide,by decide⟩ hY F (fun w H a ns hl _ hS=>bP6 (fun ns=>cO9 ns 4) _ H a ns hS) fun _ _ _ _ _ z=>z
end K13
open PySem PySem.W PyProof.Rows
set_option maxHeartbeats 0
theorem PySem.Challenge.cw_storejudge_k13_what_is_a_problem_holds : PySem.Challenge.rw_storejudge_k13_what_is_a_problem.Holds := by
 refine hd ?_
 k_fill
 refine K13.walk (l:=PySem.Challenge.rw_storejudge_k13_what_is_a_problem) rfl rfl (fun w h Y=>PySem.W.kIn_of Y) ?F
 case F =>
  intro w mg fa h KX G hmg;refine' K13.all_mk KX G hmg ?a0 ?a1 ?a2 ?a3 ?a4 ?a5 ?a6 ?a7 ?a8 ?a9 ?a10 ?a11 ?a12 ?a13 ?a14 ?a15 ?a16 ?a17 ?a18 ?a19 ?a20 ?a21 ?a22 ?a23 ?a24 ?a25 ?a26 ?a27 ?a28 ?a29 ?a30 ?a31 ?a32 ?a33 ?a34 ?a35 ?a36 ?a37 ?a38 ?a39 ?a40 ?a41 ?a42 ?a43 ?a44 ?a45 ?a46 ?a47 ?a48 ?a49 ?a50 ?cg0 ?cg1 ?aQ2 ?lQ2 ?aQ3 ?lQ3 ?cg4 ?cg5 ?cg6 ?aT0 ?lT0 ?kT0 ?sT0 ?aC ?qX ?x1 ?x2 ?x3 ?x4 ?x5 ?aJ ?aH ?aLn ?aP ?aS ?aTx ?hC ?zV ?w1 ?w2 ?w3 ?w4 ?w5 ?w6 ?w7 ?zb
  all_goals try (refine' CI.fi_mk ?a ?l ?c ?k;(case a=>k_is);(case l=>k_is);(case c=>k_is);(case k=>k_is))
  (case cg0=>k_is)
  (case cg1=>k_is)
  (case aQ2=>k_is);(case lQ2=>k_is)
  (case aQ3=>k_is);(case lQ3=>k_is)
  (case cg4=>k_is)
  (case cg5=>k_is)
  (case cg6=>k_is)
  (case aT0=>k_is);(case lT0=>k_is);(case kT0=>k_keys);(case sT0=>first | rfl | decide | k_is)
  (case aC=>k_is);(case qX=>k_exc);(case x1=>k_is);(case x2=>k_is);(case x3=>k_is);(case x4=>k_is);(case x5=>k_is)
  (case aJ=>k_is);(case aH=>k_is);(case aLn=>k_is);(case aP=>k_is);(case aS=>k_is);(case aTx=>k_is)
  (case hC=>kts_exm);(case zV=>k_is);(case w1=>kit_is);(case w2=>kit_is);(case w3=>kit_is);(case w4=>kit_is);(case w5=>kit_is);(case w6=>kit_is);(case w7=>kit_is)
  (case zb=>intro b hb;simp only [CI.blAll,List.mem_cons,List.not_mem_nil,or_false] at hb;rcases hb with rfl | rfl | rfl | rfl | rfl | rfl | rfl | rfl | rfl | rfl | rfl | rfl | rfl | rfl | rfl | rfl | rfl | rfl | rfl | rfl<;>k_is)
