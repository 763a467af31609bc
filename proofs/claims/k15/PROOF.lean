import PyProof.Rows.All
import Wide.All
import OpenK.AllK
import Wide.FinOn
import Lean
import PyProof.EqAt
import PyProof.EqKinds
import PyProof.TupleCall
import PyProof.ZipIter
import PyProof.EnumIter
import KE.KDictSum
import KE.KItemsList
import KE.KSortKey
import KE.KLam
import PyProof.SeqI3
import PyProof.WalkInts
import PyProof.EqLayable
import KE.KSortTup
import PyProof.SetNew
import PyProof.Rows.SetFrom
import PyProof.EnumFor
import PyProof.EnumStmt
import PyProof.WalksMore
import PyProof.SetRoads
import PyProof.ListRange
import PyProof.Conv_int_bool
import PySem.Challenge.RW_storejudge_k15_behind_an_item
section
open PySem PySem.W PyProof.Rows
set_option Elab.async false
set_option maxRecDepth 100000
set_option maxHeartbeats 0
theorem CI.hdF1 (tb:String->Option Builtin) (p:Program) (w:World) (N:Nat):fencedOpening tb p w N=(PySem.W.Fast.tw10274390034422433532 tb (opening p) w N (PySem.W.Fast.tw1435165496053646825 (opening p)).1 (PySem.W.Fast.tw1435165496053646825 (opening p)).2).bind (PySem.W.Fast.tw14289696077712309145 p):=by
 rw [<- PySem.W.Fast.te10274390034422433532,<- PySem.W.Fast.te1435165496053646825,<- PySem.W.Fast.te14289696077712309145];rfl
theorem CI.two_of {α β γ:Type} {A:α->β} {B:α->γ} {O:Option α} {a:β} {b:γ} (h1:O.map A=some a) (h2:O.map B=some b):O.map (fun s=>(A s,B s))=some (a,b):=by
 cases O with
 | none=>cases h1
 | some x=>simp at h1 h2 ⊢;exact ⟨h1,h2⟩
noncomputable def hdQ:Program:=view PySem.Challenge.pw_storejudge_k15_behind_an_item [0,2,3,4,5,6,8,9,10,11,12,13,14,15,16,17,18,19,20,21,22,23,25,26,28,29,30,31,32,33,34,36,37,38,39,40,41,42,43,44,45,46,47,48,49,50,52,53,54,55,56,57,58,59,60,61,62,63]
theorem hdS:PySem.Challenge.rw_storejudge_k15_behind_an_item.wellSaid=true:=by decide +kernel
local macro_rules
 | `(tactic| o_head $H) => `(tactic| refine holds_open (q := hdQ) (loose := [Str.ofString "NUMBERS_BEHIND"]) (Xt := fun s => xlAt hdQ [] s && recOk (RowW.records (OpenRow.toRowW (OpenLaw.row PySem.Challenge.rw_storejudge_k15_behind_an_item))) s) (XP := XL hdQ []) (Yf := Hook.obs $H) (Ya := Hook.val $H) (YP := Hook.says $H) (N := 4756) ?hl (Hook.of $H) (Hook.keeps $H) (fun s e => xl_of s (Bool.and_eq_true_iff.mp e).1) XL.keeps (by rfl) (by rfl) (by rfl) (fun s e => recFacts_of (Bool.and_eq_true_iff.mp e).2) (by rfl) (by first | assumption | decide +kernel) (by decide +kernel) ⟨rfl, rfl, rfl, rfl, rfl, by decide +kernel⟩ ?hw ?hc)
theorem hdP (hf:False):PySem.Challenge.rw_storejudge_k15_behind_an_item.Holds:=by
 w_on;refine holds_law hdS fun said=>?_
 k_head
 all_goals exact hf.elim
noncomputable def hdA:List Addr:=[2,3,15,17,18,20,21,22,24,25,27,28,29,31,32,34,35,36,38,39,41,42,43,46,47,48,51,52,53,54,56,57,59,60,61,63,64,66,67,68,70,71,73,74,75,77,78,80,81,82,84,85,87,88,89,92,93,94,96,97,99,100,101,103,104,106,107,108,110,111,113,114,115,118,119,120,122,123,125,126,127,129,130,132,133,134,137,138,139,146,147,148,149,152,159,160,161,164,165,167,168,170,171,172,174,175,177,178,179,181,182,184,185,186,188,189,191,192,193,195,196,198,199,200,202,203,205,206,207,208,210,211,213,214,215,218,219,220,223,224,225,227,228,230,231,232,235,236,237,240,241,242,244,245,247,248,256,259,260,261,263,264,266,267,268,270,271,273,274,275,277,278,280,281,282,284,285,287,288,289,290,291,292,293,296,298,299,301,302,303,305,306,308,309,310,312,313,315,316,317,319,320,322,323,324,326,327,329,330,331,333,334,336,337,338,340,341,343,344,345,348,349,350,353,354,355,358,359,360,362,363,365,366,367,370,371,372,375,376,377,379,380,382,383,384,387,388]
theorem hdE (P:Params):hdA=(hdP.heap_1 P).map (·.1):=by kernel_rfl
theorem hdL1 (w:World):Option.map (fun s₀=>Option.map (fun s=>(openSeen hdQ [Str.ofString "NUMBERS_BEHIND"] (importedModules PySem.Challenge.rw_storejudge_k15_behind_an_item.row.prog.main.body) (fun s=>xlAt hdQ [] s&&recOk PySem.Challenge.rw_storejudge_k15_behind_an_item.row.records s) true s,(kHook hdP.heap_1 hdA hdE).obs s)) (topFrom treeTable PySem.Challenge.rw_storejudge_k15_behind_an_item.row.prog (w.withFollow "special-get-raises" false) 4756 s₀)) (fencedOpening treeTable PySem.Challenge.rw_storejudge_k15_behind_an_item.row.prog w 4756)=some (some (openGood hdQ [Str.ofString "NUMBERS_BEHIND"],(kHook hdP.heap_1 hdA hdE).val (w.withFollow "special-get-raises" false))):=by
 simp only [CI.hdF1];unfold topFrom;rw [PySem.W.Fast.te14082659384304107361,PySem.W.Fast.te14364793385576792824,PySem.W.Fast.te4187177175401517315]
 kernel_rfl
theorem hdL2 (w:World):Option.map (fun s₀=>Option.map (fun s=>(openSeen hdQ [Str.ofString "NUMBERS_BEHIND"] (importedModules PySem.Challenge.rw_storejudge_k15_behind_an_item.row.prog.main.body) (fun s=>xlAt hdQ [] s&&recOk PySem.Challenge.rw_storejudge_k15_behind_an_item.row.records s) true s,(kHook hdP.heap_1 hdA hdE).obs s)) (topFrom treeTable PySem.Challenge.rw_storejudge_k15_behind_an_item.row.prog (w.withFollow "special-get-raises" true) 4756 s₀)) (fencedOpening treeTable PySem.Challenge.rw_storejudge_k15_behind_an_item.row.prog w 4756)=some (some (openGood hdQ [Str.ofString "NUMBERS_BEHIND"],(kHook hdP.heap_1 hdA hdE).val (w.withFollow "special-get-raises" true))):=by
 simp only [CI.hdF1];unfold topFrom;rw [PySem.W.Fast.te14082659384304107361,PySem.W.Fast.te14364793385576792824,PySem.W.Fast.te4187177175401517315]
 kernel_rfl
end
open PySem.W (Frag)
set_option Elab.async false
set_option linter.all false
set_option maxRecDepth 100000
namespace L2
open PySem PySem.Spec PyProof.Rows
abbrev Key:=Sum Int Str
noncomputable def mW:Key->Value->Bool
 | .inl k,v=>Value.isInt k v
 | .inr x,v=>Value.isStrOf x v
noncomputable def cW5 (w:World):Key->Int
 | .inl k=>hashInt k
 | .inr x=>hashStr w x
theorem keyIs_shape:∀ {k:Key} {v:Value},mW k v=true->(∃ i t,k=Sum.inl i/\v=Value.int i t)\/(∃ x t,k=Sum.inr x/\v=Value.str x t)
 | .inl i,v,h=>by
  obtain ⟨t,e⟩:=Value.isInt_shape (k:=i) (v:=v) h;exact .inl ⟨i,t,rfl,e⟩
 | .inr x,v,h=>by
  obtain ⟨t,e⟩:=Value.isStrOf_shape (x:=x) (v:=v) h;exact .inr ⟨x,t,rfl,e⟩
theorem xP (i:Int) (t:Tok):mW (.inl i) (.int i t)=true:=by simp [mW,Value.isInt]
theorem xQ (x:Str) (t:Tok):mW (.inr x) (.str x t)=true:=by simp [mW,Value.isStrOf]
theorem bK5 (a b:Int):decide ((Sum.inl a:Key)=Sum.inl b)=(a==b):=by
 by_cases e:a=b
 ·subst e;simp
 ·have h:¬ (Sum.inl a:Key)=Sum.inl b:=fun q=>e (Sum.inl.inj q);rw [decide_eq_false h];exact (beq_eq_false_iff_ne.mpr e).symm
theorem bK6 (a b:Str):decide ((Sum.inr a:Key)=Sum.inr b)=decide (a=b):=by
 by_cases e:a=b
 ·subst e;simp
 ·have h:¬ (Sum.inr a:Key)=Sum.inr b:=fun q=>e (Sum.inr.inj q);rw [decide_eq_false h,decide_eq_false e]
theorem bK7 (a:Int) (b:Str):decide ((Sum.inl a:Key)=Sum.inr b)=false:=decide_eq_false (fun q=>nomatch q)
theorem bK8 (a:Str) (b:Int):decide ((Sum.inr a:Key)=Sum.inl b)=false:=decide_eq_false (fun q=>nomatch q)
noncomputable def cG (prog:Program) (w:World):PySem.KeyKind prog w Key where
 is:=mW
 hash:=cW5 w
 inj:=fun v a b ha hb=>by
  rcases keyIs_shape ha with ⟨i,t,rfl,rfl⟩ | ⟨x,t,rfl,rfl⟩
  ·rcases keyIs_shape hb with ⟨j,u,rfl,e⟩ | ⟨y,u,rfl,e⟩
   ·injection e with e1 _;rw [e1]
   ·exact nomatch e
  ·rcases keyIs_shape hb with ⟨j,u,rfl,e⟩ | ⟨y,u,rfl,e⟩
   ·exact nomatch e
   ·injection e with e1 _;rw [e1]
 byValue:=fun k v h=>by
  rcases keyIs_shape h with ⟨i,t,rfl,rfl⟩ | ⟨x,t,rfl,rfl⟩<;>rfl
 pyHash:=fun hv h=>by
  rcases keyIs_shape hv with ⟨i,t,rfl,rfl⟩ | ⟨x,t,rfl,rfl⟩
  ·exact wpAny_pyHash_int h
  ·exact wpAny_pyHash_str h
 eqBool:=fun hu hv h=>by
  rcases keyIs_shape hu with ⟨i,t,rfl,rfl⟩ | ⟨x,t,rfl,rfl⟩
  ·rcases keyIs_shape hv with ⟨j,u,rfl,rfl⟩ | ⟨y,u,rfl,rfl⟩
   ·rw [bK5] at h;exact wpAny_eqBool_int h
   ·rw [bK7] at h;exact SeqAt.EqAt.int_str i t y u _ _ _ _ h
  ·rcases keyIs_shape hv with ⟨j,u,rfl,rfl⟩ | ⟨y,u,rfl,rfl⟩
   ·rw [bK8] at h;exact SeqAt.EqAt.str_int x t j u _ _ _ _ h
   ·rw [bK6] at h;exact wpAny_eqBool_str h
 «strs»:=fun k x t v h=>by
  rcases keyIs_shape h with ⟨i,u,rfl,e⟩ | ⟨y,u,rfl,e⟩
  ·exact nomatch e
  ·injection e with e1 _
   subst e1;cases v<;>rfl
theorem qV (prog:Program) (w:World) (i:Int) (t:Tok):(cG prog w).is (.inl i) (.int i t)=true:=xP i t
theorem qW (prog:Program) (w:World) (x:Str) (t:Tok):(cG prog w).is (.inr x) (.str x t)=true:=xQ x t
def IsTupD (h:Heap) (a:Addr) (items:Array Value):Prop:=∃ o,h.get? a=some o/\o.cls=.type "tuple"/\(∃ n,o.data=.seq items n)/\o.dict=none
theorem IsTupD.tup {h:Heap} {a:Addr} {items:Array Value} (x:IsTupD h a items):IsTup h a items:=let ⟨o,h1,h2,h3,_⟩:=x;⟨o,h1,h2,h3⟩
theorem IsTupD.lt {h:Heap} {a:Addr} {items:Array Value} (x:IsTupD h a items):a < h.objs.size:=let ⟨_,h1,_⟩:=x;Heap.lt_size h1
theorem IsTupD.new (h:Heap) (items:Array Value):IsTupD (h.push { cls:=.type "tuple",data:=.seq items }) h.objs.size items:=⟨_,Heap.get?_push_size _ rfl,rfl,⟨_,rfl⟩,rfl⟩
inductive V where
 | non | bl (b:Bool) | int (i:Int) | str (x:Str) | byt (b:Array UInt8) | flt (b:UInt64) | ref (a:Addr) | ty (n:String)
 deriving DecidableEq
noncomputable def RelV:V->Value->Prop
 | .non,u=>u=Value.none
 | .bl b,u=>u=Value.bool b
 | .int i,u=>∃ t,u=Value.int i t
 | .str x,u=>∃ t,u=Value.str x t
 | .byt b,u=>∃ t,u=Value.bytes b t
 | .flt b,u=>∃ t,u=Value.float b t
 | .ref a,u=>u=Value.ref a
 | .ty n,u=>u=Value.type n
abbrev Vals:List V->List Value->Prop:=Paired RelV
theorem Vals.length {xs:List V} {us:List Value} (r:Vals xs us):xs.length=us.length:=Paired.length r
theorem Vals.get:∀ {xs:List V} {us:List Value} {i:Nat} {x:V},Vals xs us->xs[i]?=some x->∃ u,us[i]?=some u/\RelV x u
 | _,_,_,_,.nil,e=>by simp at e
 | _,_,0,_,.cons r _,e=>by simp at e;subst e;exact ⟨_,rfl,r⟩
 | _,_,i+1,x,.cons _ t,e=>by
  obtain ⟨u,h1,h2⟩:=Vals.get (i:=i) (x:=x) t (by simpa using e);exact ⟨u,by simpa using h1,h2⟩
theorem Vals.set {x:V} {u:Value} (r:RelV x u):∀ {xs:List V} {us:List Value} (i:Nat),Vals xs us->Vals (xs.set i x) (us.set i u)
 | _,_,_,.nil=>.nil
 | _,_,0,.cons _ t=>.cons r t
 | _,_,i+1,.cons q t=>.cons q (Vals.set r i t)
theorem Vals.append:∀ {xs ys:List V} {us ws:List Value},Vals xs us->Vals ys ws->Vals (xs++ys) (us++ws)
 | _,_,_,_,.nil,s=>s
 | _,_,_,_,.cons r t,s=>.cons r (Vals.append t s)
theorem Vals.take:∀ {xs:List V} {us:List Value} (n:Nat),Vals xs us->Vals (xs.take n) (us.take n)
 | _,_,0,_=>.nil
 | _,_,_+1,.nil=>.nil
 | _,_,n+1,.cons r t=>.cons r (Vals.take n t)
theorem Vals.drop:∀ {xs:List V} {us:List Value} (n:Nat),Vals xs us->Vals (xs.drop n) (us.drop n)
 | _,_,0,r=>r
 | _,_,_+1,.nil=>.nil
 | _,_,n+1,.cons _ t=>Vals.drop n t
noncomputable def RelO:Option V->Option Value->Prop
 | some v,some u=>RelV v u
 | none,none=>True
 | _,_=>False
noncomputable def KV {κ:Type}:List (κ×V)->List (κ×Value)->Prop:=Paired fun (p:κ×V) (q:κ×Value)=>p.1=q.1/\RelV p.2 q.2
noncomputable def kV:Key->V
 | .inl i=>.int i
 | .inr x=>.str x
inductive HO where
 | lst (xs:List V)
 | tup (xs:List V)
 | dK (kvs:List (Key×V)) | dT (kvs:List (List Key×V))
 | set (S:Int->Bool) (n:Nat)
 | ins (C dx:Addr) (fs:List (Str×V))
 | own (x:Addr)
 | xd (fs:List (Str×V))
 | met (f x:Addr)
 | rng (lo hi:Int)
 | frz (o:Obj) (u:HO)
 | tbl (ps:Array Value)
 | ext (φ:Heap->Prop)
abbrev Hp:=Addr->Option HO
noncomputable def upd (H:Hp) (a:Addr) (o:HO):Hp:=fun b=>if b=a then some o else H b
theorem aR {H:Hp} {a:Addr} {o:HO}:upd H a o a=some o:=by unfold upd;rw [if_pos rfl]
theorem aJ {H:Hp} {a b:Addr} {o:HO} (h:b≠a):upd H a o b=H b:=by unfold upd;rw [if_neg h]
theorem aN {H:Hp} {a b:Addr} {o:HO} (h:H a=some o) (h':H b=none):a≠b:=by
 intro e;subst e;rw [h] at h';cases h'
section
variable (P:Program) (w:World)
noncomputable def ObjOk (H:Hp) (h:Heap) (a:Addr):HO->Prop
 | .lst xs=>xs.length<=sizeLine/\∃ (its:List Value) (n:Nat),Vals xs its/\h.get? a=some { cls:=.type "list",data:=.seq its.toArray n }
 | .tup xs=>xs.length<=sizeLine/\∃ its:List Value,Vals xs its/\IsTupD h a its.toArray
 | .dK kvs=>kvs.length<=sizeLine/\(a==sysModules)=false/\∃ vs,KV kvs vs/\h.DictOf (cG P w) a vs
 | .dT kvs=>kvs.length<=sizeLine/\(a==sysModules)=false/\∃ xs:List (List Key×Addr×Value),
   Paired (fun (p:List Key×V) (q:List Key×Addr×Value)=>p.1=q.1/\H q.2.1=some (.tup (p.1.map kV))/\RelV p.2 q.2.2) kvs xs /\
   ∃ o es ep,h.get? a=some o/\o.ExactDict/\o.data=.dict es ep/\es.toList=xs.map (entryOfKey (tupleKind (cG P w)))/\(xs.map (·.1)).Nodup
 | .set S n=>h.SetOf (intKind P w) a S n
 | .ins C dx fs=>H dx=some (.own a)/\fs.length<=1000/\dx≠a/\h.get? a=some (PySem.W.instObj C dx) /\
   ∃ mA,h.Ns1 dx mA/\(∀ f,RelO (fs.lookup f) (mA f))/\PySem.Within mA (fs.map (·.1))
 | .own _=>∃ o,h.get? a=some o
 | .xd fs=>∃ mA,h.Ns1 a mA/\∀ f,RelO (fs.lookup f) (mA f)
 | .rng lo hi=>∃ t u v,h.get? a=some { cls:=.type "range",data:=.fields #[.int lo t,.int hi u,.int 1 v] }
 | .frz o u=>h.get? a=some o/\ObjOk H h a u
 | .tbl ps=>h.get? a=some { cls:=.none,data:=.fields ps }
 | .met f x=>h.get? a=some (PySem.W.methodObj (.ref f) (.ref x))
 | .ext φ=>φ h/\(∃ o,h.get? a=some o)/\∀ h1 h2:Heap,φ h1->(∀ o,h1.get? a=some o->h2.get? a=some o)->φ h2
def HOk (H:Hp) (h:Heap):Prop:=∀ a o,H a=some o->ObjOk P w H h a o
end
section
variable {P:Program} {w:World} {H H':Hp} {h h':Heap} {a:Addr} {o:HO}
theorem ObjOk.lt (x:ObjOk P w H h a o):a < h.objs.size:=by
 cases o with
 | lst xs=>obtain ⟨_,_,_,_,e⟩:=x;exact Heap.lt_size e
 | tup xs=>obtain ⟨_,_,_,p⟩:=x;exact p.lt
 | dK kvs=>obtain ⟨_,_,_,_,o,_,_,e,_⟩:=x;exact Heap.lt_size e
 | dT kvs=>obtain ⟨_,_,_,_,o,_,_,e,_⟩:=x;exact Heap.lt_size e
 | set S n=>obtain ⟨o,_,_,_,e,_⟩:=x;exact Heap.lt_size e
 | ins C dx fs=>obtain ⟨_,_,_,e,_⟩:=x;exact Heap.lt_size e
 | own y=>obtain ⟨_,e⟩:=x;exact Heap.lt_size e
 | xd fs=>obtain ⟨_,⟨_,_,_,e,_⟩,_⟩:=x;exact Heap.lt_size e
 | rng lo hi=>obtain ⟨_,_,_,e⟩:=x;exact Heap.lt_size e
 | frz ob u=>obtain ⟨e,_⟩:=x;exact Heap.lt_size e
 | tbl ps=>exact Heap.lt_size (show h.get? a=some _ from x)
 | met f y=>exact Heap.lt_size (show h.get? a=some _ from x)
 | ext φ=>obtain ⟨_,⟨_,e⟩,_⟩:=x;exact Heap.lt_size e
theorem Paired.mapP {α β:Type} {F G:α->β->Prop}:∀ {l₁:List α} {l₂:List β},Paired F l₁ l₂->(∀ a b,F a b->G a b)->Paired G l₁ l₂
 | _,_,.nil,_=>.nil
 | _,_,.cons r t,f=>.cons (f _ _ r) (Paired.mapP t f)
theorem ObjOk.stay (x:ObjOk P w H h a o) (k:∀ b u,(b=a\/H b=some (.own a))->h.get? b=some u->h'.get? b=some u)
  (ho:∀ b,H b=some (.own a)->H' b=some (.own a)) (ht:∀ b xs,H b=some (.tup xs)->H' b=some (.tup xs)):ObjOk P w H' h' a o:=by
 induction o with
 | lst xs=>obtain ⟨z,its,n,r,e⟩:=x;exact ⟨z,its,n,r,k _ _ (.inl rfl) e⟩
 | tup xs=>obtain ⟨z,its,r,ob,e,c⟩:=x;exact ⟨z,its,r,ob,k _ _ (.inl rfl) e,c⟩
 | dK kvs=>obtain ⟨z,y,vs,r,ob,es,ep,e,c⟩:=x;exact ⟨z,y,vs,r,ob,es,ep,k _ _ (.inl rfl) e,c⟩
 | dT kvs =>
  obtain ⟨z,y,xs,r,ob,es,ep,e,c⟩:=x;exact ⟨z,y,xs,Paired.mapP r fun p q z=>⟨z.1,ht _ _ z.2.1,z.2.2⟩,ob,es,ep,k _ _ (.inl rfl) e,c⟩
 | set S n=>obtain ⟨ob,es,ep,t,e,c⟩:=x;exact ⟨ob,es,ep,t,k _ _ (.inl rfl) e,c⟩
 | ins C dx fs =>
  obtain ⟨d,z,ne,e,mA,⟨od,es,ep,e2,c⟩,r⟩:=x;exact ⟨ho _ d,z,ne,k _ _ (.inl rfl) e,mA,⟨od,es,ep,k _ _ (.inr d) e2,c⟩,r⟩
 | own y=>obtain ⟨ob,e⟩:=x;exact ⟨ob,k _ _ (.inl rfl) e⟩
 | xd fs=>obtain ⟨mA,⟨od,es,ep,e,c⟩,r⟩:=x;exact ⟨mA,⟨od,es,ep,k _ _ (.inl rfl) e,c⟩,r⟩
 | rng lo hi=>obtain ⟨t,u,v,e⟩:=x;exact ⟨t,u,v,k _ _ (.inl rfl) e⟩
 | frz ob u ih=>obtain ⟨e,q⟩:=x;exact ⟨k _ _ (.inl rfl) e,ih q⟩
 | tbl ps =>
  have e:h.get? a=some { cls:=.none,data:=.fields ps }:=x;show h'.get? a=some { cls:=.none,data:=.fields ps };exact k a _ (.inl rfl) e
 | met f y =>
  have e:h.get? a=some (PySem.W.methodObj (.ref f) (.ref y)):=x;show h'.get? a=some (PySem.W.methodObj (.ref f) (.ref y));exact k a _ (.inl rfl) e
 | ext φ=>obtain ⟨p,⟨o,e⟩,st⟩:=x;exact ⟨st _ _ p fun o q=>k _ _ (.inl rfl) q,⟨o,k _ _ (.inl rfl) e⟩,st⟩
theorem HOk.lt (x:HOk P w H h) (e:H a=some o):a < h.objs.size:=(x a o e).lt
theorem HOk.fresh (x:HOk P w H h) (e:h.objs.size<=a):H a=none:=by
 cases q:H a with
 | none=>rfl
 | some u=>exact absurd (Nat.lt_of_lt_of_le (x.lt q) e) (Nat.lt_irrefl _)
theorem HOk.kept (x:HOk P w H h) (k:∀ b u,h.get? b=some u->h'.get? b=some u):HOk P w H h':=fun a o e =>
 (x a o e).stay (fun b u _ q=>k b u q) (fun _ q=>q) fun _ _ q=>q
theorem HOk.laid (x:HOk P w H h) (k:∀ b u,h.get? b=some u->h'.get? b=some u) (hp:h.objs.size<=a) (new:ObjOk P w (upd H a o) h' a o):HOk P w (upd H a o) h':=fun b u e=>by
 have hn:=x.fresh hp
 by_cases hb:b=a
 ·subst hb;rw [aR] at e;cases e;exact new
 ·rw [aJ hb] at e;exact (x b u e).stay (fun c v _ q=>k c v q) (fun c q=>by rw [aJ (aN q hn)];exact q) fun c xs q=>by rw [aJ (aN q hn)];exact q
end
def Rd (H:Hp) (a:Addr) (u:HO):Prop:=H a=some u\/∃ o,H a=some (.frz o u)
theorem Rd.of {H:Hp} {a:Addr} {u:HO} (h:H a=some u):Rd H a u:=.inl h
theorem Rd.ok {P:Program} {w:World} {H:Hp} {h:Heap} {a:Addr} {u:HO} (r:Rd H a u) (x:HOk P w H h):ObjOk P w H h a u:=by
 rcases r with r | ⟨o,r⟩
 ·exact x a u r
 ·obtain ⟨_,q⟩:=x a _ r;exact q
noncomputable def Mut:Option HO->Prop
 | some (.lst _)=>True
 | some (.dK _)=>True
 | some (.dT _)=>True
 | some (.set _ _)=>True
 | some (.ins _ _ _)=>True
 | some (.ext _)=>True
 | _=>False
section
variable {P:Program} {w:World} {H:Hp} {h h':Heap} {x e:Addr} {o':HO}
theorem HOk.write (ok:HOk P w H h) (mu:Mut (H x)) (he:e=x\/H e=some (.own x)) (k:∀ b u,b≠e->h.get? b=some u->h'.get? b=some u) (heo:∃ u,h'.get? e=some u)
  (new:ObjOk P w (upd H x o') h' x o'):HOk P w (upd H x o') h':=fun b u q=>by
 have nown:∀ c y,H c=some (.own y)->c≠x:=fun c y r z=>by subst z;rw [r] at mu;exact mu
 have ntup:∀ c xs,H c=some (.tup xs)->c≠x:=fun c xs r z=>by subst z;rw [r] at mu;exact mu
 by_cases hb:b=x
 ·subst hb;rw [aR] at q;cases q;exact new
 ·rw [aJ hb] at q
  by_cases hbe:b=e
  ·have q':H b=some (.own x):=by
    rcases he with z | z
    ·exact absurd (hbe.trans z) hb
    ·rw [hbe];exact z
   rw [q] at q';cases q';obtain ⟨v,hv⟩:=heo;exact ⟨v,by rw [hbe];exact hv⟩
  ·refine (ok b u q).stay (fun c v hc r=>k c v ?_ r) (fun c r=>by rw [aJ (nown c b r)];exact r) fun c xs r=>by rw [aJ (ntup c xs r)];exact r
   rcases hc with rfl | hc
   ·exact hbe
   ·rintro rfl;rcases he with z | z
    ·exact nown c b hc z
    ·rw [hc] at z;cases z;exact hb rfl
end
structure Un (fs ex:List Addr) (H H':Hp) (h h':Heap):Prop where
 keep:∀ b o,h.get? b=some o->H b=none->b∉fs->b∉ex->h'.get? b=some o
 slot:∀ b o,h.get? b=some o->H b=none->b∈fs->b∉ex->∃ sl,h'.get? b=some { o with slots:=sl }
 free:∀ b o,h.get? b=some o->H b=none->b∉ex->H' b=none
 there:∀ b o,h.get? b=some o->b∉ex->∃ o',h'.get? b=some o'
 tups:∀ b xs,H b=some (.tup xs)->H' b=some (.tup xs)
 frzs:∀ b o u,H b=some (.frz o u)->H' b=some (.frz o u)
 tbls:∀ b ps,H b=some (.tbl ps)->∃ more,H' b=some (.tbl (ps++more))
section
variable {fs fs' ex ex':List Addr} {H H1 H2:Hp} {h h1 h2 h':Heap} {a x e:Addr} {o:HO}
theorem Un.any (u:Un fs ex H H1 h h1) {b:Addr} {ob:Obj} (q:h.get? b=some ob) (n:H b=none) (hx:b∉ex):∃ sl,h1.get? b=some { ob with slots:=sl }:=by
 by_cases hb:b∈fs
 ·exact u.slot b ob q n hb hx
 ·exact ⟨ob.slots,u.keep b ob q n hb hx⟩
theorem Un.trans (a:Un fs ex H H1 h h1) (b:Un fs ex H1 H2 h1 h2):Un fs ex H H2 h h2 where
 keep:=fun c ob q n hc hx=>b.keep c ob (a.keep c ob q n hc hx) (a.free c ob q n hx) hc hx
 slot:=fun c ob q n hc hx=>by
  obtain ⟨sl,e1⟩:=a.slot c ob q n hc hx;obtain ⟨sl',e2⟩:=b.slot c _ e1 (a.free c ob q n hx) hc hx;exact ⟨sl',e2⟩
 free:=fun c ob q n hx=>by
  obtain ⟨o',e1⟩:=a.there c ob q hx;exact b.free c o' e1 (a.free c ob q n hx) hx
 there:=fun c ob q hx=>by
  obtain ⟨o',e1⟩:=a.there c ob q hx;exact b.there c o' e1 hx
 tups:=fun c xs q=>b.tups c xs (a.tups c xs q)
 frzs:=fun c ob xs q=>b.frzs c ob xs (a.frzs c ob xs q)
 tbls:=fun c ps q=>by
  obtain ⟨m1,e1⟩:=a.tbls c ps q;obtain ⟨m2,e2⟩:=b.tbls c _ e1;exact ⟨m1++m2,by rw [e2,Array.append_assoc]⟩
theorem Un.kept (k:∀ b u,h.get? b=some u->h'.get? b=some u):Un fs ex H H h h' :=
 ⟨fun b ob q _ _ _=>k b ob q,fun b ob q _ _ _=>⟨ob.slots,k b ob q⟩,fun _ _ _ n _=>n,fun b ob q _=>⟨ob,k b ob q⟩,fun _ _ q=>q,fun _ _ _ q=>q,fun _ ps q=>⟨#[],by rw [q];simp⟩⟩
theorem Un.refl:Un fs ex H H h h:=Un.kept fun _ _ q=>q
theorem Un.laid (k:∀ b u,h.get? b=some u->h'.get? b=some u) (hp:h.objs.size<=a) (hn:H a=none):Un fs ex H (upd H a o) h h' where
 keep:=fun b u q _ _ _=>k b u q
 slot:=fun b u q _ _ _=>⟨u.slots,k b u q⟩
 free:=fun b u q n _=>by rw [aJ (Nat.ne_of_lt (Nat.lt_of_lt_of_le (Heap.lt_size q) hp))];exact n
 there:=fun b u q _=>⟨u,k b u q⟩
 tups:=fun b xs q=>by rw [aJ (aN q hn)];exact q
 frzs:=fun b u xs q=>by rw [aJ (aN q hn)];exact q
 tbls:=fun b ps q=>⟨#[],by rw [aJ (aN q hn),q];simp⟩
theorem Un.write (mu:Mut (H x)) (he:e=x\/H e=some (.own x)) (k:∀ b u,b≠e->h.get? b=some u->h'.get? b=some u) (heo:∃ u,h'.get? e=some u):Un fs ex H (upd H x o) h h':=by
 have hx:∀ b,H b=none->b≠x:=fun b n z=>by subst z;rw [n] at mu;exact mu
 have hb:∀ b,H b=none->b≠e:=fun b n z=>by
  subst z;rcases he with r | r
  ·exact hx b n r
  ·rw [n] at r;cases r
 have hm:∀ b u,H b=some u->¬ Mut (some u)->b≠x:=fun b u q nm z=>by subst z;rw [q] at mu;exact nm mu
 refine ⟨fun b u q n _ _=>k b u (hb b n) q,fun b u q n _ _=>⟨u.slots,k b u (hb b n) q⟩,fun b u q n _=>by rw [aJ (hx b n)];exact n,fun b u q _=>?_,
  fun b xs q=>by rw [aJ (hm b _ q fun z=>z)];exact q,fun b u xs q=>by rw [aJ (hm b _ q fun z=>z)];exact q,fun b ps q=>⟨#[],by rw [aJ (hm b _ q fun z=>z),q];simp⟩⟩
 by_cases hbe:b=e
 ·subst hbe;exact heo
 ·exact ⟨u,k b u hbe q⟩
theorem Un.mono (u:Un fs ex H H1 h h1) (hs:∀ b∈fs,b∈fs') (hx:∀ b∈ex,b∈ex'):Un fs' ex' H H1 h h1 :=
 ⟨fun b ob q n hb he=>u.keep b ob q n (fun z=>hb (hs b z)) fun z=>he (hx b z),fun _ _ q n _ he=>u.any q n fun z=>he (hx _ z),fun b ob q n he=>u.free b ob q n fun z=>he (hx b z),fun b ob q he=>u.there b ob q fun z=>he (hx b z),u.tups,u.frzs,u.tbls⟩
end
noncomputable def trk (h:Heap) (H:Hp):List Addr:=(List.range h.objs.size).filter fun a=>(H a).isSome
noncomputable def oS (h:Heap) (H:Hp):Heap:=PySem.W.hideAll h (trk h H)
theorem xR (h:Heap) (H:Hp):(oS h H).objs.size=h.objs.size:=PySem.W.hideAll_size _ _
theorem aC0 {h:Heap} {H:Hp} {b:Addr} {o:Obj} (e:h.get? b=some o) (n:H b=none):(oS h H).get? b=some o :=
 PySem.W.hideAll_get _ e fun hm=>by
  have q:(H b).isSome=true:=(List.mem_filter.mp hm).2;rw [n] at q;simp at q
theorem aQ5 {h:Heap} {H:Hp} {b:Addr} {o:Obj} (e:(oS h H).get? b=some o):h.get? b=some o/\H b=none:=by
 have e':h.get? b=some o:=PySem.W.of_hideAll (trk h H) e;refine ⟨e',?_⟩;cases q:H b with
 | none=>rfl
 | some x =>
  have hm:b∈trk h H:=List.mem_filter.mpr ⟨List.mem_range.mpr (Heap.lt_size e'),by simp [q]⟩;have z:(oS h H).get? b=none:=PySem.W.hideAll_none (trk h H) hm;rw [z] at e;cases e
noncomputable def aQ6 (g h:Heap) (L:Addr):List (Addr×Obj):=(List.range h.objs.size).filterMap fun a=>if a=L\/(g.get? a).isSome=true then none else (h.get? a).map fun o=>(a,o)
noncomputable def rest (g h:Heap) (L d:Addr):List (Addr×Obj):=(aQ6 g h L).filter fun p=>decide (p.1≠d)
structure Mod (K:Frag) (mg:Str->Option Value) (base:Heap):Prop where
 kin:K.In base
 glob:base.Ns mainGlobals mg
 blt:∃ mb,base.Ns builtinsNs mb/\∀ x:Str,x≠"__name__"->mb x=bootBuiltins x
 nolimit:base.NoLimit
structure Cx where
 prog:Program
 w:World
 K:Frag
 mg:Str->Option Value
 base:Heap
 A:Around
 N:List Str
 s₀:Shared
 H₀:Hp
 env:Env
 outer:List Env
 stack:List Env
 ex:List Addr
 fn:Str->Bool
 calm:Bool
 pn:List (Addr×Obj)
 xe:Value->Shared->Prop
noncomputable def frs (l:List Env):List Addr:=l.filterMap (·.frame)
noncomputable abbrev Cx.fs (X:Cx):List Addr:=frs X.outer
def Vis (sc:Scope) (x:Str):Prop:=sc.names.lookup x=some .local\/sc.names.lookup x=some .cell\/sc.names.lookup x=some .free
def Loc (sc:Scope) (x:Str):Prop:=sc.names.lookup x=some .local\/sc.names.lookup x=some .cell
def cW6 (env:Env) (h:Heap) (m:Str->Option Value) (x:Str) (u:Value):Prop :=
 (env.kindOf x=some .local/\m x=some u)\/((env.kindOf x=some .cell\/env.kindOf x=some .free)/\∃ c,env.cells.lookup x=some c/\h.IsCell c (some u))
structure Cx.Ok (X:Cx):Prop where
 mod:Mod X.K X.mg X.base
 kind:X.env.scope.kind=.function
 glob:X.env.globals=mainGlobals
 blt:X.env.builtins=builtinsNs
 above:X.s₀.heap.objs.size<=X.env.locals
 inj:∀ x y c,X.env.cells.lookup x=some c->X.env.cells.lookup y=some c->x=y
 has:∀ x,(X.env.kindOf x=some .cell\/X.env.kindOf x=some .free)->∃ c,X.env.cells.lookup x=some c
 cab:∀ x c,X.fn x=true->X.env.cells.lookup x=some c->X.s₀.heap.objs.size<=c
 hd:X.calm=true->X.A.handled=none
 frames:X.A.frames=some X.stack
 stk:X.stack=X.outer\/(X.stack=X.env::X.outer/\X.env.frame=some X.env.locals)
 exf:∀ b∈X.ex,b≠X.env.locals/\∀ x c,X.env.cells.lookup x=some c->c≠b
 bs:∀ b o,X.base.get? b=some o->X.s₀.heap.get? b=some o/\X.H₀ b=none
 bsz:X.base.objs.size<=X.s₀.heap.objs.size
 noex:∀ b o,X.base.get? b=some o->b∉X.ex
 exfs:∀ b∈X.ex,b∉X.fs
 funs:X.s₀.heap.FunFrames X.base X.outer
 frf:∀ b∈X.fs,X.H₀ b=none
structure Inv (X:Cx) (pins:List (Addr×Obj)) (σ:List (Option V)) (H:Hp) (s:Shared):Prop where
 ok:X.Ok
 os:s.os=X.s₀.os
 bare:AllBare s.gens
 base:Un X.fs X.ex X.H₀ H X.s₀.heap s.heap
 loc:∃ m,s.heap.Ns X.env.locals m/\∀ (i:Nat) (x:Str) (v:V),X.N[i]?=some x->σ[i]?=some (some v)->Vis X.env.scope x->∃ u,RelV v u/\cW6 X.env s.heap m x u
 cell:∀ x c,X.env.cells.lookup x=some c->∃ v,s.heap.IsCell c v
 free:H X.env.locals=none
 freeC:∀ x c,X.env.cells.lookup x=some c->H c=none
 pin:∀ p∈X.pn++pins,s.heap.get? p.1=some p.2/\H p.1=none/\p.1≠X.env.locals/\p.1∉X.fs/\∀ v,p.2.data≠.cell v
 hok:HOk X.prog X.w H s.heap
 len:σ.length=X.N.length
section
variable {X:Cx} {pins:List (Addr×Obj)} {σ:List (Option V)} {H H':Hp} {s:Shared} {h':Heap}
theorem Cx.Ok.nofr (ok:X.Ok) {b:Addr} {o:Obj} (e:X.base.get? b=some o):b∉X.fs:=fun hb=>by
 have:=(ok.funs.mem hb).1;rw [e] at this;cases this
theorem Inv.bs (I:Inv X pins σ H s):∀ b o,X.base.get? b=some o->s.heap.get? b=some o/\H b=none:=fun b o e =>
 ⟨I.base.keep b o (I.ok.bs b o e).1 (I.ok.bs b o e).2 (I.ok.nofr e) (I.ok.noex b o e),I.base.free b o (I.ok.bs b o e).1 (I.ok.bs b o e).2 (I.ok.noex b o e)⟩
theorem Inv.bk (I:Inv X pins σ H s):∀ b o,X.base.get? b=some o->s.heap.get? b=some o:=fun b o e=>(I.bs b o e).1
theorem Inv.mod (I:Inv X pins σ H s):Mod X.K X.mg X.base:=I.ok.mod
theorem Inv.kIn (I:Inv X pins σ H s):X.K.In s.heap:=I.ok.mod.kin.keeps I.bk
theorem Inv.lt (I:Inv X pins σ H s):X.env.locals < s.heap.objs.size:=let ⟨_,hn,_⟩:=I.loc;hn.lt
theorem Inv.sz (I:Inv X pins σ H s):X.s₀.heap.objs.size<=s.heap.objs.size:=Nat.le_trans I.ok.above (Nat.le_of_lt I.lt)
theorem Inv.nofs (I:Inv X pins σ H s) {a:Addr} (h:s.heap.objs.size<=a):a∉X.fs:=fun hb=>by
 obtain ⟨_,o,ho,_⟩:=I.ok.funs.mem hb;exact absurd (Nat.lt_of_lt_of_le (Heap.lt_size ho) (Nat.le_trans I.sz h)) (Nat.lt_irrefl _)
theorem Inv.cne (I:Inv X pins σ H s):∀ x c,X.env.cells.lookup x=some c->c≠X.env.locals:=fun x c e z=>by
 obtain ⟨v,o,ho,hd⟩:=I.cell x c e;obtain ⟨m,⟨o',es,ep,ho',hd',_⟩,_⟩:=I.loc;rw [z,ho'] at ho;cases ho;rw [hd'] at hd;cases hd
theorem Inv.funs (I:Inv X pins σ H s):s.heap.FunFrames X.base X.outer:=by
 have all:∀ (l:List Env),(∀ b∈frs l,b∈X.fs)->X.s₀.heap.FunFrames X.base l->s.heap.FunFrames X.base l:=by
  intro l;induction l with
  | nil=>intro _ _;trivial
  | cons env r ih =>
   intro hs hl;obtain ⟨hk,⟨L,o,hf,hn,ho,hd⟩,hr⟩:=hl;have hL:L∈X.fs:=hs L (by unfold frs;rw [List.filterMap_cons,hf];exact List.mem_cons_self);obtain ⟨sl,e⟩:=I.base.slot L o ho (I.ok.frf L hL) hL fun z=>I.ok.exfs L z hL;exact ⟨hk,⟨L,_,hf,hn,e,hd⟩,ih (fun b hb=>hs b (by unfold frs;rw [List.filterMap_cons,hf];exact List.mem_cons_of_mem _ hb)) hr⟩
 exact all X.outer (fun _ hb=>hb) I.ok.funs
theorem Inv.stack (I:Inv X pins σ H s):s.heap.FunFrames X.base X.stack:=by
 rcases I.ok.stk with e | ⟨e,hf⟩
 ·rw [e];exact I.funs
 ·rw [e];obtain ⟨m,hn,_⟩:=I.loc;refine .cons (by rw [I.ok.kind];decide) hf hn ?_ I.funs;exact Heap.get?_none_of_le (Nat.le_trans I.ok.bsz I.ok.above)
theorem Inv.stkSub (I:Inv X pins σ H s):∀ b∈frs X.stack,b∈X.env.locals::X.fs:=fun b hb=>by
 rcases I.ok.stk with e | ⟨e,hf⟩
 ·rw [e] at hb;exact List.mem_cons_of_mem _ hb
 ·rw [e] at hb;unfold frs at hb;rw [List.filterMap_cons,hf] at hb;exact hb
theorem Inv.stkFree (I:Inv X pins σ H s):∀ b∈frs X.stack,H b=none:=fun b hb=>by
 rcases List.mem_cons.mp (I.stkSub b hb) with e | hb
 ·rw [e];exact I.free
 ·obtain ⟨_,o,ho,_⟩:=I.ok.funs.mem hb;exact I.base.free b o ho (I.ok.frf b hb) fun z=>I.ok.exfs b z hb
theorem Inv.step {g':Array GenState} {t':Nat} {d':Drawn} {ch:List Addr} (I:Inv X pins σ H s)
  (hch:∀ b∈ch,(b∈X.ex\/X.s₀.heap.objs.size<=b)/\b≠X.env.locals/\(∀ x c,X.env.cells.lookup x=some c->c≠b)/\∀ p∈X.pn++pins,p.1≠b)
  (keep:∀ b o,b≠X.env.locals->b∉X.fs->b∉ch->s.heap.get? b=some o->H b=none->h'.get? b=some o)
  (slot:∀ b o,b≠X.env.locals->b∈X.fs->b∉ch->s.heap.get? b=some o->H b=none->∃ sl,h'.get? b=some { o with slots:=sl }) (free:∀ b o,b∉ch->s.heap.get? b=some o->H b=none->H' b=none)
  (there:∀ b o,b∉ch->s.heap.get? b=some o->∃ o',h'.get? b=some o')
  (tups:∀ b xs,H b=some (.tup xs)->H' b=some (.tup xs)) (frzs:∀ b o u,H b=some (.frz o u)->H' b=some (.frz o u)) (tbls:∀ b ps,H b=some (.tbl ps)->∃ more,H' b=some (.tbl (ps++more)))
  (ns:∀ m,s.heap.Ns X.env.locals m->h'.Ns X.env.locals m) (hok:HOk X.prog X.w H' h') (hg:AllBare g') :
  Inv X pins σ H' { s with heap:=h',gens:=g',drawn:=d',toks:=t' }:=by
 have neL:∀ b o,X.s₀.heap.get? b=some o->b≠X.env.locals:=fun b o e=>Nat.ne_of_lt (Nat.lt_of_lt_of_le (Heap.lt_size e) I.ok.above);have neC:∀ b o,X.s₀.heap.get? b=some o->b∉X.ex->b∉ch:=fun b o e hx hb=>by
  rcases (hch b hb).1 with z | z
  ·exact hx z
  ·exact absurd (Nat.lt_of_lt_of_le (Heap.lt_size e) z) (Nat.lt_irrefl _)
 have cellK:∀ x c,X.env.cells.lookup x=some c->∀ v,s.heap.IsCell c v->h'.IsCell c v:=fun x c e v ⟨o,ho,hd⟩=>by
  have nch:c∉ch:=fun z=>(hch c z).2.2.1 x c e rfl
  by_cases hc:c∈X.fs
  ·obtain ⟨sl,q⟩:=slot c o (I.cne x c e) hc nch ho (I.freeC x c e);exact ⟨_,q,hd⟩
  ·exact ⟨o,keep c o (I.cne x c e) hc nch ho (I.freeC x c e),hd⟩
 refine ⟨I.ok,I.os,hg,⟨fun b o e n hb hx=>?_,fun b o e n hb hx=>?_,fun b o e n hx=>?_,fun b o e hx=>?_,fun b xs e=>tups b xs (I.base.tups b xs e),fun b o xs e=>frzs b o xs (I.base.frzs b o xs e),fun b ps e=>?_⟩,?_,fun x c e=>?_,?_,fun x c e=>?_,fun p hp=>?_,hok,I.len⟩
 ·exact keep b o (neL b o e) hb (neC b o e hx) (I.base.keep b o e n hb hx) (I.base.free b o e n hx)
 ·obtain ⟨sl,e1⟩:=I.base.slot b o e n hb hx;obtain ⟨sl',e2⟩:=slot b _ (neL b o e) hb (neC b o e hx) e1 (I.base.free b o e n hx);exact ⟨sl',e2⟩
 ·obtain ⟨o',e1⟩:=I.base.there b o e hx;exact free b o' (neC b o e hx) e1 (I.base.free b o e n hx)
 ·obtain ⟨o',e1⟩:=I.base.there b o e hx;exact there b o' (neC b o e hx) e1
 ·obtain ⟨m1,e1⟩:=I.base.tbls b ps e;obtain ⟨m2,e2⟩:=tbls b _ e1;exact ⟨m1++m2,by rw [e2,Array.append_assoc]⟩
 ·obtain ⟨m,hn,hl⟩:=I.loc;refine ⟨m,ns m hn,fun i x v e1 e2 e3=>?_⟩;obtain ⟨u,r,l⟩:=hl i x v e1 e2 e3;refine ⟨u,r,?_⟩;rcases l with l | ⟨k,c,e,z⟩
  ·exact .inl l
  ·exact .inr ⟨k,c,e,cellK x c e _ z⟩
 ·obtain ⟨v,z⟩:=I.cell x c e;exact ⟨v,cellK x c e v z⟩
 ·obtain ⟨m,⟨o,_,_,ho,_⟩,_⟩:=I.loc;exact free _ o (fun z=>(hch _ z).2.1 rfl) ho I.free
 ·obtain ⟨v,o,ho,hd⟩:=I.cell x c e;exact free c o (fun z=>(hch c z).2.2.1 x c e rfl) ho (I.freeC x c e)
 ·obtain ⟨e,n,ne,nf,d⟩:=I.pin p hp;have nch:p.1∉ch:=fun z=>(hch p.1 z).2.2.2 p hp rfl;exact ⟨keep p.1 p.2 ne nf nch e n,free p.1 p.2 nch e n,ne,nf,d⟩
theorem Inv.un {t':Nat} (I:Inv X pins σ H s) (u:Un X.fs [] H H' s.heap h') (hok:HOk X.prog X.w H' h'):Inv X pins σ H' { s with heap:=h',toks:=t' }:=by
 obtain ⟨m,⟨o,es,ep,ho,r⟩,_⟩:=id I.loc;obtain ⟨sl,hL⟩:=u.any ho I.free (by simp);exact I.step (g':=s.gens) (d':=s.drawn) (ch:=[]) (fun _ z=>nomatch z) (fun b o _ hb _ e n=>u.keep b o e n hb (by simp)) (fun b o _ hb _ e n=>u.slot b o e n hb (by simp)) (fun b o _ e n=>u.free b o e n (by simp)) (fun b o _ e=>u.there b o e (by simp)) u.tups u.frzs u.tbls (fun m' hm=>by
  obtain ⟨o',es',ep',ho',r'⟩:=hm;rw [ho] at ho';cases ho';exact ⟨_,es',ep',hL,r'⟩) hok I.bare
theorem Inv.call {g':Array GenState} {t':Nat} {d':Drawn} {ch:List Addr} (I:Inv X pins σ H s) (u:Un (frs X.stack) ch H H' s.heap h') (hok:HOk X.prog X.w H' h') (hg:AllBare g')
  (hch:∀ b∈ch,(b∈X.ex\/X.s₀.heap.objs.size<=b)/\b≠X.env.locals/\(∀ x c,X.env.cells.lookup x=some c->c≠b)/\∀ p∈X.pn++pins,p.1≠b) :
  Inv X pins σ H' { s with heap:=h',gens:=g',drawn:=d',toks:=t' }:=by
 obtain ⟨m,⟨o,es,ep,ho,r⟩,_⟩:=id I.loc;obtain ⟨sl,hL⟩:=u.any ho I.free fun z=>(hch _ z).2.1 rfl;exact I.step (ch:=ch) hch (fun b o hL hb hc e n=>u.keep b o e n (fun z=>(List.mem_cons.mp (I.stkSub b z)).elim hL hb) hc) (fun b o _ _ hc e n=>u.any e n hc) (fun b o hc e n=>u.free b o e n hc) (fun b o hc e=>u.there b o e hc) u.tups u.frzs u.tbls (fun m' hm=>by
  obtain ⟨o',es',ep',ho',r'⟩:=hm;rw [ho] at ho';cases ho';exact ⟨_,es',ep',hL,r'⟩) hok hg
theorem Inv.turned {t':Nat} {it:Addr} (I:Inv X pins σ H s) (k:∀ b o,b≠it->s.heap.get? b=some o->h'.get? b=some o) (hn:H it=none) (hL:it≠X.env.locals)
  (h1:it∈X.ex\/X.s₀.heap.objs.size<=it) (h2:∀ x c,X.env.cells.lookup x=some c->c≠it) (h3:∀ p∈X.pn++pins,p.1≠it):Inv X pins σ H { s with heap:=h',toks:=t' }:=by
 have nit:∀ b u,H b=some u->b≠it:=fun b u e z=>by rw [z,hn] at e;cases e
 refine I.step (g':=s.gens) (d':=s.drawn) (ch:=[it]) (fun b hb=>?_) (fun b o _ _ hc e _=>k b o (fun z=>hc (by simp [z])) e) (fun b o _ _ hc e _=>⟨o.slots,k b o (fun z=>hc (by simp [z])) e⟩) (fun _ _ _ _ n=>n)
  (fun b o hc e=>⟨o,k b o (fun z=>hc (by simp [z])) e⟩) (fun _ _ e=>e) (fun _ _ _ e=>e) (fun b ps e=>⟨#[],by rw [e];simp⟩) (fun m hm=>?_) (fun b u e=>?_) I.bare
 ·have e:b=it:=by simpa using hb
  subst e;exact ⟨h1,hL,h2,h3⟩
 ·obtain ⟨o,es,ep,ho,r⟩:=hm;exact ⟨o,es,ep,k _ o (Ne.symm hL) ho,r⟩
 ·refine (I.hok b u e).stay (fun c v hc q=>k c v ?_ q) (fun _ q=>q) fun _ _ q=>q;rcases hc with z | z
  ·rw [z];exact nit b u e
  ·exact nit c _ z
theorem Inv.tok (I:Inv X pins σ H s) (t:Nat):Inv X pins σ H { s with toks:=t }:=I.un (h':=s.heap) (t':=t) Un.refl I.hok
theorem Inv.kept {t':Nat} (I:Inv X pins σ H s) (k:∀ b u,s.heap.get? b=some u->h'.get? b=some u):Inv X pins σ H { s with heap:=h',toks:=t' }:=I.un (Un.kept k) (I.hok.kept k)
theorem Inv.laid {a:Addr} {o:HO} {t':Nat} (I:Inv X pins σ H s) (k:∀ b u,s.heap.get? b=some u->h'.get? b=some u) (hp:s.heap.objs.size<=a) (new:ObjOk X.prog X.w (upd H a o) h' a o) :
  Inv X pins σ (upd H a o) { s with heap:=h',toks:=t' }:=I.un (Un.laid k hp (I.hok.fresh hp)) (I.hok.laid k hp new)
theorem Inv.write {x e:Addr} {o:HO} {t':Nat} (I:Inv X pins σ H s) (mu:Mut (H x)) (he:e=x\/H e=some (.own x)) (k:∀ b u,b≠e->s.heap.get? b=some u->h'.get? b=some u) (heo:∃ u,h'.get? e=some u)
  (new:ObjOk X.prog X.w (upd H x o) h' x o):Inv X pins σ (upd H x o) { s with heap:=h',toks:=t' }:=I.un (Un.write mu he k heo) (I.hok.write mu he k heo new)
theorem Inv.pins_of {pins':List (Addr×Obj)} (I:Inv X pins σ H s) (h:∀ p∈pins',s.heap.get? p.1=some p.2/\H p.1=none/\p.1≠X.env.locals/\p.1∉X.fs/\∀ v,p.2.data≠.cell v):Inv X pins' σ H s :=
 ⟨I.ok,I.os,I.bare,I.base,I.loc,I.cell,I.free,I.freeC,fun p hp=>(List.mem_append.mp hp).elim (fun z=>I.pin p (List.mem_append_left _ z)) (h p),I.hok,I.len⟩
theorem qX {N:List Str} (hN:N.Nodup) {i j:Nat} {x:Str} (a:N[i]?=some x) (b:N[j]?=some x):i=j:=by
 obtain ⟨h1,e1⟩:=List.getElem?_eq_some_iff.mp a;obtain ⟨h2,e2⟩:=List.getElem?_eq_some_iff.mp b;exact (List.getElem_inj hN).mp (e1.trans e2.symm)
theorem mX {M:Model} {A:Around} {E:Value->Shared->Prop} {i:Nat} {x:Str} {v:V} {u:Value} {Q:Unit->Shared->Prop} (I:Inv X pins σ H s) (hN:X.N.Nodup) (hi:X.N[i]?=some x) (hx:Loc X.env.scope x) (r:RelV v u)
  (h:∀ s',Inv X pins (σ.set i (some v)) H s'->(∃ a,Heap.SameBut a s.heap s'.heap/\(a=X.env.locals\/X.env.cells.lookup x=some a))->Q () s') (hf:X.fn x=true\/X.env.scope.names.lookup x=some .local:=by first | exact .inl rfl | exact .inr rfl | assumption):wpAny M A (storeName X.env x u) Q E s:=by
 obtain ⟨m,hn,hl⟩:=id I.loc;have hcls:(X.env.scope.kind==.class||(X.env.scope.kind==.module&&X.env.locals != X.env.globals))=false:=by rw [I.ok.kind];rfl
 have hiσ:i < σ.length:=by rw [I.len];exact (List.getElem?_eq_some_iff.mp hi).1
 have cne:=I.cne;have tracked:∀ {a:Addr} {h':Heap},(∃ o,s.heap.get? a=some o/\H a=none)->Heap.SameBut a s.heap h'->HOk X.prog X.w H h':=fun {a h'} ha hs b ob e=>by
  obtain ⟨_,_,hfree⟩:=ha;refine (I.hok b ob e).stay (fun c w' hc q=>(hs.2 c ?_).trans q) (fun _ q=>q) fun _ _ q=>q;rintro rfl;rcases hc with rfl | hc
  ·rw [hfree] at e;cases e
  ·rw [hfree] at hc;cases hc
 rcases hx with hk | hk
 ·refine wpAny_storeName_local hk hn (fun h' hn' hs=>?_) hcls;obtain ⟨oL,_,_,hoL,_⟩:=id hn;refine h _ ⟨I.ok,I.os,I.bare,⟨fun b o e n hb hx=>?_,fun b o e n hb hx=>?_,I.base.free,fun b o e hx=>?_,I.base.tups,I.base.frzs,I.base.tbls⟩,⟨_,hn',fun j y v' e1 e2 e3=>?_⟩,fun y c e=>?_,I.free,I.freeC,fun p hp=>?_,tracked ⟨oL,hoL,I.free⟩ hs,by simpa using I.len⟩ ⟨_,hs,.inl rfl⟩
  ·exact (hs.2 b (Nat.ne_of_lt (Nat.lt_of_lt_of_le (Heap.lt_size e) I.ok.above))).trans (I.base.keep b o e n hb hx)
  ·obtain ⟨sl,e1⟩:=I.base.slot b o e n hb hx;exact ⟨sl,(hs.2 b (Nat.ne_of_lt (Nat.lt_of_lt_of_le (Heap.lt_size e) I.ok.above))).trans e1⟩
  ·obtain ⟨o',e1⟩:=I.base.there b o e hx;exact ⟨o',(hs.2 b (Nat.ne_of_lt (Nat.lt_of_lt_of_le (Heap.lt_size e) I.ok.above))).trans e1⟩
  ·by_cases hj:j=i
   ·subst hj;rw [hi] at e1;cases e1;rw [List.getElem?_set_self hiσ] at e2;cases e2;exact ⟨u,r,.inl ⟨hk,by simp⟩⟩
   ·rw [List.getElem?_set_ne (Ne.symm hj)] at e2;obtain ⟨u',r',q⟩:=hl j y v' e1 e2 e3;refine ⟨u',r',?_⟩;rcases q with ⟨k,e⟩ | ⟨k,c,e,z⟩
    ·refine .inl ⟨k,?_⟩;have:y≠x:=fun e=>hj (qX hN e1 (e ▸ hi));simp [this,e]
    ·exact .inr ⟨k,c,e,z.sameBut hs (cne y c e)⟩
  ·obtain ⟨w',z⟩:=I.cell y c e;exact ⟨w',z.sameBut hs (cne y c e)⟩
  ·obtain ⟨e,n,ne,nf,d⟩:=I.pin p hp;exact ⟨(hs.2 p.1 ne).trans e,n,ne,nf,d⟩
 ·have hfn:X.fn x=true:=by
   rcases hf with z | z
   ·exact z
   ·rw [z] at hk;cases hk
  obtain ⟨c,hc⟩:=I.ok.has x (.inl hk);obtain ⟨w',z⟩:=I.cell x c hc;refine wpAny_storeName_cell I.ok.kind hk hc z (fun h' hc' hs=>?_);obtain ⟨oc,hoc,hocd⟩:=id z;refine h { s with heap:=h' } ⟨I.ok,I.os,I.bare,⟨fun b o e n hb hx=>?_,fun b o e n hb hx=>?_,I.base.free,fun b o e hx=>?_,I.base.tups,I.base.frzs,I.base.tbls⟩,⟨m,hn.sameBut hs (Ne.symm (cne x c hc)),fun j y v' e1 e2 e3=>?_⟩,fun y c' e=>?_,I.free,I.freeC,fun p hp=>?_,tracked ⟨oc,hoc,I.freeC x c hc⟩ hs,by simpa using I.len⟩ ⟨c,hs,.inr hc⟩
  ·exact (hs.2 b (Nat.ne_of_lt (Nat.lt_of_lt_of_le (Heap.lt_size e) (I.ok.cab x c hfn hc)))).trans (I.base.keep b o e n hb hx)
  ·obtain ⟨sl,e1⟩:=I.base.slot b o e n hb hx;exact ⟨sl,(hs.2 b (Nat.ne_of_lt (Nat.lt_of_lt_of_le (Heap.lt_size e) (I.ok.cab x c hfn hc)))).trans e1⟩
  ·obtain ⟨o',e1⟩:=I.base.there b o e hx;exact ⟨o',(hs.2 b (Nat.ne_of_lt (Nat.lt_of_lt_of_le (Heap.lt_size e) (I.ok.cab x c hfn hc)))).trans e1⟩
  ·by_cases hj:j=i
   ·subst hj;rw [hi] at e1;cases e1;rw [List.getElem?_set_self hiσ] at e2;cases e2;exact ⟨u,r,.inr ⟨.inl hk,c,hc,hc'⟩⟩
   ·rw [List.getElem?_set_ne (Ne.symm hj)] at e2;obtain ⟨u',r',q⟩:=hl j y v' e1 e2 e3;refine ⟨u',r',?_⟩;rcases q with q | ⟨k,c',e,z'⟩
    ·exact .inl q
    ·refine .inr ⟨k,c',e,z'.sameBut hs ?_⟩;rintro rfl;exact hj (qX hN e1 (I.ok.inj _ _ _ e hc ▸ hi))
  ·by_cases hcc:c'=c
   ·subst hcc;exact ⟨_,hc'⟩
   ·obtain ⟨w2,z2⟩:=I.cell y c' e;exact ⟨w2,z2.sameBut hs hcc⟩
  ·obtain ⟨e,n,ne,nf,d⟩:=I.pin p hp;refine ⟨(hs.2 p.1 ?_).trans e,n,ne,nf,d⟩;intro q;rw [q,hoc] at e;have q':oc=p.2:=Option.some.inj e;exact d w' (by rw [<- q'];exact hocd)
theorem qY {M:Model} {A:Around} {E:Value->Shared->Prop} {i:Nat} {x:Str} {v:V} {u:Value} {Q:Unit->Shared->Prop} (I:Inv X pins σ H s) (hN:X.N.Nodup) (hi:X.N[i]?=some x) (hx:Loc X.env.scope x) (r:RelV v u)
  (h:∀ s',Inv X pins (σ.set i (some v)) H s'->Q () s') (hf:X.fn x=true\/X.env.scope.names.lookup x=some .local:=by first | exact .inl rfl | exact .inr rfl | assumption):wpAny M A (storeName X.env x u) Q E s :=
 mX I hN hi hx r (fun s' I' _=>h s' I') hf
theorem Inv.call' {s':Shared} {ch:List Addr} (I:Inv X pins σ H s) (ho:s'.os=s.os) (u:Un (frs X.stack) ch H H' s.heap s'.heap) (hok:HOk X.prog X.w H' s'.heap) (hg:AllBare s'.gens)
  (hch:∀ b∈ch,(b∈X.ex\/X.s₀.heap.objs.size<=b)/\b≠X.env.locals/\(∀ x c,X.env.cells.lookup x=some c->c≠b)/\∀ p∈X.pn++pins,p.1≠b):Inv X pins σ H' s':=by
 obtain ⟨h',g',d',t',o'⟩:=s';have e:o'=s.os:=ho;subst e;exact I.call (g':=g') (t':=t') (d':=d') u hok hg hch
end
abbrev XK:=Value->Option Addr->Hp->Prop
abbrev St:=List (Option V)
abbrev VK:=V->Hp->Prop
abbrev TE:=St->Hp->VK->Prop
abbrev TT:=St->Hp->(Bool->Hp->Prop)->Prop
abbrev TA:=St->Hp->(List V->Hp->Prop)->Prop
structure Ends where
 nx:St->Hp->Prop
 rt:VK
 bk:St->Hp->Prop:=fun _ _=>False
 ct:St->Hp->Prop:=fun _ _=>False
abbrev TS:=Ends->St->Hp->Prop
def EP (X:Cx) (pins:List (Addr×Obj)) (σ:St) (Q:VK) (u:Value) (s':Shared):Prop:=∃ v H',Inv X pins σ H' s'/\RelV v u/\Q v H'
def TP (X:Cx) (pins:List (Addr×Obj)) (σ:St) (Q:Bool->Hp->Prop) (b:Bool) (s':Shared):Prop:=∃ H',Inv X pins σ H' s'/\Q b H'
def AP (X:Cx) (pins:List (Addr×Obj)) (σ:St) (Q:List V->Hp->Prop) (us:List Value) (s':Shared):Prop:=∃ vs H',Inv X pins σ H' s'/\Vals vs us/\Q vs H'
def SP (X:Cx) (pins:List (Addr×Obj)) (D:Ends) (f:Flow) (s':Shared):Prop :=
 match f with
 | .next=>∃ σ' H',Inv X pins σ' H' s'/\D.nx σ' H'
 | .brk=>∃ σ' H',Inv X pins σ' H' s'/\D.bk σ' H'
 | .cont=>∃ σ' H',Inv X pins σ' H' s'/\D.ct σ' H'
 | .ret u=>∃ v σ' H',Inv X pins σ' H' s'/\RelV v u/\D.rt v H'
def PE (X:Cx) (e:Expr) (t:TE):Prop :=
 ∀ (pins:List (Addr×Obj)) (s:Shared) (σ:St) (H:Hp) (Q:VK),Inv X pins σ H s->t σ H Q->wpAny (model X.prog X.w) X.A (eval e X.env) (EP X pins σ Q) X.xe s
def PT (X:Cx) (e:Expr) (t:TT):Prop :=
 ∀ (pins:List (Addr×Obj)) (s:Shared) (σ:St) (H:Hp) (Q:Bool->Hp->Prop),Inv X pins σ H s->t σ H Q->wpAny (model X.prog X.w) X.A (isTrue e X.env (eval e X.env)) (TP X pins σ Q) X.xe s
def PW (X:Cx) (e:Expr) (t:TT):Prop :=
 ∀ (whole:Sem Value) (pins:List (Addr×Obj)) (s:Shared) (σ:St) (H:Hp) (Q:Bool->Hp->Prop),Inv X pins σ H s->t σ H Q->wpAny (model X.prog X.w) X.A (isTrue e X.env whole) (TP X pins σ Q) X.xe s
def PA (X:Cx) (es:List Expr) (t:TA):Prop :=
 ∀ (pos:Pos) (pins:List (Addr×Obj)) (s:Shared) (σ:St) (H:Hp) (Q:List V->Hp->Prop),Inv X pins σ H s->t σ H Q->wpAny (model X.prog X.w) X.A (spliced (backTo pos (starEach es X.env))) (AP X pins σ Q) X.xe s
def PS (X:Cx) (st:Stmt) (t:TS):Prop :=
 ∀ (pins:List (Addr×Obj)) (s:Shared) (σ:St) (H:Hp) (D:Ends),Inv X pins σ H s->t D σ H->wpAny (model X.prog X.w) X.A (exec st X.env) (SP X pins D) X.xe s
def PSs (X:Cx) (st:List Stmt) (t:TS):Prop :=
 ∀ (pins:List (Addr×Obj)) (s:Shared) (σ:St) (H:Hp) (D:Ends),Inv X pins σ H s->t D σ H->wpAny (model X.prog X.w) X.A (execs st X.env) (SP X pins D) X.xe s
theorem thn {α:Type} {t:Sem α} {Q Q':α->Shared->Prop} {M:Model} {A:Around} {E:Value->Shared->Prop} {s:Shared} (h:wpAny M A t Q E s) (hQ:∀ a s,Q a s->Q' a s):wpAny M A t Q' E s:=wpAny_mono h hQ fun _ _ x=>x
section
variable {X:Cx}
def cW7 (i:Nat):TE:=fun σ H Q=>∃ v,σ[i]?=some (some v)/\Q v H
def tC (v:V):TE:=fun _ H Q=>Q v H
theorem bK9 {i:Nat} {x:Str} {pos:Pos} (hN:X.N[i]?=some x) (hv:Vis X.env.scope x) (hd:(x==("__debug__":Str))=false:=by decide) (hcd:(x==("__classdict__":Str))=false:=by decide):PE X (.Name x pos) (cW7 i):=by
 intro pins s σ H Q I h;obtain ⟨v,e,h⟩:=h;obtain ⟨m,hn,hl⟩:=I.loc;obtain ⟨u,r,l⟩:=hl i x v hN e hv;have fin:EP X pins σ Q u s:=⟨v,H,I,r,h⟩;rcases l with ⟨hk,hm⟩ | ⟨hk,c,hc,hcell⟩
 ·exact wpAny_Name (wpAny_loadName_local I.ok.kind hk hn hm fin) hd
 ·rcases hk with hk | hk
  ·exact wpAny_Name (wpAny_loadName_cell I.ok.kind hk hc hcell fin) hd
  ·exact wpAny_Name (wpAny_loadName_free I.ok.kind hk hc hcell fin hcd) hd
theorem bL0 {i j pos}:PE X (.Constant (.int i) j pos) (tC (.int i)):=fun _ _ _ H _ I h=>wpAny_Constant_int ⟨.int i,H,I.tok _,⟨_,rfl⟩,h⟩
theorem cG1 {b j pos}:PE X (.Constant (.bool b) j pos) (tC (.bl b)):=fun _ _ _ H _ I h=>Constant_bool ⟨.bl b,H,I,rfl,h⟩
theorem bL1 {j pos}:PE X (.Constant .none j pos) (tC .non):=fun _ _ _ H _ I h=>Constant_none ⟨.non,H,I,rfl,h⟩
theorem bL2 {x j pos}:PE X (.Constant (.str x) j pos) (tC (.str x)):=fun _ _ _ H _ I h=>Calls.Constant_str ⟨.str x,H,I.tok _,⟨_,rfl⟩,h⟩
def Gl (X:Cx) (x:Str):Prop:=X.env.kindOf x=some .globalImplicit
theorem oT {E:Value->Shared->Prop} {pins:List (Addr×Obj)} {s:Shared} {σ:St} {H:Hp} {x:Str} {u:Value} {pos:Pos} {Q:Value->Shared->Prop} (I:Inv X pins σ H s) (hg:Gl X x) (hm:X.mg x=some u) (h:Q u s)
  (hd:(x==("__debug__":Str))=false:=by decide):wpAny (model X.prog X.w) X.A (eval (.Name x pos) X.env) Q E s :=
 Calls.Name_function_global I.ok.kind hg (Calls.loadGlobal_global (by rw [I.ok.glob];exact I.mod.glob.keeps I.bk) hm h) hd
theorem dP {E:Value->Shared->Prop} {pins:List (Addr×Obj)} {s:Shared} {σ:St} {H:Hp} {x:Str} {u:Value} {pos:Pos} {Q:Value->Shared->Prop} (I:Inv X pins σ H s) (hg:Gl X x) (hm:X.mg x=none) (hv:bootBuiltins x=some u) (h:Q u s)
  (hn:x≠"__name__":=by decide) (hd:(x==("__debug__":Str))=false:=by decide):wpAny (model X.prog X.w) X.A (eval (.Name x pos) X.env) Q E s:=by
 obtain ⟨mb,h1,h2⟩:=I.mod.blt;exact Calls.Name_function_global I.ok.kind hg (Calls.loadGlobal_builtin (by rw [I.ok.glob];exact I.mod.glob.keeps I.bk) hm (by rw [I.ok.blt];exact h1.keeps I.bk) ((h2 x hn).trans hv) h) hd
theorem kF {x:Str} {v:V} {u:Value} {pos:Pos} (hg:Gl X x) (hm:X.mg x=some u) (r:RelV v u) (hd:(x==("__debug__":Str))=false:=by decide):PE X (.Name x pos) (tC v) :=
 fun _ _ _ H _ I h=>oT I hg hm ⟨v,H,I,r,h⟩ hd
theorem aQ7 {x:Str} {v:V} {u:Value} {pos:Pos} (hg:Gl X x) (hm:X.mg x=none) (hv:bootBuiltins x=some u) (r:RelV v u) (hn:x≠"__name__":=by decide) (hd:(x==("__debug__":Str))=false:=by decide):PE X (.Name x pos) (tC v) :=
 fun _ _ _ H _ I h=>dP I hg hm hv ⟨v,H,I,r,h⟩ hn hd
variable {a b:Expr} {ta tb:TE} {pos:Pos}
def tB (t:TE):TT:=fun σ H Q=>t σ H fun x H1=>∃ c,x=.bl c/\Q c H1
theorem bL3 {e:Expr} {t:TE} (h:PE X e t) (he:∀ whole,isTrue e X.env whole=(do let v <- whole;standAt e.pos;holding [v] (truthy v)):=by intro _;rfl):PT X e (tB t):=by
 intro pins s σ H Q I hw;refine isTrue_plain (thn (h pins s σ H _ I hw) fun v s1 ⟨x,H1,I1,r1,q1⟩=>?_) (he _);obtain ⟨d,rfl,q⟩:=q1;cases r1;exact wpAny_truthy_bool ⟨H1,I1,q⟩
variable {tA tB':TT} {rest:List Expr}
def cW8 (t u:TT):TT:=fun σ H Q=>t σ H fun c H1=>if c=true then u σ H1 Q else Q false H1
def tOr (t u:TT):TT:=fun σ H Q=>t σ H fun c H1=>if c=true then Q true H1 else u σ H1 Q
def cW9 (t:TT):TT:=fun σ H Q=>t σ H fun c H1=>Q (!c) H1
theorem aQ8 (ha:PT X a tA):PW X (.BoolOp .And [a] pos) tA:=by
 intro wh pins s σ H Q I h;refine isTrue_and (thn (ha pins s σ H Q I h) fun c s1 e=>?_);cases c with
 | true=>exact isTrue_and_nil e
 | false=>exact e
theorem bL4 (ha:PT X a tA):PW X (.BoolOp .Or [a] pos) tA:=by
 intro wh pins s σ H Q I h;refine isTrue_or (thn (ha pins s σ H Q I h) fun c s1 e=>?_);cases c with
 | false=>exact isTrue_or_nil e
 | true=>exact e
theorem bL5 (ha:PT X a tA) (hb:PW X (.BoolOp .And (b::rest) pos) tB'):PW X (.BoolOp .And (a::b::rest) pos) (cW8 tA tB'):=by
 intro wh pins s σ H Q I h;refine isTrue_and (thn (ha pins s σ H _ I h) fun c s1 ⟨H1,I1,q1⟩=>?_);cases c with
 | true=>exact hb wh pins s1 σ H1 Q I1 q1
 | false=>exact ⟨H1,I1,q1⟩
theorem cG2 (ha:PT X a tA) (hb:PW X (.BoolOp .Or (b::rest) pos) tB'):PW X (.BoolOp .Or (a::b::rest) pos) (tOr tA tB'):=by
 intro wh pins s σ H Q I h;refine isTrue_or (thn (ha pins s σ H _ I h) fun c s1 ⟨H1,I1,q1⟩=>?_);cases c with
 | true=>exact ⟨H1,I1,q1⟩
 | false=>exact hb wh pins s1 σ H1 Q I1 q1
theorem bL6 (ha:PT X a tA):PT X (.UnaryOp .Not a pos) (cW9 tA):=by
 intro pins s σ H Q I h;exact isTrue_not (ha pins s σ H (fun c H1=>Q (!c) H1) I h)
def cG3 (ta tb:TE):TE:=fun σ H Q=>ta σ H fun x H1=>∃ c,x=.bl c/\if c=true then tb σ H1 Q else Q (.bl false) H1
def cX0 (ta tb:TE):TE:=fun σ H Q=>ta σ H fun x H1=>∃ c,x=.bl c/\if c=true then Q (.bl true) H1 else tb σ H1 Q
def cG4 (ta:TE):TE:=fun σ H Q=>ta σ H fun x H1=>∃ c,x=.bl c/\Q (.bl (!c)) H1
theorem bL7 {op} {t:TE} (h:PE X a t):PE X (.BoolOp op [a] pos) t:=fun pins s σ H Q I hw=>BoolOp_one (h pins s σ H Q I hw)
theorem bL8 (ha:PE X a ta) (hb:PE X (.BoolOp .And (b::rest) pos) tb):PE X (.BoolOp .And (a::b::rest) pos) (cG3 ta tb):=by
 intro pins s σ H Q I h;refine BoolOp_and (thn (ha pins s σ H _ I h) fun v s1 ⟨x,H1,I1,r1,q1⟩=>?_);obtain ⟨c,rfl,q1⟩:=q1;cases r1;refine wpAny_truthy_bool ?_;cases c with
 | true=>exact hb pins s1 σ H1 Q I1 q1
 | false=>exact ⟨.bl false,H1,I1,rfl,q1⟩
theorem cG5 (ha:PE X a ta) (hb:PE X (.BoolOp .Or (b::rest) pos) tb):PE X (.BoolOp .Or (a::b::rest) pos) (cX0 ta tb):=by
 intro pins s σ H Q I h;refine BoolOp_or (thn (ha pins s σ H _ I h) fun v s1 ⟨x,H1,I1,r1,q1⟩=>?_);obtain ⟨c,rfl,q1⟩:=q1;cases r1;refine wpAny_truthy_bool ?_;cases c with
 | false=>exact hb pins s1 σ H1 Q I1 q1
 | true=>exact ⟨.bl true,H1,I1,rfl,q1⟩
theorem bL9 (ha:PE X a ta):PE X (.UnaryOp .Not a pos) (cG4 ta):=by
 intro pins s σ H Q I h;refine UnaryOp_ (thn (ha pins s σ H _ I h) fun v s1 ⟨x,H1,I1,r1,q1⟩=>?_);obtain ⟨c,rfl,q1⟩:=q1;cases r1;exact not_of (wpAny_truthy_bool ⟨.bl (!c),H1,I1,rfl,q1⟩)
def tIf (t:TT) (ta tb:TE):TE:=fun σ H Q=>t σ H fun c H1=>if c=true then ta σ H1 Q else tb σ H1 Q
theorem aC1 {c:Expr} (hc:PT X c tA) (ha:PE X a ta) (hb:PE X b tb):PE X (.IfExp c a b pos) (tIf tA ta tb):=by
 intro pins s σ H Q I h;refine wpAny_IfExp (thn (hc pins s σ H _ I h) fun d s1 ⟨H1,I1,q1⟩=>?_);cases d with
 | true=>exact ha pins s1 σ H1 Q I1 q1
 | false=>exact hb pins s1 σ H1 Q I1 q1
end
def SqL (K:Frag) (H:Hp) (a:Addr) (xs:List V):Prop :=
 Rd H a (.lst xs) \/
  ∃ (o:Obj) (its:Array Value) (n:Nat),K.lookup a=some o/\o.cls=.type "list"/\o.dict=none/\o.data=.seq its n/\its.size<=sizeLine/\Vals xs its.toList
def SqT (K:Frag) (H:Hp) (a:Addr) (xs:List V):Prop :=
 Rd H a (.tup xs) \/
  ∃ (o:Obj) (its:Array Value) (n:Nat),K.lookup a=some o/\o.cls=.type "tuple"/\o.data=.seq its n/\its.size<=sizeLine/\Vals xs its.toList
noncomputable def cX1:Value->Option V
 | .none=>some .non
 | .bool b=>some (.bl b)
 | .int i _=>some (.int i)
 | .str x _=>some (.str x)
 | .bytes b _=>some (.byt b)
 | .float b _=>some (.flt b)
 | .ref a=>some (.ref a)
 | .type n=>some (.ty n)
 | _=>none
theorem RelV.abs {x:V} {u:Value} (r:RelV x u):cX1 u=some x:=by
 cases x with
 | non=>cases r;rfl
 | bl _=>cases r;rfl
 | int _=>obtain ⟨t,rfl⟩:=r;rfl
 | str _=>obtain ⟨t,rfl⟩:=r;rfl
 | byt _=>obtain ⟨t,rfl⟩:=r;rfl
 | flt _=>obtain ⟨t,rfl⟩:=r;rfl
 | ref _=>cases r;rfl
 | ty _=>cases r;rfl
theorem RelV.inj {x y:V} {u:Value} (r:RelV x u) (q:RelV y u):x=y:=Option.some.inj (r.abs.symm.trans q.abs)
theorem Vals.inj:∀ {xs ys:List V} {us:List Value},Vals xs us->Vals ys us->xs=ys
 | _,_,_,.nil,.nil=>rfl
 | _,_,_,.cons r t,.cons r' t'=>by rw [r.inj r',Vals.inj t t']
section
variable {X:Cx} {pins:List (Addr×Obj)} {σ:St} {H:Hp} {s:Shared} {a:Addr} {xs ys:List V}
theorem SqL.of {K:Frag} (h:H a=some (.lst xs)):SqL K H a xs:=.inl (.inl h)
theorem SqT.of {K:Frag} (h:H a=some (.tup xs)):SqT K H a xs:=.inl (.inl h)
theorem Inv.list (I:Inv X pins σ H s) (h:SqL X.K H a xs):∃ its:List Value,Vals xs its/\PlainL s.heap a its.toArray/\xs.length<=sizeLine:=by
 rcases h with h | ⟨o,its,n,hk,hc,hd,hs,hz,r⟩
 ·obtain ⟨z,its,n,r,e⟩:=h.ok I.hok;exact ⟨its,r,⟨_,n,e,rfl,rfl,rfl⟩,z⟩
 ·refine ⟨its.toList,r,⟨o,n,I.kIn a o hk,hc,hd,by simpa using hs⟩,?_⟩;have e:=r.length;simp only [Array.length_toList] at e;omega
theorem Inv.tuple (I:Inv X pins σ H s) (h:SqT X.K H a xs):∃ its:List Value,Vals xs its/\IsTup s.heap a its.toArray/\xs.length<=sizeLine:=by
 rcases h with h | ⟨o,its,n,hk,hc,hs,hz,r⟩
 ·obtain ⟨z,its,r,p⟩:=h.ok I.hok;exact ⟨its,r,p.tup,z⟩
 ·refine ⟨its.toList,r,⟨o,I.kIn a o hk,hc,n,by simpa using hs⟩,?_⟩;have e:=r.length;simp only [Array.length_toList] at e;omega
theorem Inv.list_inj (I:Inv X pins σ H s) (h:SqL X.K H a xs) (h':SqL X.K H a ys):xs=ys:=by
 obtain ⟨its,r,⟨o,n,e,_,_,d⟩,_⟩:=I.list h;obtain ⟨its',r',⟨o',n',e',_,_,d'⟩,_⟩:=I.list h';rw [e] at e';cases e';rw [d] at d';injection d' with d1 _
 have:its=its':=by simpa using congrArg Array.toList d1
 subst this;exact r.inj r'
theorem Inv.tuple_inj (I:Inv X pins σ H s) (h:SqT X.K H a xs) (h':SqT X.K H a ys):xs=ys:=by
 obtain ⟨its,r,⟨o,e,_,n,d⟩,_⟩:=I.tuple h;obtain ⟨its',r',⟨o',e',_,n',d'⟩,_⟩:=I.tuple h';rw [e] at e';cases e';rw [d] at d';injection d' with d1 _
 have:its=its':=by simpa using congrArg Array.toList d1
 subst this;exact r.inj r'
end
abbrev Cx.wish (X:Cx) (E:Value->Shared->Prop):Cx:={ X with xe:=E }
abbrev Cx.nox (X:Cx):Cx:=X.wish fun _ _=>False
theorem Cx.Ok.wish {X:Cx} (ok:X.Ok) (E:Value->Shared->Prop):(X.wish E).Ok :=
 ⟨ok.mod,ok.kind,ok.glob,ok.blt,ok.above,ok.inj,ok.has,ok.cab,ok.hd,ok.frames,ok.stk,ok.exf,ok.bs,ok.bsz,ok.noex,ok.exfs,ok.funs,ok.frf⟩
theorem Cx.Ok.unwish {X:Cx} {E:Value->Shared->Prop} (ok:(X.wish E).Ok):X.Ok :=
 ⟨ok.mod,ok.kind,ok.glob,ok.blt,ok.above,ok.inj,ok.has,ok.cab,ok.hd,ok.frames,ok.stk,ok.exf,ok.bs,ok.bsz,ok.noex,ok.exfs,ok.funs,ok.frf⟩
section
variable {X:Cx} {pins:List (Addr×Obj)} {σ:St} {H:Hp} {s:Shared} {E:Value->Shared->Prop}
theorem Inv.wish (I:Inv X pins σ H s) (E:Value->Shared->Prop):Inv (X.wish E) pins σ H s:=⟨I.ok.wish E,I.os,I.bare,I.base,I.loc,I.cell,I.free,I.freeC,I.pin,I.hok,I.len⟩
theorem Inv.unwish (I:Inv (X.wish E) pins σ H s):Inv X pins σ H s:=⟨I.ok.unwish,I.os,I.bare,I.base,I.loc,I.cell,I.free,I.freeC,I.pin,I.hok,I.len⟩
theorem SP.unwish {D:Ends} {f:Flow} {s':Shared} (h:SP (X.wish E) pins D f s'):SP X pins D f s':=by
 cases f with
 | next=>obtain ⟨σ',H',I,q⟩:=h;exact ⟨σ',H',I.unwish,q⟩
 | brk=>obtain ⟨σ',H',I,q⟩:=h;exact ⟨σ',H',I.unwish,q⟩
 | cont=>obtain ⟨σ',H',I,q⟩:=h;exact ⟨σ',H',I.unwish,q⟩
 | ret u=>obtain ⟨v,σ',H',I,r,q⟩:=h;exact ⟨v,σ',H',I.unwish,r,q⟩
theorem PE.nox {e:Expr} {t:TE} (h:PE X.nox e t):PE X e t:=fun pins s σ H Q I hw =>
 wpAny_mono (h pins s σ H Q (I.wish _) hw) (fun _ _ ⟨v,H',I',r,q⟩=>⟨v,H',I'.unwish,r,q⟩) fun _ _ z=>False.elim z
theorem PT.nox {e:Expr} {t:TT} (h:PT X.nox e t):PT X e t:=fun pins s σ H Q I hw =>
 wpAny_mono (h pins s σ H Q (I.wish _) hw) (fun _ _ ⟨H',I',q⟩=>⟨H',I'.unwish,q⟩) fun _ _ z=>False.elim z
theorem PSs.nox {st:List Stmt} {t:TS} (h:PSs X.nox st t):PSs X st t:=fun pins s σ H D I hw =>
 wpAny_mono (h pins s σ H D (I.wish _) hw) (fun _ _ q=>q.unwish) fun _ _ z=>False.elim z
end
section
variable {X:Cx} {st:Stmt} {rest:List Stmt} {t u:TS} {e:Expr} {te:TE} {pos:Pos}
def bE4:TS:=fun D σ H=>D.nx σ H
def cX2 (t u:TS):TS:=fun D σ H=>t { D with nx:=u D } σ H
theorem aQ9:PSs X [] bE4:=fun _ _ σ H _ I h=>wpAny_execs_nil ⟨σ,H,I,h⟩
theorem aC2 (h1:PS X st t) (h2:PSs X rest u):PSs X (st::rest) (cX2 t u):=by
 intro pins s σ H D I h;refine wpAny_execs_cons (thn (h1 pins s σ H { D with nx:=u D } I h) fun f s1 q=>?_);cases f with
 | next =>
  obtain ⟨σ',H',I',q⟩:=q;exact h2 pins s1 σ' H' D I' q
 | ret v=>exact q
 | brk=>exact q
 | cont=>exact q
def bM0:TS:=fun D σ H=>D.bk σ H
def cG6:TS:=fun D σ H=>D.ct σ H
theorem aR0:PS X (.Pass pos) bE4:=fun _ _ σ H _ I h=>wpAny_Pass ⟨σ,H,I,h⟩
theorem aC3:PS X (.Break pos) bM0:=fun _ _ σ H _ I h=>wpAny_Break ⟨σ,H,I,h⟩
theorem qZ:PS X (.Continue pos) cG6:=fun _ _ σ H _ I h=>wpAny_Continue ⟨σ,H,I,h⟩
theorem Inv.quiet {pins:List (Addr×Obj)} {σ:St} {H:Hp} {s:Shared} (I:Inv X pins σ H s):interactive X.env=false:=by simp [interactive,I.ok.kind]
def cG7 (te:TE):TS:=fun D σ H=>te σ H fun _ H1=>D.nx σ H1
theorem aR1 (he:PE X e te) (hs:swapsWith e none pos.line X.env=pure false:=by rfl):PS X (.Expr e pos) (cG7 te):=by
 intro pins s σ H D I h;exact wpAny_Expr_any (thn (he pins s σ H _ I h) fun v s1 ⟨x,H1,I1,r1,q1⟩=>⟨σ,H1,I1,q1⟩) I.quiet hs
def cX3 (te:TE):TS:=fun D σ H=>te σ H D.rt
theorem bM1 (he:PE X e te):PS X (.Return (some e) pos) (cX3 te):=by
 intro pins s σ H D I h;exact wpAny_Return_some (thn (he pins s σ H _ I h) fun v s1 ⟨x,H1,I1,r1,q1⟩=>⟨x,σ,H1,I1,r1,q1⟩)
def cX4 (c:TT) (t u:TS):TS:=fun D σ H=>c σ H fun b H1=>if b=true then t D σ H1 else u D σ H1
theorem cG8 {c:Expr} {a b:List Stmt} {tc:TT} (hc:PT X c tc) (ha:PSs X a t) (hb:PSs X b u):PS X (.If c a b pos) (cX4 tc t u):=by
 intro pins s σ H D I h;refine wpAny_If (thn (hc pins s σ H _ I h) fun d s1 ⟨H1,I1,q1⟩=>?_);cases d with
 | true=>exact ha pins s1 σ H1 D I1 q1
 | false=>exact hb pins s1 σ H1 D I1 q1
end
abbrev TG:=V->St->Hp->(St->Hp->Prop)->Prop
abbrev TGs:=List V->St->Hp->(St->Hp->Prop)->Prop
def PG (X:Cx) (target:Expr) (t:TG):Prop :=
 ∀ (pins:List (Addr×Obj)) (s:Shared) (σ:St) (H:Hp) (v:V) (u:Value) (Q:St->Hp->Prop),Inv X pins σ H s->RelV v u->t v σ H Q ->
  wpAny (model X.prog X.w) X.A (assign target X.env u) (fun _ s'=>∃ σ' H',Inv X pins σ' H' s'/\Q σ' H') X.xe s
def PGs (X:Cx) (ts:List Expr) (t:TGs):Prop :=
 ∀ (pins:List (Addr×Obj)) (s:Shared) (σ:St) (H:Hp) (vs:List V) (us:List Value) (Q:St->Hp->Prop),Inv X pins σ H s->Vals vs us->t vs σ H Q ->
  wpAny (model X.prog X.w) X.A (assignInOrder ((assignEach ts X.env).map (·.2)) us) (fun _ s'=>∃ σ' H',Inv X pins σ' H' s'/\Q σ' H') X.xe s
abbrev bM2:=V->V->V->Hp->(Hp->Prop)->Prop
def bM3 (X:Cx) (t:bM2):Prop :=
 ∀ (pins:List (Addr×Obj)) (s:Shared) (σ:St) (H:Hp) (o i v:V) (ov iv u:Value) (Q:Hp->Prop),Inv X pins σ H s->RelV o ov->RelV i iv->RelV v u->t o i v H Q ->
  wpAny (model X.prog X.w) X.A (setItem ov iv u) (fun _ s'=>∃ H',Inv X pins σ H' s'/\Q H') X.xe s
section
variable {X:Cx} {pos:Pos}
def vW (i:Nat):TG:=fun v σ H Q=>Q (σ.set i (some v)) H
theorem aR2 {i:Nat} {x:Str} (hN:X.N.Nodup) (hi:X.N[i]?=some x) (hx:Loc X.env.scope x) (hf:X.fn x=true\/X.env.scope.names.lookup x=some .local:=by first | exact .inl rfl | exact .inr rfl | assumption):PG X (.Name x pos) (vW i):=by
 intro pins s σ H v u Q I r h;exact wpAny_assign_Name (qY I hN hi hx r (fun s' I'=>⟨_,H,I',h⟩) hf)
noncomputable def cX5:TGs:=fun vs σ H Q=>vs=[]/\Q σ H
noncomputable def cG9 (t:TG) (u:TGs):TGs:=fun vs σ H Q=>∃ v r,vs=v::r/\t v σ H fun σ' H'=>u r σ' H' Q
theorem aR3:PGs X [] cX5:=by
 intro pins s σ H vs us Q I r h;obtain ⟨e,h⟩:=h;subst e;cases r;exact assignInOrder_nil ⟨σ,H,I,h⟩
theorem aC4 {e:Expr} {es:List Expr} {t:TG} {u:TGs} (h1:PG X e t) (h2:PGs X es u)
  (hs:(assignEach (e::es) X.env).map (·.2)=assign e X.env::(assignEach es X.env).map (·.2):=by rfl):PGs X (e::es) (cG9 t u):=by
 intro pins s σ H vs us Q I r h;obtain ⟨v,vr,e1,h⟩:=h;subst e1;cases r with
 | cons r rr =>
  rw [hs];refine assignInOrder_cons (thn (h1 pins s σ H _ _ _ I r h) fun _ s1 ⟨σ1,H1,I1,q1⟩=>?_);exact h2 pins s1 σ1 H1 _ _ Q I1 rr q1
def cX6 (K:Frag) (n:Nat) (t:TGs):TG:=fun v σ H Q=>∃ a xs,v=.ref a/\SqT K H a xs/\xs.length=n/\t xs σ H Q
theorem bM4 {es:List Expr} {k:Nat} {t:TGs} {n:Nat} (hc:X.calm=true) (h:PGs X es t)
  (hn:(assignEach es X.env).length=n:=by rfl) (hst:(assignEach es X.env).findIdx? (·.1)=none:=by rfl):PG X (.Tuple es k pos) (cX6 X.K n t):=by
 intro pins s σ H v u Q I r hw;obtain ⟨a,xs,e1,hq,hl,hw⟩:=hw;subst e1;cases r;obtain ⟨its,rv,ht,hz⟩:=I.tuple hq;refine assign_Tuple_tuple (I.ok.hd hc) ht (by simp [hn,<- hl,rv.length]) hst fun h' hx=>?_;have I1:Inv X pins σ H { s with heap:=h' }:=I.kept (t':=s.toks) fun b o e=>hx b o (Nat.ne_of_lt (Heap.lt_size e)) e;exact h pins _ σ H xs _ Q I1 (by simpa using rv) hw
def cX7 (to ti:TE) (t:bM2):TG:=fun v σ H Q=>to σ H fun o H1=>ti σ H1 fun i H2=>t o i v H2 fun H3=>Q σ H3
theorem bM5 {o i:Expr} {to ti:TE} {t:bM2} (ho:PE X o to) (hi:PE X i ti) (hs:bM3 X t)
  (ha:∀ v,assign (.Subscript o i pos) X.env v=(do
   let ov <- holding [v] (eval o X.env)
   let iv <- holding [v,ov] (eval i X.env)
   standAt pos
   holding [v,ov,iv] (setItem ov iv v)
   release [v,ov,iv] []):=by intro _;rfl):PG X (.Subscript o i pos) (cX7 to ti t):=by
 intro pins s σ H v u Q I r h;rw [ha];refine wpAny_bind (wpAny_holding (thn (ho pins s σ H _ I h) fun ov s1 ⟨x,H1,I1,r1,q1⟩=>?_));refine wpAny_bind (wpAny_holding (thn (hi pins s1 σ H1 _ I1 q1) fun iv s2 ⟨y,H2,I2,r2,q2⟩=>?_));refine wpAny_bind (wpAny_standAt (wpAny_bind (wpAny_holding (thn (hs pins s2 σ H2 x y v ov iv u _ I2 r1 r2 r q2) fun _ s3 ⟨H3,I3,q3⟩=>?_))));exact wpAny_release ⟨σ,H3,I3,q3⟩
def aR4 (te:TE) (g:TG):TS:=fun D σ H=>te σ H fun x H1=>g x σ H1 D.nx
theorem bM6 {tg e:Expr} {te:TE} {g:TG} (he:PE X e te) (hg:PG X tg g) (hs:swapsWithSole [tg] e pos.line X.env=pure false:=by rfl) (hw:swappedStores [tg] e X.env=pure none:=by rfl)
  (h1:(assignEach [tg] X.env).map (·.2)=[assign tg X.env]:=by rfl):PS X (.Assign [tg] e pos) (aR4 te g):=by
 intro pins s σ H D I h;refine wpAny_Assign_stores (thn (he pins s σ H _ I h) fun v s1 ⟨x,H1,I1,r1,q1⟩=>?_) hs hw;rw [h1];exact thn (hg pins s1 σ H1 x v _ I1 r1 q1) fun _ s2 q=>q
theorem tS {i:Nat} {x:Str} {e:Expr} {te:TE} {pos':Pos} (hN:X.N.Nodup) (hi:X.N[i]?=some x) (hx:Loc X.env.scope x) (he:PE X e te) (hs:swapsWith e (some (.Name x pos')) pos.line X.env=pure false:=by rfl) (hf:X.fn x=true\/X.env.scope.names.lookup x=some .local:=by first | exact .inl rfl | exact .inr rfl | assumption) :
  PS X (.Assign [.Name x pos'] e pos) (aR4 te (vW i)):=by
 intro pins s σ H D I h;refine wpAny_Assign_Name (thn (he pins s σ H _ I h) fun v s1 ⟨y,H1,I1,r1,q1⟩=>?_) hs;exact qY I1 hN hi hx r1 (fun s2 I2=>⟨_,H1,I2,q1⟩) hf
end
section
variable {X:Cx} {pos:Pos}
end
structure It where
 go:Nat->Hp->Prop
 yld:Nat->Hp->V->Hp->Prop
 stop:Nat->Hp->Prop
def gR (X:Cx) (pins:List (Addr×Obj)) (H:Hp) (b:Addr):Prop :=
 H b=none/\b≠X.env.locals/\b∉X.fs/\(b∈X.ex\/X.s₀.heap.objs.size<=b)/\(∀ x c,X.env.cells.lookup x=some c->c≠b)/\∀ p∈X.pn++pins,p.1≠b
theorem Inv.fpOk {X:Cx} {pins:List (Addr×Obj)} {σ:St} {H H':Hp} {s:Shared} {b:Addr} (I:Inv X pins σ H s) (hb:s.heap.objs.size<=b) (hn:H' b=none):gR X pins H' b:=by
 refine ⟨hn,Nat.ne_of_gt (Nat.lt_of_lt_of_le I.lt hb),I.nofs hb,.inr (Nat.le_trans I.sz hb),fun x c e z=>?_,fun p hp z=>?_⟩
 ·obtain ⟨v,q⟩:=I.cell x c e;exact absurd (Nat.lt_of_lt_of_le q.lt (by rw [z];exact hb)) (Nat.lt_irrefl _)
 ·exact absurd (Nat.lt_of_lt_of_le (Heap.lt_size (I.pin p hp).1) (by rw [z];exact hb)) (Nat.lt_irrefl _)
structure Turn (P:Program) (w:World) (K:Frag) (tg:Expr) (J:It) (fp:List Addr) (it:Addr) (tn:Nat->Heap->Prop):Prop where
 mem:it∈fp
 obj:∀ i h,tn i h->∀ b∈fp,∃ o,h.get? b=some o/\∀ v,o.data≠.cell v
 keep:∀ i h h',tn i h->(∀ b∈fp,∀ o,h.get? b=some o->h'.get? b=some o)->tn i h'
 item:∀ (X:Cx),X.prog=P->X.w=w->X.K=K->X.calm=true->∀ (i:Nat) (pins:List (Addr×Obj)) (s:Shared) (σ:St) (H:Hp) (E:Value->Shared->Prop),Inv X pins σ H s->(∀ b∈fp,gR X pins H b)->tn i s.heap->J.go i H ->
  wpAny (model P w) X.A (pyNext (.ref it)) (fun r s1=>∃ u,r=some u /\
   wpAny (model P w) X.A (letOwnedTupleGo tg (.ref it) u) (fun _ s2=>∃ x H',Inv X pins σ H' s2/\RelV x u/\J.yld i H x H'/\tn (i+1) s2.heap/\∀ b∈fp,H' b=none) E s1) E s
 done:∀ (X:Cx),X.prog=P->X.w=w->X.K=K->X.calm=true->∀ (i:Nat) (pins:List (Addr×Obj)) (s:Shared) (σ:St) (H:Hp) (E:Value->Shared->Prop),Inv X pins σ H s->(∀ b∈fp,gR X pins H b)->tn i s.heap->J.stop i H ->
  wpAny (model P w) X.A (pyNext (.ref it)) (fun r s1=>r=none/\Inv X pins σ H s1) E s
 self:∀ (A:Around) (i:Nat) (s:Shared) (Q:Value->Shared->Prop) (E:Value->Shared->Prop),tn i s.heap->Q (.ref it) s->wpAny (model P w) A (pyIter (.ref it)) Q E s
abbrev TI:=St->Hp->(It->Hp->Prop)->Prop
def PIE (X:Cx) (pins:List (Addr×Obj)) (σ:St) (tg:Expr) (R:It->Hp->Prop) (itv:Value) (s2:Shared):Prop :=
 ∃ (it:Addr) (fp:List Addr) (tn:Nat->Heap->Prop) (J:It) (H':Hp),itv=.ref it/\Inv X pins σ H' s2/\Turn X.prog X.w X.K tg J fp it tn/\tn 0 s2.heap/\(∀ b∈fp,gR X pins H' b)/\R J H'
def PI (X:Cx) (tg iter:Expr) (wi:TI):Prop :=
 ∀ (pins:List (Addr×Obj)) (s:Shared) (σ:St) (H:Hp) (R:It->Hp->Prop),Inv X pins σ H s->wi σ H R ->
  wpAny (model X.prog X.w) X.A (eval iter X.env) (fun v s1=>wpAny (model X.prog X.w) X.A (pyIter v) (PIE X pins σ tg R) X.xe s1) X.xe s
theorem aC5 {M:Model} {A:Around} {E:Value->Shared->Prop} {s:Shared} {tg:Expr} {it:Addr} {u:Value} {o:Obj} {n:String} {vs:Array Value} {Q:Unit->Shared->Prop} (ho:s.heap.get? it=some o) (hc:o.cls=.type n) (hd:o.data=.fields vs)
  (hn:["enumerate","zip","dict_itemiterator","dict_reverseitemiterator","odict_iterator","itertools.zip_longest","itertools.pairwise"].contains n=false) (hQ:Q () s):wpAny M A (letOwnedTupleGo tg (.ref it) u) Q E s:=by
 unfold letOwnedTupleGo;cases tg<;>first
  | exact wpAny_pure hQ
  | (cases u<;>first
    | exact wpAny_pure hQ
    | (refine wpAny_bind (wpAny_load ho ?_)
       rw [hc,hd];show wpAny M A (if (["enumerate","zip","dict_itemiterator","dict_reverseitemiterator","odict_iterator","itertools.zip_longest","itertools.pairwise"].contains n&&vs[0]?==some (rawInt _))=true then _ else _) Q E s;rw [if_neg (by intro h;rw [hn,Bool.false_and] at h;cases h)];exact wpAny_pure hQ))
def Itl (K:Frag) (a:Addr):It :=
 ⟨fun i H=>∃ xs x,SqL K H a xs/\xs[i]?=some x,fun i H x H'=>H'=H/\∀ xs,SqL K H a xs->xs[i]?=some x,fun i H=>∃ xs,SqL K H a xs/\xs.length<=i⟩
def Itt (K:Frag) (a:Addr):It :=
 ⟨fun i H=>∃ xs x,SqT K H a xs/\xs[i]?=some x,fun i H x H'=>H'=H/\∀ xs,SqT K H a xs->xs[i]?=some x,fun i H=>∃ xs,SqT K H a xs/\xs.length<=i⟩
def Itr (lo:Int) (n:Nat):It:=⟨fun i _=>i < n,fun i H x H'=>H'=H/\x=.int (lo+i),fun i _=>n<=i⟩
theorem xS {P:Program} {w:World} {K:Frag} {tg:Expr} (a it:Addr):Turn P w K tg (Itl K a) [it] it (fun i h=>h.IsListIter it a i) where
 mem:=by simp
 obj:=fun i h st b hb=>by
  have e:b=it:=by simpa using hb
  subst e;obtain ⟨o,e,c,d⟩:=st;exact ⟨o,e,fun v z=>by rw [d] at z;cases z⟩
 keep:=fun i h h' st k=>st.at fun o e=>k it (by simp) o e
 item:=by
  intro X hP hw hK hc i pins s σ H E I hf st hg;subst hP hw hK;obtain ⟨xs,x,hq,hx⟩:=hg;obtain ⟨its,rv,p,hz⟩:=I.list hq;obtain ⟨u,hu,ru⟩:=rv.get hx;obtain ⟨f0,f1,f2,f3,f4,f5⟩:=hf it (by simp);refine wpAny_pyNext_list_item st p.isList (x:=u) (by simpa using hu) fun h' st' sb=>?_;have I1:Inv X pins σ H { s with heap:=h' }:=I.turned (t':=s.toks) (fun b o hb e=>(sb.2 b hb).trans e) f0 f1 f3 f4 f5;obtain ⟨o,e,c,d⟩:=id st';exact ⟨u,rfl,aC5 (s:={ s with heap:=h' }) e c d (by decide) ⟨x,H,I1,ru,⟨rfl,fun ys hy=>by rw [I.list_inj hy hq];exact hx⟩,st',fun b hb=>(hf b hb).1⟩⟩
 done:=by
  intro X hP hw hK hc i pins s σ H E I hf st hg;subst hP hw hK;obtain ⟨xs,hq,hx⟩:=hg;obtain ⟨its,rv,p,hz⟩:=I.list hq;obtain ⟨f0,f1,f2,f3,f4,f5⟩:=hf it (by simp);have hl:=rv.length;exact wpAny_pyNext_list_end (I.ok.hd hc) st p.isList (by simp;omega) fun h' eb=>⟨rfl,I.turned (t':=s.toks) (fun b o hb e=>eb b o hb e) f0 f1 f3 f4 f5⟩
 self:=fun _ _ _ _ _ st h=>wpAny_pyIter_listiter st h
theorem tT {P:Program} {w:World} {K:Frag} {tg:Expr} (a it:Addr):Turn P w K tg (Itt K a) [it] it (fun i h=>h.IsTupleIter it a i) where
 mem:=by simp
 obj:=fun i h st b hb=>by
  have e:b=it:=by simpa using hb
  subst e;obtain ⟨o,e,c,d⟩:=st;exact ⟨o,e,fun v z=>by rw [d] at z;cases z⟩
 keep:=fun i h h' st k=>st.at fun o e=>k it (by simp) o e
 item:=by
  intro X hP hw hK hc i pins s σ H E I hf st hg;subst hP hw hK;obtain ⟨xs,x,hq,hx⟩:=hg;obtain ⟨its,rv,p,hz⟩:=I.tuple hq;obtain ⟨u,hu,ru⟩:=rv.get hx;obtain ⟨f0,f1,f2,f3,f4,f5⟩:=hf it (by simp);refine wpAny_pyNext_tuple_item st (show s.heap.IsTuple a its.toArray from p) (x:=u) (by simpa using hu) fun h' st' sb=>?_;have I1:Inv X pins σ H { s with heap:=h' }:=I.turned (t':=s.toks) (fun b o hb e=>(sb.2 b hb).trans e) f0 f1 f3 f4 f5;obtain ⟨o,e,c,d⟩:=id st';exact ⟨u,rfl,aC5 (s:={ s with heap:=h' }) e c d (by decide) ⟨x,H,I1,ru,⟨rfl,fun ys hy=>by rw [I.tuple_inj hy hq];exact hx⟩,st',fun b hb=>(hf b hb).1⟩⟩
 done:=by
  intro X hP hw hK hc i pins s σ H E I hf st hg;subst hP hw hK;obtain ⟨xs,hq,hx⟩:=hg;obtain ⟨its,rv,p,hz⟩:=I.tuple hq;obtain ⟨f0,f1,f2,f3,f4,f5⟩:=hf it (by simp);have hl:=rv.length;exact wpAny_pyNext_tuple_end (I.ok.hd hc) st (show s.heap.IsTuple a its.toArray from p) (by simp;omega) fun h' eb=>⟨rfl,I.turned (t':=s.toks) (fun b o hb e=>eb b o hb e) f0 f1 f3 f4 f5⟩
 self:=fun _ _ _ _ _ st h=>wpAny_pyIter_tupleiter st h
theorem tU {P:Program} {w:World} {K:Frag} {tg:Expr} (it:Addr) (lo:Int) (n:Nat):Turn P w K tg (Itr lo n) [it] it (fun i h=>IsRangeIter h it (lo+(i:Nat)*1) ((n:Int) - (i:Nat)) 1) where
 mem:=by simp
 obj:=fun i h st b hb=>by
  have e:b=it:=by simpa using hb
  subst e;exact ⟨_,st,fun v z=>by
   have z':Data.fields _=Data.cell v:=z;cases z'⟩
 keep:=fun i h h' st k=>k it (by simp) _ st
 item:=by
  intro X hP hw hK hc i pins s σ H E I hf st hg;subst hP hw hK;obtain ⟨f0,f1,f2,f3,f4,f5⟩:=hf it (by simp);have W:=Walks.range (prog:=X.prog) (w:=X.w) (I.ok.hd hc) it lo 1 n;refine W.item i s _ _ hg st fun v h' tk hv st' kk=>?_;obtain ⟨t,rfl⟩:=hv;have I1:Inv X pins σ H { s with heap:=h',toks:=tk }:=I.turned (fun b o hb e=>kk b o (by simpa using hb) e) f0 f1 f3 f4 f5;refine ⟨_,rfl,aC5 (s:={ s with heap:=h',toks:=tk }) (n:="range_iterator") st' rfl rfl (by decide) ⟨.int (lo+i),H,I1,⟨t,?_⟩,⟨rfl,rfl⟩,st',fun b hb=>(hf b hb).1⟩⟩;rw [Int.mul_one]
 done:=by
  intro X hP hw hK hc i pins s σ H E I hf st hg;subst hP hw hK;obtain ⟨f0,f1,f2,f3,f4,f5⟩:=hf it (by simp);exact wpAny_pyNext_range_end (I.ok.hd hc) st (by have:n<=i:=hg;omega) fun h' eb=>⟨rfl,I.turned (t':=s.toks) (fun b o hb e=>eb b o hb e) f0 f1 f3 f4 f5⟩
 self:=fun _ _ _ _ _ st h=>wpAny_pyIter_rangeiter st h
section
variable {X:Cx} {tg:Expr}
theorem rA {pins:List (Addr×Obj)} {σ:St} {H:Hp} {s:Shared} {R:It->Hp->Prop} {E:Value->Shared->Prop} {lo hi:Int} {t u v:Tok} {tk:Nat} (I:Inv X pins σ H s) (h1:-(2^62)<=lo) (h2:lo < 2^62) (h3:-(2^62)<=hi) (h4:hi < 2^62)
  (q:R (Itr lo (hi - lo).toNat) H):wpAny (model X.prog X.w) X.A (pyIter (.ref s.heap.objs.size)) (PIE X pins σ tg R) E { s with heap:=s.heap.push { cls:=.type "range",data:=.fields #[.int lo t,.int hi u,.int 1 v] },toks:=tk }:=by
 refine wpAny_pyIter_range (IsRange.new ..) (small_one h1 h2 h3 h4) ?_;have I1:Inv X pins σ H { s with heap:=s.heap.push { cls:=.type "range",data:=.fields #[.int lo t,.int hi u,.int 1 v] },toks:=tk }:=I.kept fun b o e=>Heap.get?_push_of_some _ e;refine ⟨(s.heap.push { cls:=.type "range",data:=.fields #[.int lo t,.int hi u,.int 1 v] }).objs.size,[(s.heap.push { cls:=.type "range",data:=.fields #[.int lo t,.int hi u,.int 1 v] }).objs.size],_,_,H,rfl,
  I1.kept (t':=tk) fun b o e=>Heap.get?_push_of_some _ e,tU _ lo (hi - lo).toNat,?_,fun b hb=>?_,q⟩
 ·have e1:lo+((0:Nat):Int)*1=lo:=by simp
  have e2:(((hi - lo).toNat:Nat):Int) - ((0:Nat):Int)=Builtin.Range.rangeSize lo hi 1:=by rw [rangeSize_one];split<;>omega
  show IsRangeIter _ _ (lo+((0:Nat):Int)*1) ((((hi - lo).toNat:Nat):Int) - ((0:Nat):Int)) 1;rw [e1,e2];exact Heap.get?_push_size _ rfl
 ·have e:b=(s.heap.push { cls:=.type "range",data:=.fields #[.int lo t,.int hi u,.int 1 v] }).objs.size:=by simpa using hb
  subst e;exact I1.fpOk (Nat.le_refl _) (I1.hok.fresh (Nat.le_refl _))
def cH0 (ta:TA):TI:=fun σ H R=>ta σ H fun vs H1=>∃ j:Int,vs=[.int j]/\-(2^62)<=j/\j < 2^62/\R (Itr 0 j.toNat) H1
def cH1 (ta:TA):TI:=fun σ H R=>ta σ H fun vs H1=>∃ i j:Int,vs=[.int i,.int j]/\(-(2^62)<=i/\i < 2^62/\-(2^62)<=j/\j < 2^62)/\R (Itr i (j - i).toNat) H1
theorem xT {a:Expr} {ta:TA} {p pos:Pos} (hg:Gl X "range") (hm:X.mg "range"=none) (ha:PA X [a] ta) (hs:starEach [a] X.env=[(false,eval a X.env)]:=by rfl):PI X tg (.Call (.Name "range" p) [a] [] pos) (cH0 ta):=by
 intro pins s σ H R I h;refine Call_ (dP I hg hm boot_range (PyProof.Rows.callWith_type1 (thn (ha pos pins s σ H _ I h) fun us s1 ⟨vs,H1,I1,r1,q1⟩=>?_) hs rfl));obtain ⟨j,e,q1,q2,q⟩:=q1;subst e;cases r1 with
 | cons r rr =>
  cases rr;obtain ⟨t,rfl⟩:=r;exact call_range_1 (rA I1 (by omega) (by omega) q1 q2 (by simpa using q))
theorem xU {a b:Expr} {ta:TA} {p pos:Pos} (hg:Gl X "range") (hm:X.mg "range"=none) (ha:PA X [a,b] ta) (hs:starEach [a,b] X.env=[(false,eval a X.env),(false,eval b X.env)]:=by rfl) (hs2:starEach [b] X.env=[(false,eval b X.env)]:=by rfl) :
  PI X tg (.Call (.Name "range" p) [a,b] [] pos) (cH1 ta):=by
 intro pins s σ H R I h;refine Call_ (dP I hg hm boot_range (PyProof.Rows.callWith_type1 (thn (ha pos pins s σ H _ I h) fun us s1 ⟨vs,H1,I1,r1,q1⟩=>?_) (by rw [hs,hs2]) (by rw [hs2];rfl)));obtain ⟨i,j,e,⟨q1,q2,q3,q4⟩,q⟩:=q1;subst e;cases r1 with
 | cons r rr =>
  cases rr with
  | cons r' rr =>
   cases rr;obtain ⟨t,rfl⟩:=r;obtain ⟨t',rfl⟩:=r';exact call_range_2 (rA I1 q1 q2 q3 q4 q)
def cX8 (wi:TI) (g:TG) (tb:TS):TS:=fun D σ H=>wi σ H fun J H1=>∃ W:Nat->Nat->St->Hp->Prop,(∃ m,W 0 m σ H1)/\∀ i m σ H,W i m σ H ->
 (J.stop i H/\D.nx σ H)\/(J.go i H/\∃ N:St->Hp->Prop,(∀ σ' H',N σ' H'->∃ m',m' < m/\W (i+1) m' σ' H')/\∀ x H',J.yld i H x H'->g x σ H' fun σ2 H2=>tb { D with nx:=N,ct:=N,bk:=D.nx } σ2 H2)
noncomputable def kO (fp:List Addr) (h:Heap):List (Addr×Obj):=fp.filterMap fun b=>(h.get? b).map fun o=>(b,o)
theorem fB {fp:List Addr} {h:Heap} {b:Addr} {o:Obj} (hb:b∈fp) (e:h.get? b=some o):(b,o)∈kO fp h:=List.mem_filterMap.mpr ⟨b,hb,by rw [e];rfl⟩
theorem xV {fp:List Addr} {h:Heap} {p:Addr×Obj} (hp:p∈kO fp h):p.1∈fp/\h.get? p.1=some p.2:=by
 obtain ⟨b,hb,e⟩:=List.mem_filterMap.mp hp;cases q:h.get? b with
 | none=>rw [q] at e;cases e
 | some o =>
  rw [q] at e;have e':(b,o)=p:=Option.some.inj e;subst e';exact ⟨hb,q⟩
theorem Inv.pinned {pins:List (Addr×Obj)} {σ:St} {H:Hp} {s:Shared} {fp:List Addr} (I:Inv X pins σ H s) (hf:∀ b∈fp,gR X pins H b) (ho:∀ b∈fp,∃ o,s.heap.get? b=some o/\∀ v,o.data≠.cell v):Inv X (pins++kO fp s.heap) σ H s :=
 I.pins_of fun p hp=>(List.mem_append.mp hp).elim (fun z=>I.pin p (List.mem_append_right _ z)) fun z=>by
  obtain ⟨hb,e⟩:=xV z;obtain ⟨f0,f1,f2,_⟩:=hf p.1 hb;obtain ⟨o,e',d⟩:=ho p.1 hb;rw [e] at e';cases e';exact ⟨e,f0,f1,f2,d⟩
theorem Inv.unpinned {pins pl:List (Addr×Obj)} {σ:St} {H:Hp} {s:Shared} (I:Inv X (pins++pl) σ H s):Inv X pins σ H s:=I.pins_of fun p hp=>I.pin p (List.mem_append_right _ (List.mem_append_left _ hp))
theorem bM7 {iter:Expr} {body:List Stmt} {wi:TI} {g:TG} {tb:TS} {pos:Pos} (hp:PassesOwn (model X.prog X.w) X.A X.env X.xe) (hc:X.calm=true) (hi:PI X tg iter wi) (hg:PG X tg g) (hb:PSs X body tb)
  (hs:∀ x,foldedSetIterable iter X.env x=pure x:=by intro _;rfl):PS X (.For tg iter body [] pos) (cX8 wi g tb):=by
 intro pins s σ H D I h;refine wpAny_For (thn (hi pins s σ H _ I h) fun v s1 h1=>thn h1 fun itv s2 h2=>?_) hs;obtain ⟨it,fp,tn,J,H2,e,I2,T,st2,f2,W,⟨m0,w0⟩,turn⟩:=h2;subst e;have stat:∀ {H':Hp},(∀ b∈fp,H' b=none)->∀ b∈fp,gR X pins H' b:=fun hn b hb=>⟨hn b hb,(f2 b hb).2⟩;refine codeAny_forLoop_any (fun n s'=>∃ i σ' H',Inv X pins σ' H' s'/\tn i s'.heap/\(∀ b∈fp,H' b=none)/\W i n σ' H') ?_ m0 ⟨0,σ,H2,I2,st2,fun b hb=>(f2 b hb).1,w0⟩;rintro n s3 ⟨i,σ3,H3,I3,st3,fr3,w3⟩;rcases turn i n σ3 H3 w3 with ⟨stop,qn⟩ | ⟨go,N,hN,step⟩
 ·refine wpAny_passesOwn hp (thn (T.done X rfl rfl rfl hc i pins s3 σ3 H3 X.xe I3 (stat fr3) st3 stop) fun r s4 ⟨hr,I4⟩=>?_);subst hr;exact wpAny_execs_nil ⟨σ3,H3,I4,qn⟩
 ·refine wpAny_passesOwn hp (thn (T.item X rfl rfl rfl hc i pins s3 σ3 H3 X.xe I3 (stat fr3) st3 go) fun r s4 ⟨u,hr,h4⟩=>?_);subst hr;refine wpAny_passesOwn hp (thn h4 fun _ s5 ⟨x,H5,I5,r5,y5,st5,fr5⟩=>?_);have I5':=I5.pinned (stat fr5) (T.obj _ _ st5);refine wpAny_passesOwn hp (thn (hg _ s5 σ3 H5 x u _ I5' r5 (step x H5 y5)) fun _ s6 ⟨σ6,H6,I6,q6⟩=>?_);refine wpAny_passesOwn hp (thn (hb _ s6 σ6 H6 _ I6 q6) fun f s7 q7=>?_);have again:∀ {σ7:St} {H7:Hp},Inv X (pins++kO fp s5.heap) σ7 H7 s7->N σ7 H7->∃ m,m < n/\∃ i σ' H',Inv X pins σ' H' s7/\tn i s7.heap/\(∀ b∈fp,H' b=none)/\W i m σ' H':=fun {σ7 H7} I7 n7=>by
   obtain ⟨m',hm,w7⟩:=hN σ7 H7 n7;refine ⟨m',hm,i+1,σ7,H7,I7.unpinned,T.keep _ _ _ st5 fun b hb o e=>(I7.pin (b,o) (List.mem_append_right _ (List.mem_append_right _ (fB hb e)))).1,fun b hb=>?_,w7⟩;obtain ⟨o,e,d⟩:=T.obj _ _ st5 b hb;exact (I7.pin (b,o) (List.mem_append_right _ (List.mem_append_right _ (fB hb e)))).2.1
  cases f with
  | next=>obtain ⟨σ7,H7,I7,n7⟩:=q7;exact again I7 n7
  | cont=>obtain ⟨σ7,H7,I7,n7⟩:=q7;exact again I7 n7
  | brk=>obtain ⟨σ7,H7,I7,q7⟩:=q7;exact ⟨σ7,H7,I7.unpinned,q7⟩
  | ret v=>obtain ⟨x7,σ7,H7,I7,r7,q7⟩:=q7;exact ⟨x7,σ7,H7,I7.unpinned,r7,q7⟩
end
abbrev R2:=V->V->Hp->VK->Prop
def OpR (X:Cx) (f:Value->Value->Sem Value) (r:R2):Prop :=
 ∀ (pins:List (Addr×Obj)) (s:Shared) (σ:St) (H:Hp) (x y:V) (v u:Value) (Q:VK),Inv X pins σ H s->RelV x v->RelV y u->r x y H Q ->
  wpAny (model X.prog X.w) X.A (f v u) (EP X pins σ Q) X.xe s
def UnR (X:Cx) (f:Value->Sem Value) (r:V->Hp->VK->Prop):Prop :=
 ∀ (pins:List (Addr×Obj)) (s:Shared) (σ:St) (H:Hp) (x:V) (v:Value) (Q:VK),Inv X pins σ H s->RelV x v->r x H Q ->
  wpAny (model X.prog X.w) X.A (f v) (EP X pins σ Q) X.xe s
def cN (X:Cx) (f:Value) (r:List V->Hp->VK->Prop):Prop :=
 ∀ (pins:List (Addr×Obj)) (s:Shared) (σ:St) (H:Hp) (xs:List V) (us:List Value) (Q:VK),Inv X pins σ H s->Vals xs us->r xs H Q ->
  wpAny (model X.prog X.w) X.A (call f us) (EP X pins σ Q) X.xe s
def tOp (r:R2) (ta tb:TE):TE:=fun σ H Q=>ta σ H fun x H1=>tb σ H1 fun y H2=>r x y H2 Q
def tUn (r:V->Hp->VK->Prop) (ta:TE):TE:=fun σ H Q=>ta σ H fun x H1=>r x H1 Q
noncomputable def rI (C:Int->Int->Prop) (g:Int->Int->V):R2:=fun x y H Q=>∃ i j,x=.int i/\y=.int j/\C i j/\Q (g i j) H
noncomputable def rI0 (g:Int->Int->V):R2:=fun x y H Q=>∃ i j,x=.int i/\y=.int j/\Q (g i j) H
noncomputable def rU (g:Int->V):V->Hp->VK->Prop:=fun x H Q=>∃ i,x=.int i/\Q (g i) H
section
variable {X:Cx} {a b c:Expr} {ta tb tc:TE} {pos:Pos}
theorem bM8 (ha:PE X a ta) (hb:PE X b tb) {pins:List (Addr×Obj)} {s:Shared} {σ:St} {H:Hp} {R:V->V->Hp->Prop} (I:Inv X pins σ H s)
  (h:ta σ H fun x H1=>tb σ H1 fun y H2=>R x y H2) {Q:Value->Shared->Prop} {f:Value->Value->Sem Value}
  (hf:∀ v u s2 x y H2,Inv X pins σ H2 s2->RelV x v->RelV y u->R x y H2->wpAny (model X.prog X.w) X.A (f v u) Q X.xe s2) :
  wpAny (model X.prog X.w) X.A (eval a X.env) (fun v s₁=>wpAny (model X.prog X.w) X.A (eval b X.env) (fun u s₂=>wpAny (model X.prog X.w) X.A (f v u) Q X.xe s₂) X.xe s₁) X.xe s:=by
 refine thn (ha pins s σ H _ I h) fun v s1 ⟨x,H1,I1,r1,q1⟩=>?_;refine thn (hb pins s1 σ H1 _ I1 q1) fun u s2 ⟨y,H2,I2,r2,q2⟩=>?_;exact hf v u s2 x y H2 I2 r1 r2 q2
theorem aC6 {op:Operator} {r:R2} (ho:OpR X (binaryOp op) r) (ha:PE X a ta) (hb:PE X b tb):PE X (.BinOp a op b pos) (tOp r ta tb):=by
 intro pins s σ H Q I h;exact wpAny_BinOp (bM8 ha hb I h fun v u s2 x y H2 I2 rx ry q=>ho pins s2 σ H2 x y v u Q I2 rx ry q)
theorem cH2 {op:UnaryOp} {r:V->Hp->VK->Prop} (ho:UnR X (unaryOp op) r) (ha:PE X a ta):PE X (.UnaryOp op a pos) (tUn r ta):=by
 intro pins s σ H Q I h;exact UnaryOp_ (thn (ha pins s σ H _ I h) fun v s1 ⟨x,H1,I1,r1,q1⟩=>ho pins s1 σ H1 x v Q I1 r1 q1)
theorem opI {f:Value->Value->Sem Value} {C:Int->Int->Prop} {g:Int->Int->Int}
  (rule:∀ (i j:Int) (t u:Tok) (s:Shared) (Q:Value->Shared->Prop) (E:Value->Shared->Prop),C i j->Q (.int (g i j) s.toks) { s with toks:=s.toks+1 }->wpAny (model X.prog X.w) X.A (f (.int i t) (.int j u)) Q E s) :
  OpR X f (rI C fun i j=>.int (g i j)):=by
 intro pins s σ H x y v u Q I rx ry h;obtain ⟨i,j,rfl,rfl,hc,q⟩:=h;obtain ⟨t,rfl⟩:=rx;obtain ⟨t',rfl⟩:=ry;exact rule i j t t' s _ _ hc ⟨.int (g i j),H,I.tok _,⟨_,rfl⟩,q⟩
theorem bM9 {f:Value->Value->Sem Value} {g:Int->Int->Int}
  (rule:∀ (i j:Int) (t u:Tok) (s:Shared) (Q:Value->Shared->Prop) (E:Value->Shared->Prop),Q (.int (g i j) s.toks) { s with toks:=s.toks+1 }->wpAny (model X.prog X.w) X.A (f (.int i t) (.int j u)) Q E s) :
  OpR X f (rI0 fun i j=>.int (g i j)):=by
 intro pins s σ H x y v u Q I rx ry h;obtain ⟨i,j,rfl,rfl,q⟩:=h;obtain ⟨t,rfl⟩:=rx;obtain ⟨t',rfl⟩:=ry;exact rule i j t t' s _ _ ⟨.int (g i j),H,I.tok _,⟨_,rfl⟩,q⟩
theorem aR5 {f:Value->Value->Sem Value} {g:Int->Int->Bool}
  (rule:∀ (i j:Int) (t u:Tok) (s:Shared) (Q:Value->Shared->Prop) (E:Value->Shared->Prop),Q (.bool (g i j)) s->wpAny (model X.prog X.w) X.A (f (.int i t) (.int j u)) Q E s) :
  OpR X f (rI0 fun i j=>.bl (g i j)):=by
 intro pins s σ H x y v u Q I rx ry h;obtain ⟨i,j,rfl,rfl,q⟩:=h;obtain ⟨t,rfl⟩:=rx;obtain ⟨t',rfl⟩:=ry;exact rule i j t t' s _ _ ⟨.bl (g i j),H,I,rfl,q⟩
def aR6 (i j:Int):Prop:=0<=j/\j<=1000000/\i.natAbs < 2^64
def CMul (i j:Int):Prop:=(-(2^64) < i/\i < 2^64)\/(-(2^64) < j/\j < 2^64)
theorem CMul.ok {i j:Int} (h:CMul i j):IntMulOk i j:=by
 rcases h with ⟨h1,h2⟩ | ⟨h1,h2⟩
 ·exact .of_left (intBits_le_64 h1 h2)
 ·exact .of_right (intBits_le_64 h1 h2)
theorem tV (k:Nat):(0:Int)<=2^k:=by
 rw [two_pow_cast];exact Int.natCast_nonneg _
theorem bN0:OpR X (binaryOp .Add) (rI0 fun i j=>.int (i+j)):=bM9 fun _ _ _ _ _ _ _ q=>add_int q
theorem bN1:OpR X (binaryOp .Sub) (rI0 fun i j=>.int (i - j)):=bM9 fun _ _ _ _ _ _ _ q=>sub_int q
theorem bN2:OpR X (binaryOp .Mult) (rI CMul fun i j=>.int (i*j)):=opI fun _ _ _ _ _ _ _ hc q=>mul_int q hc.ok
theorem bN3:OpR X (binaryOp .Mod) (rI (fun _ j=>0 < j) fun i j=>.int (i%j)):=opI fun i j _ _ _ _ _ hc q=>by
 have h1:(0:Int) < j:=hc;exact mod_int' (by omega) (by rw [Int.fmod_eq_emod_of_nonneg i (by omega)];exact q)
theorem bN4:OpR X (binaryOp .Pow) (rI aR6 fun i j=>.int (i^j.toNat)):=opI fun _ _ _ _ _ _ _ hc q=>pow_int_small hc.1 hc.2.1 hc.2.2 q
theorem bN5:OpR X (binaryOp .RShift) (rI (fun _ j=>0<=j) fun i j=>.int (i / 2^j.toNat)):=opI fun i j _ _ _ _ _ hc q =>
 rshift_int hc (by rw [Int.fdiv_eq_ediv_of_nonneg i (tV _)];exact q)
theorem bN6:OpR X (binaryOp .BitAnd) (rI0 fun i j=>.int (Builtin.bitAnd i j)):=bM9 fun _ _ _ _ _ _ _ q=>and_int q
theorem unI {f:Value->Sem Value} {g:Int->Int}
  (rule:∀ (i:Int) (t:Tok) (s:Shared) (Q:Value->Shared->Prop) (E:Value->Shared->Prop),Q (.int (g i) s.toks) { s with toks:=s.toks+1 }->wpAny (model X.prog X.w) X.A (f (.int i t)) Q E s) :
  UnR X f (rU fun i=>.int (g i)):=by
 intro pins s σ H x v Q I rx h;obtain ⟨i,rfl,q⟩:=h;obtain ⟨t,rfl⟩:=rx;exact rule i t s _ _ ⟨.int (g i),H,I.tok _,⟨_,rfl⟩,q⟩
theorem bN7:UnR X (unaryOp .USub) (rU fun i=>.int (-i)):=unI fun _ _ _ _ _ q=>neg_int q
end
section
variable {X:Cx} {a b c:Expr} {ta tb tc:TE} {pos:Pos}
theorem cH3:OpR X (compareOp .Lt) (rI0 fun i j=>.bl (decide (i < j))):=aR5 fun _ _ _ _ _ _ _ q=>lt_int q
theorem cH4:OpR X (compareOp .LtE) (rI0 fun i j=>.bl (decide (i<=j))):=aR5 fun _ _ _ _ _ _ _ q=>le_int q
theorem cH5:OpR X (compareOp .Gt) (rI0 fun i j=>.bl (decide (j < i))):=aR5 fun _ _ _ _ _ _ _ q=>gt_int q
theorem cH6:OpR X (compareOp .GtE) (rI0 fun i j=>.bl (decide (j<=i))):=aR5 fun _ _ _ _ _ _ _ q=>ge_int q
theorem vX {op:CmpOp} {r:R2} (ho:OpR X (compareOp op) r) (ha:PE X a ta) (hb:PE X b tb) (hm:behindInMarks op b=false):PE X (.Compare a [op] [b] pos) (tOp r ta tb):=by
 intro pins s σ H Q I h;exact wpAny_Compare1 (bM8 ha hb I h fun v u s2 x y H2 I2 rx ry q=>ho pins s2 σ H2 x y v u Q I2 rx ry q) hm
def bE5 (t:TE):TT:=fun σ H Q=>t σ H fun x H'=>∃ k,x=.bl k/\Q k H'
theorem vY {op:CmpOp} {r:R2} (ho:OpR X (compareOp op) r) (ha:PE X a ta) (hb:PE X b tb) (hm:behindInMarks op b=false):PT X (.Compare a [op] [b] pos) (bE5 (tOp r ta tb)):=by
 intro pins s σ H Q I h;refine wpAny_isTrue_Compare1 (thn (ha pins s σ H _ I h) fun v s1 ⟨x,H1,I1,r1,q1⟩=>thn (hb pins s1 σ H1 _ I1 q1) fun u s2 ⟨y,H2,I2,r2,q2⟩ =>
  thn (ho pins s2 σ H2 x y v u _ I2 r1 r2 q2) fun c s3 ⟨z,H3,I3,r3,k,e,q3⟩=>?_) hm
 subst e;cases r3;exact wpAny_truthy_bool ⟨H3,I3,q3⟩
def tW (r r':R2) (ta tb tc:TE):TE:=fun σ H Q=>ta σ H fun x H1=>tb σ H1 fun y H2=>r x y H2 fun z H3=>∃ k,z=.bl k /\
 (if k=true then tc σ H3 fun w' H4=>r' y w' H4 Q else Q (.bl false) H3)
theorem aC7 {op op':CmpOp} {r r':R2} (ho:OpR X (compareOp op) r) (ho':OpR X (compareOp op') r') (ha:PE X a ta) (hb:PE X b tb) (hc:PE X c tc)
  (hm:lastMarks [op,op'] [b,c]=false:=by with_unfolding_all rfl):PE X (.Compare a [op,op'] [b,c] pos) (tW r r' ta tb tc):=by
 intro pins s σ H Q I h;refine Compare_chain (thn (ha pins s σ H _ I h) fun v s1 ⟨x,H1,I1,r1,q1⟩=>chain_link (thn (hb pins s1 σ H1 _ I1 q1) fun u s2 ⟨y,H2,I2,r2,q2⟩ =>
  thn (ho pins s2 σ H2 x y v u _ I2 r1 r2 q2) fun d s3 ⟨z,H3,I3,r3,k,e,q3⟩=>?_)) hm
 subst e;cases r3;refine wpAny_truthy_bool ?_;cases k with
 | false=>exact ite_ff ⟨.bl false,H3,I3,rfl,q3⟩
 | true=>exact ite_tt (chain_last (thn (hc pins s3 σ H3 _ I3 q3) fun w' s4 ⟨z',H4,I4,r4,q4⟩=>ho' pins s4 σ H4 y z' u w' Q I4 r2 r4 q4))
theorem aC8 {op op':CmpOp} {r r':R2} (ho:OpR X (compareOp op) r) (ho':OpR X (compareOp op') r') (ha:PE X a ta) (hb:PE X b tb) (hc:PE X c tc)
  (hm:lastMarks [op,op'] [b,c]=false:=by with_unfolding_all rfl):PT X (.Compare a [op,op'] [b,c] pos) (bE5 (tW r r' ta tb tc)):=by
 intro pins s σ H Q I h;refine isTrue_chain (thn (ha pins s σ H _ I h) fun v s1 ⟨x,H1,I1,r1,q1⟩=>test_link (thn (hb pins s1 σ H1 _ I1 q1) fun u s2 ⟨y,H2,I2,r2,q2⟩ =>
  thn (ho pins s2 σ H2 x y v u _ I2 r1 r2 q2) fun d s3 ⟨z,H3,I3,r3,k,e,q3⟩=>?_)) hm
 subst e;cases r3;refine wpAny_truthy_bool ?_;cases k with
 | false =>
  obtain ⟨k',e',q'⟩:=q3;cases e';exact ite_ff ⟨H3,I3,q'⟩
 | true =>
  refine ite_tt (test_last (thn (hc pins s3 σ H3 _ I3 q3) fun w' s4 ⟨z',H4,I4,r4,q4⟩=>thn (ho' pins s4 σ H4 y z' u w' _ I4 r2 r4 q4) fun d' s5 ⟨z2,H5,I5,r5,k2,e2,q5⟩=>?_));subst e2;cases r5;exact wpAny_truthy_bool ⟨H5,I5,q5⟩
theorem oU:(sizeLine:Nat) < 2^63:=by rw [sizeLine_eq];decide
theorem jK {x:V} {us:List Value} (r:Vals [x] us):∃ u,us=[u]/\RelV x u:=by
 cases r with
 | cons r1 r2=>cases r2;exact ⟨_,rfl,r1⟩
end
structure ObjM (h:Heap) (x dx C:Addr) (mA:Str->Option Value):Prop where
 obj:h.get? x=some (PySem.W.instObj C dx)
 ns:h.Ns1 dx mA
 ne:dx≠x
theorem xW {h:Heap} {dx:Addr} {mA:Str->Option Value} (n:h.Ns1 dx mA):∃ od,h.get? dx=some od/\∀ name,PySem.W.lookIn name od=some (mA name):=by
 obtain ⟨o,es,ep,ho,hd,hk,_,hm⟩:=n;refine ⟨o,ho,fun name=>?_⟩;have e:=hm name;unfold nsFind findBy at e;rw [<- Array.find?_toList] at e;unfold PySem.W.lookIn;rw [hd];dsimp only;split
 ·rename_i y q;rw [q] at e;exact congrArg some e
 ·rename_i q;rw [q] at e;have a:es.toList.any (·.refKey)=false:=by
   rw [List.any_eq_false];intro y hy;obtain ⟨z,t,hkey⟩:=hk y (Array.mem_toList_iff.mp hy);simp [DictEntry.refKey,hkey]
  have a':¬ es.toList.any (·.refKey)=true:=by rw [a];exact Bool.false_ne_true
  rw [if_neg a'];exact congrArg some e
theorem ObjM.look {h:Heap} {x dx C:Addr} {mA:Str->Option Value} (I:ObjM h x dx C mA):∃ od,PySem.W.InstAt h x (PySem.W.instObj C dx) C (some od)/\∀ name,PySem.W.lookIn name od=some (mA name) :=
 let ⟨od,ho,hl⟩:=xW I.ns
 ⟨od,⟨I.obj,rfl,rfl,ho⟩,hl⟩
section
variable {prog:Program} {w:World} {A:Around} {E:Value->Shared->Prop} {s:Shared} {K:Frag} {x dx C f:Addr} {mA:Str->Option Value} {name:Str} {v:Value}
theorem aR7 {expr:Bool} {Q:Value->Shared->Prop} (X:K.In s.heap) (I:ObjM s.heap x dx C mA) (hg:PySem.W.plainGet K C name=true) (hh:PySem.W.hasDictIn K C=true)
  (ha:PySem.W.findIn K (.ref C) name=some none) (hv:mA name=some v) (hv':PySem.W.handedIn v=true) (h:Q v { s with toks:=s.toks+1 }) :
  wpAny (model prog w) A (getAttr (.ref x) name expr) Q E s:=by
 obtain ⟨od,J,hl⟩:=I.look;exact PySem.W.get_value X J (PySem.W.plainGet_of hg).1 (PySem.W.findObj_own hh ha rfl (by rw [hl,hv])) hv' h
theorem aC9 {pl:Sem Bool} {Q:Value×List Value->Shared->Prop} (X:K.In s.heap) (I:ObjM s.heap x dx C mA) (hg:PySem.W.plainGet K C name=true)
  (hf:PySem.W.findIn K (.ref C) name=some (some (.ref f))) (ht:PySem.W.isFn K (.ref f)=true) (hv:mA name=none) (h:Q (.ref f,[.ref x]) s) :
  wpAny (model prog w) A (getMethod (.ref x) name pl) Q E s:=by
 obtain ⟨od,J,hl⟩:=I.look;exact PySem.W.method_fn X J (PySem.W.plainGet_of hg).1 (PySem.W.plainGet_of hg).2 hf (beq_iff_eq.mp ht) (by show (PySem.W.lookIn name od).map (·.isSome)=some false;rw [hl,hv];rfl) h
theorem aR8 {ns:List Str} {Q:Unit->Shared->Prop} (X:K.In s.heap) (I:ObjM s.heap x dx C mA)
  (hs:PySem.W.findIn K (.ref C) "__setattr__"=some (some (.builtin "object.__setattr__"))) (hp:PySem.W.plainOver K C=true) (ht:PySem.W.takerIn K C name=some none) (hh:PySem.W.hasDictIn K C=true)
  (hw:PySem.Within mA ns) (hsz:ns.length<=sizeLine)
  (h:∀ h',ObjM h' x dx C (fun y=>if y=name then some v else mA y)->Heap.SameBut dx s.heap h'->Q () { s with heap:=h',toks:=s.toks+2 }) :
  wpAny (model prog w) A (setAttr (.ref x) name v) Q E s:=by
 obtain ⟨od,J,hl⟩:=I.look;refine PySem.W.set_plain X J hs (PySem.W.osa_open (s:={ s with toks:=s.toks+1 }) (r:=none) X J hp ht fun b=>?_);obtain ⟨cd,hc,hd'⟩:=PySem.W.any_some hh;have hx:s.heap.get? x=some ⟨.ref C,some dx,.plain,#[]⟩:=I.obj;refine wpAny_bind (wpAny_pure (wpAny_bind (wpAny_bind (wpAny_loadPart hx (wpAny_bind (PySem.W.Looks.here (s:={ s with toks:=s.toks+1 }) (PySem.W.looks_clsIn X hc) ?_))))));rw [hd'];refine wpAny_pure (a:=some dx) (wpAny_bind (wpAny_pure (wpAny_bind ?_)));refine wpAny_nsSet1 (s:={ s with toks:=s.toks+1 }) I.ns fun h' hn2 hs2=>?_;obtain ⟨oD,esD,epD,hoD,hdD,hcD⟩:=hn2.count (PySem.Within.cons name v hw);refine wpAny_bind (wpAny_lookBehind hoD (by rw [hdD];exact pastItsLine_dict (Nat.le_trans hcD (by rw [List.length_cons];omega))) ?_);exact wpAny_pure (h _ ⟨(hs2.2 _ (Ne.symm I.ne)).trans I.obj,hn2,I.ne⟩ hs2)
theorem aD0 {R:Result->Shared->Prop} {vs:List Value} {kw:List (Str×Value)} (X:K.In s.heap) (hm:PySem.W.makesIn K C=true)
  (hi:PySem.W.findIn K (.ref C) "__init__"=some (some (.ref f))) (hf:PySem.W.typeIn K (.ref f)=some (.type "function"))
  (h:codeAny (model prog w) (A.under (.builtin "type.__call__" ⟨.ref C::vs,kw⟩)) (.call (.ref f) ⟨.ref (s.heap.objs.size+1)::vs,kw⟩) (PySem.W.InitBack (s.heap.objs.size+1) R)
   { s with heap:=(s.heap.push PySem.W.emptyDict).push (PySem.W.instObj C s.heap.objs.size) }) :
  codeAny (model prog w) A (.call (.ref C) ⟨vs,kw⟩) R s:=by
 obtain ⟨hh,g,d,t,os⟩:=s;exact PySem.W.make_core (PySem.W.makes_of X hm) (PySem.W.looks_findIn X hi) (fun self=>PySem.W.bind_fn X self hf) (.inl rfl) h
end
noncomputable def fQ (f:Str) (v:V):List (Str×V)->List (Str×V)
 | []=>[(f,v)]
 | (g,x)::r=>if g=f then (g,v)::r else (g,x)::fQ f v r
theorem jL (f g:Str) (v:V):∀ fs:List (Str×V),(fQ f v fs).lookup g=if g=f then some v else fs.lookup g
 | []=>by
  show List.lookup g [(f,v)]=_
  by_cases h:g=f
  ·have hb:(g==f)=true:=beq_iff_eq.mpr h;simp only [List.lookup,hb,if_pos h]
  ·have hb:(g==f)=false:=beq_eq_false_iff_ne.mpr h;simp only [List.lookup,hb,if_neg h]
 | (k,x)::r=>by
  have ih:=jL f g v r;rw [show fQ f v ((k,x)::r)=(if k=f then (k,v)::r else (k,x)::fQ f v r) from rfl]
  by_cases hk:k=f
  ·rw [if_pos hk]
   by_cases h:g=k
   ·have hb:(g==k)=true:=beq_iff_eq.mpr h;simp only [List.lookup,hb,if_pos (h.trans hk)]
   ·have hb:(g==k)=false:=beq_eq_false_iff_ne.mpr h;simp only [List.lookup,hb,if_neg (fun e:g=f=>h (e.trans hk.symm))]
  ·rw [if_neg hk]
   by_cases h:g=k
   ·have hb:(g==k)=true:=beq_iff_eq.mpr h;simp only [List.lookup,hb,if_neg (fun e:g=f=>hk (h.symm.trans e))]
   ·have hb:(g==k)=false:=beq_eq_false_iff_ne.mpr h;simp only [List.lookup,hb];exact ih
theorem iS (f:Str) (v:V):∀ fs:List (Str×V),f∈(fQ f v fs).map (·.1)/\∀ g,g∈fs.map (·.1)->g∈(fQ f v fs).map (·.1)
 | []=>⟨by simp [fQ],fun g h=>by simp at h⟩
 | (k,x)::r=>by
  obtain ⟨i1,i2⟩:=iS f v r;rw [show fQ f v ((k,x)::r)=(if k=f then (k,v)::r else (k,x)::fQ f v r) from rfl]
  by_cases hk:k=f
  ·rw [if_pos hk];subst hk;exact ⟨by simp,fun g h=>by simpa using h⟩
  ·rw [if_neg hk];refine ⟨?_,fun g h=>?_⟩
   ·rw [List.map_cons];exact List.mem_cons_of_mem _ i1
   ·rw [List.map_cons] at h ⊢;rcases List.mem_cons.mp h with e | e
    ·exact List.mem_cons.mpr (.inl e)
    ·exact List.mem_cons_of_mem _ (i2 g e)
theorem jM (f:Str) (v:V):∀ fs:List (Str×V),(fQ f v fs).length<=fs.length+1
 | []=>by simp [fQ]
 | (k,x)::r=>by
  have ih:=jM f v r;rw [show fQ f v ((k,x)::r)=(if k=f then (k,v)::r else (k,x)::fQ f v r) from rfl]
  by_cases hk:k=f
  ·rw [if_pos hk,List.length_cons,List.length_cons];omega
  ·rw [if_neg hk,List.length_cons,List.length_cons];omega
theorem RelO.some_of {v:V} {o:Option Value} (r:RelO (some v) o):∃ u,o=some u/\RelV v u:=by
 cases o with
 | none=>exact (show False from r).elim
 | some u=>exact ⟨u,rfl,r⟩
theorem RelO.none_of {o:Option Value} (r:RelO none o):o=none:=by
 cases o with
 | none=>rfl
 | some u=>exact (show False from r).elim
theorem xX {v:V} {u:Value} (r:RelV v u):PySem.W.handedIn u=true:=by
 cases v with
 | non=>cases (show u=Value.none from r);rfl
 | bl b=>cases (show u=Value.bool b from r);rfl
 | int i=>obtain ⟨t,e⟩:=(show ∃ t,u=Value.int i t from r);cases e;rfl
 | str x=>obtain ⟨t,e⟩:=(show ∃ t,u=Value.str x t from r);cases e;rfl
 | byt b=>obtain ⟨t,e⟩:=(show ∃ t,u=Value.bytes b t from r);cases e;rfl
 | flt b=>obtain ⟨t,e⟩:=(show ∃ t,u=Value.float b t from r);cases e;rfl
 | ref a=>cases (show u=Value.ref a from r);rfl
 | ty n=>cases (show u=Value.type n from r);rfl
section
variable {P:Program} {w:World} {H H':Hp} {h h':Heap} {a C dx:Addr} {fs fs':List (Str×V)}
theorem oV (hok:HOk P w H h) (e:H a=some (.ins C dx fs)):∃ mA,ObjM h a dx C mA/\(∀ f,RelO (fs.lookup f) (mA f))/\PySem.Within mA (fs.map (·.1))/\fs.length<=1000/\H dx=some (.own a):=by
 obtain ⟨d,z,ne,ob,mA,n,r,q⟩:=(show ObjOk P w H h a (.ins C dx fs) from hok a _ e);exact ⟨mA,⟨ob,n,ne⟩,r,q,z,d⟩
end
structure Cls (K:Frag) (C:Addr):Prop where
 pg:PySem.W.plainGet K C Str.empty=true
 hd:PySem.W.hasDictIn K C=true
 po:PySem.W.plainOver K C=true
 sa:PySem.W.findIn K (.ref C) "__setattr__"=some (some (.builtin "object.__setattr__"))
theorem Cls.get {K:Frag} {C:Addr} (c:Cls K C) (f:Str):PySem.W.plainGet K C f=true:=c.pg
def NoAttr (K:Frag) (C:Addr) (f:Str):Prop:=PySem.W.findIn K (.ref C) f=some none
theorem NoAttr.taker {K:Frag} {C:Addr} {f:Str} (n:NoAttr K C f):PySem.W.takerIn K C f=some none:=by
 unfold PySem.W.takerIn;rw [show PySem.W.findIn K (.ref C) f=some none from n];rfl
structure Meth (K:Frag) (C:Addr) (m:Str) (f:Addr):Prop where
 at_:PySem.W.findIn K (.ref C) m=some (some (.ref f))
 fn:PySem.W.isFn K (.ref f)=true
 kp:PySem.W.keepIn K (.ref f)=true
section
variable {X:Cx} {pins:List (Addr×Obj)} {σ:St} {H:Hp} {s:Shared} {a C dx:Addr} {fs:List (Str×V)} {f:Str} {v:V} {A:Around} {E:Value->Shared->Prop}
theorem tX {b:Bool} {Q:Value->Shared->Prop} (I:Inv X pins σ H s) (e:H a=some (.ins C dx fs)) (c:Cls X.K C) (n:NoAttr X.K C f) (l:fs.lookup f=some v)
  (h:∀ u s',Inv X pins σ H s'->RelV v u->Q u s'):wpAny (model X.prog X.w) A (getAttr (.ref a) f b) Q E s:=by
 obtain ⟨mA,O,r,_,_,_⟩:=oV I.hok e;obtain ⟨u,hu,ru⟩:=RelO.some_of (v:=v) (o:=mA f) (by rw [<- l];exact r f);exact aR7 I.kIn O (c.get f) c.hd n hu (xX ru) (h u _ (I.tok _) ru)
theorem tY {m:Str} {g:Addr} {pl:Sem Bool} {Q:Value×List Value->Shared->Prop} (I:Inv X pins σ H s) (e:H a=some (.ins C dx fs)) (c:Cls X.K C) (k:Meth X.K C m g) (l:fs.lookup m=none)
  (h:Q (.ref g,[.ref a]) s):wpAny (model X.prog X.w) A (getMethod (.ref a) m pl) Q E s:=by
 obtain ⟨mA,O,r,_,_,_⟩:=oV I.hok e;have hn:mA m=none:=RelO.none_of (by rw [<- l];exact r m);exact aC9 I.kIn O (c.get m) k.at_ k.fn hn h
theorem tZ {y:V} {u:Value} {Q:Unit->Shared->Prop} (I:Inv X pins σ H s) (e:H a=some (.ins C dx fs)) (c:Cls X.K C) (n:NoAttr X.K C f) (hl:fs.length < 1000) (ry:RelV y u)
  (h:∀ s',Inv X pins σ (upd H a (.ins C dx (fQ f y fs))) s'->Q () s'):wpAny (model X.prog X.w) A (setAttr (.ref a) f u) Q E s:=by
 obtain ⟨mA,O,r,wi,_,ho⟩:=oV I.hok e;have hz:(fs.map (·.1)).length<=sizeLine:=by rw [List.length_map,sizeLine_eq];omega
 refine aR8 I.kIn O c.sa c.po n.taker c.hd wi hz fun h' O' sb=>h _ ?_;have hd:∃ o,h'.get? dx=some o:=let ⟨o,_,_,e',_⟩:=O'.ns;⟨o,e'⟩
 refine I.write (x:=a) (e:=dx) (by rw [e];exact True.intro) (.inr ho) (fun b q hb z=>(sb.2 b hb).trans z) hd ?_;refine ⟨by rw [aJ O.ne];exact ho,?_,O.ne,O'.obj,_,O'.ns,fun g=>?_,fun g hg=>?_⟩
 ·have:=jM f y fs;omega
 ·show RelO ((fQ f y fs).lookup g) (if g=f then some u else mA g);rw [jL]
  by_cases q:g=f
  ·rw [if_pos q,if_pos q];exact ry
  ·rw [if_neg q,if_neg q];exact r g
 ·by_cases q:g=f
  ·rw [q];exact (iS f y fs).1
  ·refine (iS f y fs).2 g (wi g fun z=>hg ?_);show (if g=f then some u else mA g)=none;rw [if_neg q];exact z
theorem Inv.made (I:Inv X pins σ H s):Inv X pins σ (upd (upd H s.heap.objs.size (.own (s.heap.objs.size+1))) (s.heap.objs.size+1) (.ins C s.heap.objs.size []))
  { s with heap:=(s.heap.push PySem.W.emptyDict).push (PySem.W.instObj C s.heap.objs.size) }:=by
 have e1:(s.heap.push PySem.W.emptyDict).get? s.heap.objs.size=some PySem.W.emptyDict:=Heap.get?_push_size s.heap rfl;have e2:((s.heap.push PySem.W.emptyDict).push (PySem.W.instObj C s.heap.objs.size)).get? (s.heap.objs.size+1)=some (PySem.W.instObj C s.heap.objs.size):=by
  have:=Heap.get?_push_size (s.heap.push PySem.W.emptyDict) (o:=PySem.W.instObj C s.heap.objs.size) rfl
  rwa [Heap.size_push] at this
 have e3:(s.heap.push PySem.W.emptyDict).Ns s.heap.objs.size (fun _=>none):=⟨PySem.W.emptyDict,#[],_,e1,rfl,(fun e he=>absurd he (by simp)),fun _=>rfl⟩;have I1:=I.laid (a:=s.heap.objs.size) (o:=.own (s.heap.objs.size+1)) (h':=s.heap.push PySem.W.emptyDict) (t':=s.toks) (fun b u q=>Heap.get?_push_of_some _ q) (Nat.le_refl _) ⟨_,e1⟩;refine I1.laid (a:=s.heap.objs.size+1) (o:=.ins C s.heap.objs.size []) (t':=s.toks) (fun b u q=>Heap.get?_push_of_some _ q) (Nat.le_of_eq (Heap.size_push _ _)) ?_;have ne:s.heap.objs.size≠s.heap.objs.size+1:=Nat.ne_of_lt (Nat.lt_succ_self _);refine ⟨by rw [aJ ne,aR],Nat.zero_le _,ne,e2,fun _=>none,(Heap.Ns1.of_empty e3).at fun o q=>Heap.get?_push_of_some _ q,fun _=>True.intro,fun y hy=>absurd rfl hy⟩
theorem aR9 {prog:Program} {w:World} {env:Env} {e:Expr} {f:Str} {pos:Pos} {s:Shared} {Q:Value->Shared->Prop} (hb:attributeBase e f env (eval e env)=eval e env)
  (h:wpAny (model prog w) A (eval e env) (fun o s₁=>wpAny (model prog w) A (getAttr o f true) Q E s₁) E s):wpAny (model prog w) A (eval (.Attribute e f pos) env) Q E s :=
 Attribute_any_ h (by rw [arm_eval_Attribute,hb])
end
def cX9 (K:Frag) (ta:TE) (f:Str):TE:=fun σ H Q=>ta σ H fun x H1=>∃ a C dx fs v,x=.ref a/\H1 a=some (.ins C dx fs)/\Cls K C/\NoAttr K C f/\fs.lookup f=some v/\Q v H1
def cY0 (K:Frag) (ta tv:TE) (f:Str):TS:=fun D σ H=>tv σ H fun y H1=>ta σ H1 fun x H2=>∃ a C dx fs,x=.ref a/\H2 a=some (.ins C dx fs)/\Cls K C/\NoAttr K C f/\fs.length < 1000 /\
 D.nx σ (upd H2 a (.ins C dx (fQ f y fs)))
section
variable {X:Cx} {o e value:Expr} {f:Str} {pos pos' tpos:Pos} {ta tv:TE}
theorem bN8 (he:PE X e ta) (hb:attributeBase e f X.env (eval e X.env)=eval e X.env):PE X (.Attribute e f pos) (cX9 X.K ta f):=by
 intro pins s σ H Q I h;refine aR9 hb (thn (he pins s σ H _ I h) fun u s1 ⟨x,H1,I1,rx,a,C,dx,fs,v,ex,ea,c,n,l,q⟩=>?_);subst ex;obtain rfl:u=Value.ref a:=rx;exact tX I1 ea c n l fun u' s2 I2 ru=>⟨v,H1,I2,ru,q⟩
theorem bN9 (ha:PE X o ta) (hv:PE X value tv) (hs:swapsWith value (some (.Attribute o f pos')) pos.line X.env=pure false):PS X (.Assign [.Attribute o f pos'] value pos) (cY0 X.K ta tv f):=by
 intro pins s σ H D I h;refine plainObj_wpAny_Assign_Attribute (thn (hv pins s σ H _ I h) fun u s1 ⟨y,H1,I1,ry,q⟩=>thn (ha pins s1 σ H1 _ I1 q) fun ov s2 ⟨x,H2,I2,rx,a,C,dx,fs,ex,ea,c,n,l,q2⟩=>?_) hs;subst ex;obtain rfl:ov=Value.ref a:=rx;exact tZ I2 ea c n l ry fun s3 I3=>⟨σ,_,I3,q2⟩
end
section
variable {X:Cx} {pins:List (Addr×Obj)} {σ:St} {H:Hp} {s:Shared} {A:Around} {E:Value->Shared->Prop} {Q:Value->Shared->Prop} {c:Value} {b:Bool}
end
structure Room (k:Nat) (A:Around):Prop where
 hd:A.handled=none
 dp:A.depth+3*k+5 < recursionLimit
 un:A.units+16*k+200 < cLine
theorem Room.mono {j k:Nat} {A:Around} (r:Room k A) (h:j<=k):Room j A:=⟨r.hd,by have:=r.dp;omega,by have:=r.un;omega⟩
theorem Room.deeper {k:Nat} {A:Around} (r:Room (k+1) A) (env:Env):Room k (A.deeper env) :=
 ⟨r.hd,by have:=r.dp;show A.depth+1+3*k+5 < _;omega,by have:=r.un;show A.units+3+16*k+200 < _;omega⟩
theorem uA {A:Around} {C:Addr} {us:List Value} {kw:List (Str×Value)}:(A.under (.builtin "type.__call__" ⟨.ref C::us,kw⟩)).depth=A.depth+1:=by
 first | rfl | simp [Around.under,Code.weight,Code.isCreation,Code.isGuard,Code.isCaller,Code.frames,Code.isFrame,guardIds]
theorem uB {A:Around} {C:Addr} {us:List Value} {kw:List (Str×Value)}:(A.under (.builtin "type.__call__" ⟨.ref C::us,kw⟩)).units=A.units+1:=by
 first | rfl | simp [Around.under,Code.cUnits,Code.frames,Code.isFrame]
theorem Room.make {k:Nat} {A:Around} (r:Room (k+1) A) (C:Addr) (us:List Value) (kw:List (Str×Value)):Room k (A.under (.builtin "type.__call__" ⟨.ref C::us,kw⟩)) :=
 ⟨r.hd,by have:=r.dp;rw [uA];omega,by have:=r.un;rw [uB];omega⟩
theorem Room.depth {k:Nat} {A:Around} (r:Room k A):A.depth < recursionLimit:=by have:=r.dp;omega
theorem Room.units {k:Nat} {A:Around} (r:Room k A):A.units+64 < cLine:=by have:=r.un;omega
def cH7:TA:=fun _ H Q=>Q [] H
def aD1 (ta:TE) (tr:TA):TA:=fun σ H Q=>ta σ H fun x H1=>tr σ H1 fun xs H2=>Q (x::xs) H2
section
variable {X:Cx} {e:Expr} {es:List Expr} {te:TE} {t:TA} {pos:Pos}
theorem uC:PA X [] cH7:=fun _ _ _ _ H Q I h=>Calls.spliced_nil ⟨[],H,I,.nil,h⟩
theorem kG (ha:PE X e te) (hr:PA X es t) (hs:starEach (e::es) X.env=(false,eval e X.env)::starEach es X.env:=by rfl):PA X (e::es) (aD1 te t):=by
 intro pos pins s σ H Q I h;rw [hs];show wpAny _ _ (spliced ((false,eval e X.env)::backTo pos (starEach es X.env))) _ _ s;refine Calls.spliced_cons (thn (ha pins s σ H _ I h) fun u s1 ⟨x,H1,I1,r1,q1⟩=>?_);exact thn (hr pos pins s1 σ H1 _ I1 q1) fun us s2 ⟨xs,H2,I2,r2,q2⟩=>⟨x::xs,H2,I2,.cons r1 r2,q2⟩
def cY1 (t:TA):TE:=fun σ H Q=>t σ H fun xs H1=>xs.length<=sizeLine/\∀ p,H1 p=none->Q (.ref p) (upd H1 p (.tup xs))
def cY2 (t:TA):TE:=fun σ H Q=>t σ H fun xs H1=>xs.length<=sizeLine/\∀ p,H1 p=none->Q (.ref p) (upd H1 p (.lst xs))
theorem bO0 {x1} (h:PA X es t):PE X (.Tuple es x1 pos) (cY1 t):=by
 intro pins s σ H Q I hq;refine wpAny_Tuple_spliced (thn (h pos pins s σ H _ I hq) fun us s1 ⟨xs,H1,I1,r,z,q⟩=>⟨by rw [<- r.length];exact z,?_⟩);have hf:H1 s1.heap.objs.size=none:=I1.hok.fresh (Nat.le_refl _);refine ⟨.ref s1.heap.objs.size,upd H1 s1.heap.objs.size (.tup xs),I1.laid (t':=s1.toks) (fun b u e=>Heap.get?_push_of_some _ e) (Nat.le_refl _) ?_,rfl,q _ hf⟩;exact ⟨z,us,r,⟨_,Heap.get?_push_size _ rfl,rfl,⟨_,rfl⟩,rfl⟩⟩
theorem bO1 (h:PA X es t):PE X (.List es pos) (cY2 t):=by
 intro pins s σ H Q I hq;refine wpAny_List_spliced (thn (h pos pins s σ H _ I hq) fun us s1 ⟨xs,H1,I1,r,z,q⟩=>⟨by rw [<- r.length];exact z,?_⟩);have hf:H1 s1.heap.objs.size=none:=I1.hok.fresh (Nat.le_refl _);refine ⟨.ref s1.heap.objs.size,upd H1 s1.heap.objs.size (.lst xs),I1.laid (t':=s1.toks) (fun b u e=>Heap.get?_push_of_some _ e) (Nat.le_refl _) ?_,rfl,q _ hf⟩;exact ⟨z,us,0,r,Heap.get?_push_size _ rfl⟩
end
abbrev Sp:=List V->Hp->VK->XK->Prop
abbrev CXT:=List Env->Hp->Shared->XK->Value->Shared->Prop
structure Env0 (P:Program) (w:World) (K:Frag) (mg:Str->Option Value) (base:Heap) (A:Around) (outer:List Env) (s:Shared) (H:Hp):Prop where
 frames:A.frames=some outer
 mod:Mod K mg base
 bs:∀ b o,base.get? b=some o->s.heap.get? b=some o/\H b=none
 bsz:base.objs.size<=s.heap.objs.size
 funs:s.heap.FunFrames base outer
 frf:∀ b∈frs outer,H b=none
 hok:HOk P w H s.heap
 bare:AllBare s.gens
def CE (outer:List Env) (P:Program) (w:World) (H:Hp) (s:Shared) (Q:VK) (u:Value) (s':Shared):Prop :=
 ∃ v H',s'.os=s.os/\AllBare s'.gens/\Un (frs outer) [] H H' s.heap s'.heap/\HOk P w H' s'.heap/\RelV v u/\Q v H'
def CR (CX:CXT) (outer:List Env) (P:Program) (w:World) (H:Hp) (s:Shared) (Q:VK) (E:XK) (r:Result) (s':Shared):Prop :=
 match r with
 | .ok (.ret u)=>CE outer P w H s Q u s'
 | .ok _=>False
 | .error e=>CX outer H s E e s'
structure FnOk (P:Program) (w:World) (K:Frag) (mg:Str->Option Value) (base:Heap) (CX:CXT) (k:Nat) (f:Addr) (fd:FuncData) (ps:List Str) (sp:Sp):Prop where
 len:∀ vs H Q E,sp vs H Q E->vs.length=ps.length
 run:∀ (A:Around) (outer:List Env) (s:Shared) (H:Hp) (args:Args) (us:List Value) (vs:List V) (Q:VK) (E:XK),Room k A->Env0 P w K mg base A outer s H->BindsTo s fd args (ps.zip us)->Vals vs us->sp vs H Q E ->
  codeAny (model P w) A (.call (.ref f) args) (CR CX outer P w H s Q E) s
theorem FnOk.mono {P:Program} {w:World} {K:Frag} {mg:Str->Option Value} {base:Heap} {CX:CXT} {j k:Nat} {f:Addr} {fd:FuncData} {ps:List Str} {sp:Sp} (F:FnOk P w K mg base CX j f fd ps sp) (h:j<=k) :
  FnOk P w K mg base CX k f fd ps sp:=⟨F.len,fun A outer s H args us vs Q E hr=>F.run A outer s H args us vs Q E (hr.mono h)⟩
theorem FnOk.imp {P:Program} {w:World} {K:Frag} {mg:Str->Option Value} {base:Heap} {CX:CXT} {k:Nat} {f:Addr} {fd:FuncData} {ps:List Str} {sp sp':Sp} (F:FnOk P w K mg base CX k f fd ps sp)
  (h:∀ vs H Q E,sp' vs H Q E->sp vs H Q E):FnOk P w K mg base CX k f fd ps sp' :=
 ⟨fun vs H Q E q=>F.len vs H Q E (h _ _ _ _ q),fun A outer s H args us vs Q E hr he hb hv hs=>F.run A outer s H args us vs Q E hr he hb hv (h _ _ _ _ hs)⟩
theorem Env0.make {P:Program} {w:World} {K:Frag} {mg:Str->Option Value} {base:Heap} {A:Around} {outer:List Env} {s:Shared} {H:Hp} (e:Env0 P w K mg base A outer s H) (C:Addr) (us:List Value) (kw:List (Str×Value)) :
  Env0 P w K mg base (A.under (.builtin "type.__call__" ⟨.ref C::us,kw⟩)) outer s H:=⟨by first | exact e.frames | (simpa [Around.under,Code.envs,Code.isFrame,pushEnvs] using e.frames),e.mod,e.bs,e.bsz,e.funs,e.frf,e.hok,e.bare⟩
section
variable {X:Cx} {pins:List (Addr×Obj)} {σ:St} {H:Hp} {s s':Shared}
theorem Inv.env0 (I:Inv X pins σ H s):Env0 X.prog X.w X.K X.mg X.base X.A X.stack s H :=
 ⟨I.ok.frames,I.ok.mod,I.bs,Nat.le_trans I.ok.bsz I.sz,I.stack,I.stkFree,I.hok,I.bare⟩
theorem Inv.after {Q:VK} {u:Value} (I:Inv X pins σ H s) (h:CE X.stack X.prog X.w H s Q u s'):EP X pins σ Q u s':=by
 obtain ⟨v,H',os,bare,un,hok,r,q⟩:=h;obtain ⟨hh,g,d,t,os'⟩:=s';obtain rfl:os'=s.os:=os;exact ⟨v,H',I.call (h':=hh) (g':=g) (d':=d) (t':=t) (ch:=[]) un hok bare (fun b z=>absurd z (by simp)),r,q⟩
end
def aD2 (sp:Sp) (dvs:List V) (E:XK) (t:TA):TE:=fun σ H Q=>t σ H fun vs H1=>sp (vs++dvs) H1 Q E
def bE6 (C:Addr) (m:Str) (sp:Sp) (dvs:List V) (E:XK) (ta:TE) (t:TA):TE:=fun σ H Q=>ta σ H fun x H1=>∃ a dx fs,x=.ref a/\H1 a=some (.ins C dx fs)/\fs.lookup m=none /\
 t σ H1 fun vs H2=>sp (x::(vs++dvs)) H2 Q E
def bE7 (C:Addr) (sp:Sp) (dvs:List V) (E:XK) (t:TA):TE:=fun σ H Q=>t σ H fun vs H1=>∀ x dx,H1 x=none->H1 dx=none->dx≠x ->
 sp (.ref x::(vs++dvs)) (upd (upd H1 dx (.own x)) x (.ins C dx [])) (fun v H2=>v=.non/\Q (.ref x) H2) E
def Binds (K:Frag) (fd:FuncData) (ps:List Str) (ds:List Value):Prop :=
 ∀ (s:Shared) (us:List Value),K.In s.heap->(us++ds).length=ps.length->BindsTo s fd ⟨us,[]⟩ (ps.zip (us++ds))
theorem Binds.all {K:Frag} {fd:FuncData} {ps:List Str} (h:∀ us:List Value,us.length=ps.length->bindArgs fd ⟨us,[]⟩=pure (ps.zip us)):Binds K fd ps []:=fun s us _ hl=>by
 rw [List.append_nil] at hl ⊢;exact .of_eq (h us hl)
def iT (CX:CXT) (X:Cx) (E:XK):Prop:=∀ (pins:List (Addr×Obj)) (σ:St) (H:Hp) (s:Shared) (e:Value) (s':Shared),Inv X pins σ H s->CX X.stack H s E e s'->X.xe e s'
section
variable {X:Cx} {CX:CXT} {k:Nat} {f C:Addr} {fd:FuncData} {ps:List Str} {sp:Sp} {dvs:List V} {ds:List Value} {E:XK} {x m:Str} {p pos apos:Pos} {e o:Expr} {es:List Expr} {ta:TE} {t:TA}
theorem aD3 {pins:List (Addr×Obj)} {σ:St} {H:Hp} {s:Shared} {Q:VK} {us:List Value} {vs:List V} (F:FnOk X.prog X.w X.K X.mg X.base CX k f fd ps sp) (hr:Room k X.A) (hb:Binds X.K fd ps ds) (hd:Vals dvs ds) (hx:iT CX X E)
  (I:Inv X pins σ H s) (r:Vals vs us) (h:sp (vs++dvs) H Q E):wpAny (model X.prog X.w) X.A (call (.ref f) us) (EP X pins σ Q) X.xe s:=by
 have r2:Vals (vs++dvs) (us++ds):=r.append hd;have hl:(us++ds).length=ps.length:=by rw [<- r2.length];exact F.len _ _ _ _ h
 refine wpAny_call (codeAny_mono (F.run X.A X.stack s H ⟨us,[]⟩ (us++ds) (vs++dvs) Q E hr I.env0 (hb s us I.kIn hl) r2 h) fun r s' hq=>?_);cases r with
 | error e=>exact hx pins σ H s e s' I hq
 | ok fl =>
  cases fl with
  | ret u=>exact I.after hq
  | next=>exact False.elim hq
  | brk=>exact False.elim hq
  | cont=>exact False.elim hq
theorem vZ (F:FnOk X.prog X.w X.K X.mg X.base CX k f fd ps sp) (hr:Room k X.A) (hg:Gl X x) (hm:X.mg x=some (.ref f)) (hk:PySem.W.keepIn X.K (.ref f)=true) (hb:Binds X.K fd ps ds) (hd:Vals dvs ds) (hx:iT CX X E)
  (ha:PA X (e::es) t) (hdb:(x==("__debug__":Str))=false:=by decide) (he:starEach (e::es) X.env=(false,eval e X.env)::starEach es X.env:=by rfl) (hpl:(backTo pos (starEach es X.env)).any (·.1)=false:=by rfl) :
  PE X (.Call (.Name x p) (e::es) [] pos) (aD2 sp dvs E t):=by
 intro pins s σ H Q I h;refine wpAny_Call_Name_kw (oT I hg hm ?_ hdb);refine PySem.W.callWith_K (h₀:=X.base) I.ok.mod.kin hk (thn (ha pos pins s σ H _ I h) fun us s1 ⟨vs,H1,I1,r,q⟩=>⟨I1.kIn,?_⟩) he hpl;exact aD3 F hr hb hd hx I1 r q
structure Mk (K:Frag) (C f:Addr):Prop where
 makes:PySem.W.makesIn K C=true
 init:PySem.W.findIn K (.ref C) "__init__"=some (some (.ref f))
 fn:PySem.W.isFn K (.ref f)=true
 kp:PySem.W.keepIn K (.ref C)=true
theorem aD4 {pins:List (Addr×Obj)} {σ:St} {H:Hp} {s:Shared} {Q:VK} {us:List Value} {vs:List V} (M:Mk X.K C f) (F:FnOk X.prog X.w X.K X.mg X.base CX k f fd ps sp) (hr:Room (k+1) X.A) (hb:Binds X.K fd ps ds) (hd:Vals dvs ds)
  (hx:iT CX X E) (I:Inv X pins σ H s) (r:Vals vs us)
  (h:∀ x dx,H x=none->H dx=none->dx≠x->sp (.ref x::(vs++dvs)) (upd (upd H dx (.own x)) x (.ins C dx [])) (fun v H2=>v=.non/\Q (.ref x) H2) E) :
  wpAny (model X.prog X.w) X.A (call (.ref C) us) (EP X pins σ Q) X.xe s:=by
 have hq:=h (s.heap.objs.size+1) s.heap.objs.size (I.hok.fresh (Nat.le_succ _)) (I.hok.fresh (Nat.le_refl _)) (Nat.ne_of_lt (Nat.lt_succ_self _));have I2:=Inv.made (C:=C) I;have r2:Vals (V.ref (s.heap.objs.size+1)::(vs++dvs)) (Value.ref (s.heap.objs.size+1)::(us++ds)):=.cons rfl (r.append hd);have hl:(Value.ref (s.heap.objs.size+1)::us++ds).length=ps.length:=by
  have e:=r2.length;rw [F.len _ _ _ _ hq] at e;exact e.symm
 refine wpAny_call (aD0 (f:=f) I.kIn M.makes M.init (beq_iff_eq.mp M.fn) (codeAny_mono (F.run _ X.stack _ _ ⟨Value.ref (s.heap.objs.size+1)::us,[]⟩ (Value.ref (s.heap.objs.size+1)::(us++ds)) _ _ E (hr.make C us [])
  (I2.env0.make C us []) (hb _ (Value.ref (s.heap.objs.size+1)::us) I2.kIn hl) r2 hq) fun r s' hq'=>?_))
 cases r with
 | error e=>exact hx pins σ _ _ e s' I2 hq'
 | ok fl =>
  cases fl with
  | ret u =>
   obtain ⟨v,H',I3,rv,ev,q3⟩:=I2.after hq';subst ev;exact ⟨rv,⟨V.ref (s.heap.objs.size+1),H',I3,rfl,q3⟩⟩
  | next=>exact False.elim hq'
  | brk=>exact False.elim hq'
  | cont=>exact False.elim hq'
theorem aS0 (M:Mk X.K C f) (F:FnOk X.prog X.w X.K X.mg X.base CX k f fd ps sp) (hr:Room (k+1) X.A) (hg:Gl X x) (hm:X.mg x=some (.ref C)) (hb:Binds X.K fd ps ds) (hd:Vals dvs ds) (hx:iT CX X E)
  (ha:PA X (e::es) t) (hdb:(x==("__debug__":Str))=false:=by decide) (he:starEach (e::es) X.env=(false,eval e X.env)::starEach es X.env:=by rfl) (hpl:(backTo pos (starEach es X.env)).any (·.1)=false:=by rfl) :
  PE X (.Call (.Name x p) (e::es) [] pos) (bE7 C sp dvs E t):=by
 intro pins s σ H Q I h;refine wpAny_Call_Name_kw (oT I hg hm ?_ hdb);refine PySem.W.callWith_K (h₀:=X.base) I.ok.mod.kin M.kp (thn (ha pos pins s σ H _ I h) fun us s1 ⟨vs,H1,I1,r,q⟩=>⟨I1.kIn,?_⟩) he hpl;exact aD4 M F hr hb hd hx I1 r q
end
section
variable {X:Cx} {CX:CXT} {k:Nat} {f C:Addr} {fd:FuncData} {ps ks:List Str} {sp:Sp} {E:XK} {x m:Str} {p pos apos kpos:Pos} {e o:Expr} {es:List Expr} {kws:List Keyword} {te ta:TE} {t tk:TA} {nm:Option Str}
variable {g:List Value->List Value->List Value} {gV:List V->List V->List V}
end
structure FnScope (N P:List Str) (sc:Scope):Prop where
 kind:sc.kind=.function
 co:sc.isCoroutine=false
 gen:sc.isGenerator=false
 nd:N.Nodup
 pre:N.take P.length=P
 par:∀ x∈P,sc.names.lookup x=some .local\/sc.names.lookup x=some .cell
 nofree:∀ y∈sc.names,y.2≠.free
theorem mY {kindOf:Str->Option NameKind} {x:Str}:∀ {binds:List (Str×Value)} {m:Str->Option Value},(∀ v,(x,v)∉binds)->bindL kindOf binds m x=m x
 | [],_,_=>rfl
 | (n,v)::r,m,h=>by
  unfold bindL;rw [mY fun w hw=>h w (List.mem_cons_of_mem _ hw)];split
  ·have:x≠n:=by rintro rfl;exact h v List.mem_cons_self
   simp [this]
  ·rfl
theorem mZ {kindOf:Str->Option NameKind} {x:Str}:∀ {binds:List (Str×Value)} {m:Str->Option Value},(∀ v,(x,v)∉binds)->bindC kindOf binds m x=m x
 | [],_,_=>rfl
 | (n,v)::r,m,h=>by
  unfold bindC;rw [mZ fun w hw=>h w (List.mem_cons_of_mem _ hw)];split
  ·rfl
  ·have:x≠n:=by rintro rfl;exact h v List.mem_cons_self
   simp [this]
theorem nB {kindOf:Str->Option NameKind} {x:Str} {v:Value}:∀ {P:List Str} {vs:List Value} {i:Nat} {m:Str->Option Value},P.Nodup->P[i]?=some x->vs[i]?=some v->kindOf x=some .local ->
  bindL kindOf (P.zip vs) m x=some v
 | [],_,_,_,_,h,_,_=>by simp at h
 | _::_,[],_,_,_,_,h,_=>by simp at h
 | p::P,w::vs,0,m,nd,h1,h2,hk=>by
  simp at h1 h2;subst h1;subst h2;show bindL kindOf ((p,w)::P.zip vs) m p=_;unfold bindL;rw [mY fun v hv=>(List.nodup_cons.mp nd).1 (List.of_mem_zip hv).1,if_pos hk];simp
 | p::P,w::vs,i+1,m,nd,h1,h2,hk=>by
  show bindL kindOf ((p,w)::P.zip vs) m x=_;unfold bindL;exact nB (i:=i) (List.nodup_cons.mp nd).2 (by simpa using h1) (by simpa using h2) hk
theorem nC {kindOf:Str->Option NameKind} {x:Str} {v:Value}:∀ {P:List Str} {vs:List Value} {i:Nat} {m:Str->Option Value},P.Nodup->P[i]?=some x->vs[i]?=some v->kindOf x≠some .local ->
  bindC kindOf (P.zip vs) m x=some v
 | [],_,_,_,_,h,_,_=>by simp at h
 | _::_,[],_,_,_,_,h,_=>by simp at h
 | p::P,w::vs,0,m,nd,h1,h2,hk=>by
  simp at h1 h2;subst h1;subst h2;show bindC kindOf ((p,w)::P.zip vs) m p=_;unfold bindC;rw [mZ fun v hv=>(List.nodup_cons.mp nd).1 (List.of_mem_zip hv).1,if_neg hk];simp
 | p::P,w::vs,i+1,m,nd,h1,h2,hk=>by
  show bindC kindOf ((p,w)::P.zip vs) m x=_;unfold bindC;exact nC (i:=i) (List.nodup_cons.mp nd).2 (by simpa using h1) (by simpa using h2) hk
noncomputable def start (N:List Str) (vs:List V):St:=vs.map some++List.replicate (N.length - vs.length) none
noncomputable def mL (CX:CXT) (P:Program) (w:World) (K:Frag) (mg:Str->Option Value) (base:Heap) (N:List Str) (qual:Str) (scope:Scope) (f:Addr) (cd:Value) (A:Around) (outer:List Env) (s:Shared) (H:Hp) (E:XK):Cx where
 prog:=P
 w:=w
 K:=K
 mg:=mg
 base:=base
 A:=A.deeper (envOfC qual scope s.heap.objs.size f cd)
 N:=N
 s₀:=s
 H₀:=H
 env:=envOfC qual scope s.heap.objs.size f cd
 outer:=outer
 stack:=envOfC qual scope s.heap.objs.size f cd::outer
 ex:=[]
 calm:=true
 fn:=fun _=>true
 pn:=[]
 xe:=fun e s'=>wpAny (model P w) (A.deeper (envOfC qual scope s.heap.objs.size f cd)) (leaving (envOfC qual scope s.heap.objs.size f cd) e) (fun _ s''=>CX outer H s E e s'') (fun e' s''=>CX outer H s E e' s'') s'
theorem rB {sc:Scope} {n:Nat} {x:Str} (h:sc.names.lookup x=some .cell):∃ c,(cellsFrom n sc.names []).lookup x=some c:=by
 have q:=PySem.W.cellsFrom_some sc.names n [] (.inl h);exact Option.isSome_iff_exists.mp q
theorem xY {CX:CXT} {P:Program} {w:World} {K:Frag} {mg:Str->Option Value} {base:Heap} {N ps:List Str} {qual:Str} {scope:Scope} {f:Addr} {cd:Value} {A:Around} {outer:List Env} {s s1:Shared} {H:Hp} {E:XK} {us:List Value} {vs:List V}
  (S:FnScope N ps scope) (hd:A.handled=none) (e0:Env0 P w K mg base A outer s H) (hl:vs.length=ps.length) (r:Vals vs us)
  (x:InCallC s s.heap.objs.size (bindL (envOfC qual scope s.heap.objs.size f cd).kindOf (ps.zip us) fun _=>none) (cellsFrom (s.heap.objs.size+1) scope.names []) (bindC (envOfC qual scope s.heap.objs.size f cd).kindOf (ps.zip us) fun _=>none) s1) :
  Inv (mL CX P w K mg base N qual scope f cd A outer s H E) [] (start N vs) H s1:=by
 have hpl:ps.length<=N.length:=by have:=congrArg List.length S.pre;rw [List.length_take] at this;omega
 obtain ⟨h1,tk,rfl,hk⟩:=x.done;have noA:∀ b:Addr,b∉(mL CX P w K mg base N qual scope f cd A outer s H E).ex:=fun b z=>absurd (show b∈([]:List Addr) from z) (by simp);refine ⟨⟨e0.mod,S.kind,rfl,rfl,Nat.le_refl _,fun y z c h1 h2=>?_,fun y hy=>?_,fun y c _ h=>?_,fun _=>hd,Around.frames_deeper e0.frames,.inr ⟨rfl,rfl⟩,fun b z=>absurd z (noA b),e0.bs,e0.bsz,fun b _ _=>noA b,fun b z=>absurd z (noA b),e0.funs,e0.frf⟩,
  rfl,e0.bare,Un.kept hk,⟨_,x.toInCall.ns,fun i y v h1 h2 h3=>?_⟩,fun y c h=>⟨_,x.cell y c h⟩,e0.hok.fresh (Nat.le_refl _),fun y c h=>?_,fun p hp=>absurd (show p∈([]:List (Addr×Obj)) from hp) (by simp),e0.hok.kept hk,?_⟩
 ·exact name_of_addr x.apart (PySem.mem_of_lookup h1) (PySem.mem_of_lookup h2)
 ·have hy:scope.names.lookup y=some .cell\/scope.names.lookup y=some .free:=hy;rcases hy with hy | hy
  ·exact rB hy
  ·exact absurd rfl (S.nofree _ (PySem.mem_of_lookup hy))
 ·exact Nat.le_of_lt (x.above y c (PySem.mem_of_lookup h))
 ·have hi:i < vs.length:=by
   unfold start at h2
   by_cases hi:i < vs.length
   ·exact hi
   ·rw [List.getElem?_append_right (by simpa using hi)] at h2;rw [List.getElem?_replicate] at h2;split at h2<;>cases h2
  have ha:vs[i]?=some v:=by
   unfold start at h2;rw [List.getElem?_append_left (by simpa using hi),List.getElem?_map] at h2;cases e:vs[i]? with
   | none=>rw [e] at h2;cases h2
   | some a=>rw [e] at h2;cases h2;rfl
  obtain ⟨u,hu,rv⟩:=r.get ha;have hp:ps[i]?=some y:=by
   rw [<- S.pre,List.getElem?_take_of_lt (by omega)];exact h1
  have ndP:ps.Nodup:=by rw [<- S.pre];exact S.nd.sublist (List.take_sublist _ _)
  refine ⟨u,rv,?_⟩;rcases S.par y (List.mem_of_getElem? hp) with k | k
  ·exact .inl ⟨k,nB ndP hp hu k⟩
  ·obtain ⟨c,e⟩:=rB (n:=s.heap.objs.size+1) k;refine .inr ⟨.inl k,c,e,?_⟩;have q:=x.cell y c e;rw [nC ndP hp hu (by show scope.names.lookup y≠_;rw [k];decide)] at q;exact q
 ·exact e0.hok.fresh (Nat.le_of_lt (x.above y c (PySem.mem_of_lookup h)))
 ·unfold start;show _=N.length;rw [List.length_append,List.length_map,List.length_replicate];omega
theorem bE8 {CX:CXT} {P:Program} {w:World} {K:Frag} {mg:Str->Option Value} {base:Heap} {k:Nat} {f:Addr} {name qual:Str} {params:Arguments} {body:List Stmt} {scope:Scope} {dV kV doc pm cdv ct oc:Value} {an od:Option Addr}
  {osl:Array (Option Value)} {N ps:List Str} {sp:Sp} (lk:K.lookup f=some ⟨oc,od,.func (PySem.W.fnOf name qual params body scope dV kV doc pm an cdv ct),osl⟩) (hcd:PySem.W.codeIn K cdv qual=true) (S:FnScope N ps scope)
  (len:∀ vs H Q E,sp vs H Q E->vs.length=ps.length)
  (hbody:∀ (A:Around) (outer:List Env) (s:Shared) (H:Hp) (vs:List V) (Q:VK) (E:XK),Room k (A.deeper (envOfC qual scope s.heap.objs.size f cdv))->sp vs H Q E ->
   ∃ t,PSs (mL CX P w K mg base N qual scope f cdv A outer s H E) body t/\t { nx:=fun _ H'=>Q .non H',rt:=Q } (start N vs) H) :
  FnOk P w K mg base CX (k+1) f (PySem.W.fnOf name qual params body scope dV kV doc pm an cdv ct) ps sp:=by
 refine ⟨len,fun A outer s H args us vs Q E hr e0 hb r hsp=>?_⟩;have hl:=len _ _ _ _ hsp;have KX:K.In s.heap:=e0.mod.kin.keeps fun b o e=>(e0.bs b o e).1;have lim:s.heap.NoLimit:=e0.mod.nolimit.keeps fun b o e=>(e0.bs b o e).1;have hkind:∀ y∈ps.zip us,scope.names.lookup y.1=some .local\/(scope.names.lookup y.1=some .cell/\((cellsFrom (s.heap.objs.size+1) scope.names []).lookup y.1).isSome=true):=fun ⟨n,v⟩ hy=>by
  rcases S.par n (List.of_mem_zip hy).1 with q | q
  ·exact .inl q
  ·exact .inr ⟨q,PySem.W.cellsFrom_some _ _ _ (.inl q)⟩
 refine codeAny_call_function hr.depth (KX _ _ lk) rfl S.co S.gen rfl (PySem.W.codeRec_of KX hcd) (hb _ _ _ _ ?_);refine wpAny_newFunctionEnv_cells S.kind hkind fun env he s1 x=>?_;subst he;refine ⟨lim.keeps x.toInCall.keep,codeAny_func ?_⟩;obtain ⟨t,ht,hq⟩:=hbody A outer s H vs Q E (hr.deeper _) hsp;have I:Inv (mL CX P w K mg base N qual scope f cdv A outer s H E) [] (start N vs) H s1:=xY S hr.hd e0 hl r x;refine wpAny_mono (ht [] s1 (start N vs) H _ I hq) (fun fl s' hs=>?_) fun e s' hs=>hs;have fin:∀ {σ':St} {H':Hp} {v:V} {u:Value},Inv (mL CX P w K mg base N qual scope f cdv A outer s H E) [] σ' H' s'->RelV v u->Q v H'->CE outer P w H s Q u s' :=
  fun {σ' H' v u} J rv q=>⟨v,H',J.os,J.bare,J.base,J.hok,rv,q⟩
 cases fl with
 | ret u =>
  obtain ⟨v,σ',H',J,rv,q⟩:=hs;exact fin J rv q
 | next =>
  obtain ⟨σ',H',J,q⟩:=hs;exact fin (v:=V.non) (u:=Value.none) J rfl q
 | brk =>
  obtain ⟨_,_,_,q⟩:=hs;exact False.elim q
 | cont =>
  obtain ⟨_,_,_,q⟩:=hs;exact False.elim q
section
variable {X:Cx} {x:Str} {p pos:Pos} {e:Expr} {es:List Expr} {t:TA} {id T:String} {r:List V->Hp->VK->Prop}
def tCB (r:List V->Hp->VK->Prop) (t:TA):TE:=fun σ H Q=>t σ H fun vs H1=>r vs H1 Q
theorem rC (hc:cN X (.builtin id) r) (hg:Gl X x) (hm:X.mg x=none) (hv:bootBuiltins x=some (.builtin id)) (ha:PA X (e::es) t) (hn:x≠"__name__":=by decide) (hdb:(x==("__debug__":Str))=false:=by decide)
  (he:starEach (e::es) X.env=(false,eval e X.env)::starEach es X.env:=by rfl) (hpl:(backTo pos (starEach es X.env)).any (·.1)=false:=by rfl):PE X (.Call (.Name x p) (e::es) [] pos) (tCB r t):=by
 intro pins s σ H Q I h;refine wpAny_Call_Name_kw (dP I hg hm hv ?_ hn hdb);exact PyProof.Rows.callWith_builtin1 (thn (ha pos pins s σ H _ I h) fun us s1 ⟨vs,H1,I1,r1,q1⟩=>hc pins s1 σ H1 vs us Q I1 r1 q1) he hpl
theorem nD (hc:cN X (.type T) r) (hg:Gl X x) (hm:X.mg x=none) (hv:bootBuiltins x=some (.type T)) (ha:PA X (e::es) t) (hn:x≠"__name__":=by decide) (hdb:(x==("__debug__":Str))=false:=by decide)
  (he:starEach (e::es) X.env=(false,eval e X.env)::starEach es X.env:=by rfl) (hpl:(backTo pos (starEach es X.env)).any (·.1)=false:=by rfl):PE X (.Call (.Name x p) (e::es) [] pos) (tCB r t):=by
 intro pins s σ H Q I h;refine wpAny_Call_Name_kw (dP I hg hm hv ?_ hn hdb);exact PyProof.Rows.callWith_type1 (thn (ha pos pins s σ H _ I h) fun us s1 ⟨vs,H1,I1,r1,q1⟩=>hc pins s1 σ H1 vs us Q I1 r1 q1) he hpl
end
end L2
namespace HT
open PySem PyProof.Rows
section
open PySem.SeqAt
open PySem.AutoSeq1 (wpAny_loadPart')
open PySem.MeetsSeq PySem.MeetsSeq2 PySem.MeetsSeq3
end
section
variable {prog:Program} {w:World} {A:Around} {E:Value->Shared->Prop} {s:Shared}
theorem cat_tup {t b:Addr} {vs ws:List Value} {Q:Value->Shared->Prop} (ht:IsTup s.heap t vs.toArray) (hb:IsTup s.heap b ws.toArray) (hv:vs≠[])
  (h1:ws=[]->Q (.ref t) s) (h2:ws≠[]->Q (.ref s.heap.objs.size) { s with heap:=s.heap.push { cls:=.type "tuple",data:=.seq (vs++ws).toArray } })
  (hsz:vs.length+ws.length<=sizeLine):wpAny (model prog w) A (binaryOp .Add (.ref t) (.ref b)) Q E s:=by
 obtain ⟨⟨cls,dd,data,sl⟩,ho,hc,n,hd⟩:=id ht;obtain ⟨⟨cls2,dd2,data2,sl2⟩,ho2,hc2,n2,hd2⟩:=id hb;simp only at hc hd hc2 hd2;subst hc hd hc2 hd2;have e:vs.toArray++ws.toArray=(vs++ws).toArray:=by simp
 by_cases hw:ws=[]
 ·exact concat_meets ⟨_,ho,rfl⟩ ⟨_,ho2,rfl⟩ noFill_tuple_add seq_tuple_add PySem.F.slot_tuple_add PySem.F.entry_tuple_add (PySem.F.args_tuple_add_2 _ _)
   (tuple_addW1 t b vs.toArray ws.toArray n n2 dd dd2 sl sl2 (by simpa using hv) (by simp [hw])) ⟨ho,ho2,h1 hw⟩
 ·refine concat_meets ⟨_,ho,rfl⟩ ⟨_,ho2,rfl⟩ noFill_tuple_add seq_tuple_add PySem.F.slot_tuple_add PySem.F.entry_tuple_add (PySem.F.args_tuple_add_2 _ _)
   (tuple_addW2 t b vs.toArray ws.toArray n n2 dd dd2 sl sl2 (by simpa using hv) (by simpa using hw) (by rw [List.size_toArray,List.size_toArray];exact hsz)) ⟨ho,ho2,?_⟩
  rw [e];exact h2 hw
noncomputable def sIx (n d:Nat):Option Int->Nat
 | none=>d
 | some v=>if v < 0 then (v+(n:Int)).toNat else min v.toNat n
theorem sIx_nat (n d k:Nat):sIx n d (some (k:Int))=min k n:=by
 show (if (k:Int) < 0 then ((k:Int)+(n:Int)).toNat else min (k:Int).toNat n)=min k n;rw [if_neg (by omega),Int.toNat_natCast]
theorem bO2 (n d:Nat) (hd:d<=n) (o:Option Int):sIx n d o<=n:=by
 cases o with
 | none=>exact hd
 | some v =>
  show (if v < 0 then (v+(n:Int)).toNat else min v.toNat n)<=n
  by_cases hv:v < 0
  ·rw [if_pos hv];omega
  ·rw [if_neg hv];exact Nat.min_le_right _ _
theorem wA (v:Int) (n d:Nat):(if v < 0 then max (v+(n:Int)) 0 else min v (n:Int))=((sIx n d (some v):Nat):Int):=by
 show (if v < 0 then max (v+(n:Int)) 0 else min v (n:Int))=(((if v < 0 then (v+(n:Int)).toNat else min v.toNat n):Nat):Int)
 by_cases hv:v < 0
 ·simp only [if_pos hv];omega
 ·simp only [if_neg hv];omega
theorem uD (lo hi:Option Int) (n:Nat):Builtin.Slice.sliceAdjust lo hi 1 (n:Int)=(((sIx n 0 lo:Nat):Int),((sIx n n hi:Nat):Int)):=by
 have h1:¬ ((1:Int) < 0):=by omega
 unfold Builtin.Slice.sliceAdjust;simp only [h1,if_false];refine Prod.ext ?_ ?_
 ·cases lo with
  | none=>rfl
  | some v=>exact wA v n 0
 ·cases hi with
  | none=>rfl
  | some v=>exact wA v n n
theorem uE (i j:Nat):Builtin.Slice.slicePlaces (i:Int) (j:Int) 1=j - i:=by
 unfold Builtin.Slice.slicePlaces;have h1:(1:Int) > 0:=by omega
 simp only [h1,if_true,Int.ediv_one];split<;>omega
theorem kP {v:Value} {o:Option Int} {Q:Option Int->Shared->Prop} (p:IsPart v o) (h:Q o s):wpAny (model prog w) A (Builtin.Slice.slicePartIndex v) Q E s:=by
 cases p with
 | none=>exact slicePart_none h
 | int i t=>exact slicePart_int h
theorem sliceApplied_gen {sl:Addr} {vl vu:Value} {lo hi:Option Int} {n:Nat} {Q:Int×Int×Nat->Shared->Prop} (hs:s.heap.IsSliceOf sl vl vu .none) (pl:IsPart vl lo) (pu:IsPart vu hi)
  (h:Q (((sIx n 0 lo:Nat):Int),1,sIx n n hi - sIx n 0 lo) s):wpAny (model prog w) A (Builtin.Slice.sliceApplied (.ref sl) (pure (n:Int))) Q E s:=by
 obtain ⟨os,hos,hcs,hds⟩:=id hs;unfold Builtin.Slice.sliceApplied Builtin.Slice.sliceFields;refine wpAny_bind (wpAny_bind (wpAny_field hos hds (x:=vl) rfl (wpAny_bind (wpAny_field hos hds (x:=vu) rfl (wpAny_bind (wpAny_field hos hds (x:=.none) rfl (wpAny_pure ?_)))))));refine wpAny_bind (slicePart_none ?_);show wpAny _ _ (if ((1:Int)==0)=true then _ else _) _ _ s;rw [if_neg (by decide)];refine wpAny_bind (kP pl (wpAny_bind (kP pu (wpAny_bind (wpAny_pure ?_)))));show wpAny _ _ (match Builtin.Slice.sliceAdjust lo hi 1 (n:Int) with | (lo,hi)=>pure (lo,(1:Int),Builtin.Slice.slicePlaces lo hi 1)) _ _ s;rw [uD lo hi n];show wpAny _ _ (pure (((sIx n 0 lo:Nat):Int),(1:Int),Builtin.Slice.slicePlaces ((sIx n 0 lo:Nat):Int) ((sIx n n hi:Nat):Int) 1)) _ _ s;rw [uE];exact wpAny_pure h
theorem aD5 (xs:Array Value) (i k:Nat):((List.range k).filterMap fun (m:Nat)=>xs[((i:Int)+(m:Int)*1).toNat]?).toArray=((xs.toList.drop i).take k).toArray:=by
 have e:(fun (m:Nat)=>xs[((i:Int)+(m:Int)*1).toNat]?)=fun m=>xs[i+m]?:=by
  funext m
  have:((i:Int)+(m:Int)*1).toNat=i+m:=by omega
  rw [this]
 rw [e];have:=pick_run xs i k;rw [List.filterMap_map] at this;have e2:((fun x=>xs[x]?) ∘ fun x=>i+x)=fun m=>xs[i+m]?:=rfl;rw [e2] at this;rw [this]
theorem getItem_tuple_cut {t sl:Addr} {items:Array Value} {vl vu:Value} {lo hi:Option Int} {Q:Value->Shared->Prop} (ht:IsTup s.heap t items) (hs:s.heap.IsSliceOf sl vl vu .none) (pl:IsPart vl lo) (pu:IsPart vu hi)
  (hw:¬ (sIx items.size 0 lo=0/\sIx items.size items.size hi=items.size))
  (h:Q (.ref s.heap.objs.size) { s with heap:=s.heap.push { cls:=.type "tuple",data:=.seq ((items.toList.drop (sIx items.size 0 lo)).take (sIx items.size items.size hi - sIx items.size 0 lo)).toArray } })
  (hsz:items.size<=sizeLine):wpAny (model prog w) A (getItem (.ref t) (.ref sl)) Q E s:=by
 have htake:sizeOk (.seq ((items.toList.drop (sIx items.size 0 lo)).take (sIx items.size items.size hi - sIx items.size 0 lo)).toArray):=by
  show ((items.toList.drop (sIx items.size 0 lo)).take (sIx items.size items.size hi - sIx items.size 0 lo)).toArray.size<=sizeLine;rw [List.size_toArray,List.length_take,List.length_drop,Array.length_toList];omega
 have hj:sIx items.size items.size hi<=items.size:=bO2 _ _ (Nat.le_refl _) hi;obtain ⟨os,hos,hcs,hds⟩:=id hs;have hTs:s.TypeIs (.ref sl) "slice":=⟨os,hos,hcs⟩;unfold getItem;try with_reducible refine wpAny_holding ?_
 first | refine wpAny_bind (wpAny_pure ?_) | skip
 refine wpAny_bind (wpAny_sequenceKey ht.typeIs (by decide) ?_);refine wpAny_bind (wpAny_callSpecial?_slot (name:=Str.ofString "__getitem__") ht.typeIs PyProof.Rows.slot_tuple_getitem
  (wpAny_call_entry PyProof.Rows.slot_tuple_getitem ht.typeIs entry_tuple_getitem ?_ (args_tuple_getitem _ _)))
 show wpAny _ _ (Builtin.Tuple.tupleItemsOf (.ref t) >>= _) _ _ s;refine wpAny_bind (tupleItemsOf_ ht ?_);refine wpAny_bind (wpAny_typeOf hTs ?_);rw [if_pos (by decide)];refine wpAny_bind (sliceApplied_gen hs pl pu ?_);have hno:¬ ((((sIx items.size 0 lo:Nat):Int)==0&&(1:Int)==1&&(sIx items.size items.size hi - sIx items.size 0 lo)==items.size)=true):=by
  intro q;rw [Bool.and_eq_true,Bool.and_eq_true] at q;have q1:((sIx items.size 0 lo:Nat):Int)=0:=eq_of_beq q.1.1;have q2:sIx items.size items.size hi - sIx items.size 0 lo=items.size:=eq_of_beq q.2;exact hw ⟨by omega,by omega⟩
 show wpAny _ _ (if (((sIx items.size 0 lo:Nat):Int)==0&&(1:Int)==1&&(sIx items.size items.size hi - sIx items.size 0 lo)==items.size)=true then _ else _) _ _ s;rw [if_neg hno,aD5]
 first
  | exact wpAny_bind (m:=Builtin.Tuple.tupleExact _) (wpAny_newObj_type (wpAny_pure ⟨_,rfl,wpAny_pure h⟩) htake)
  | exact wpAny_bind (m:=Builtin.Tuple.tupleExact _) (wpAny_newObj_type (wpAny_bind (wpAny_pure (wpAny_pure ⟨_,rfl,wpAny_pure h⟩))) htake)
  | exact wpAny_bind (wpAny_bind (m:=Builtin.Tuple.tupleExact _) (wpAny_newObj_type (wpAny_pure (wpAny_pure ⟨_,rfl,wpAny_pure h⟩)) htake))
  | exact wpAny_bind (wpAny_bind (m:=Builtin.Tuple.tupleExact _) (wpAny_newObj_type (wpAny_pure ⟨_,rfl,wpAny_pure h⟩) htake))
end
end HT
namespace L2
open PySem PySem.Spec PyProof.Rows
abbrev TO:=St->Hp->(Option Int->Hp->Prop)->Prop
def PO (X:Cx) (e:Option Expr) (t:TO):Prop :=
 ∀ (pins:List (Addr×Obj)) (s:Shared) (σ:St) (H:Hp) (Q:Option Int->Hp->Prop),Inv X pins σ H s->t σ H Q ->
  wpAny (model X.prog X.w) X.A (evalPart e X.env) (fun u s'=>∃ o H',Inv X pins σ H' s'/\IsPart u o/\Q o H') X.xe s
noncomputable def aS1:TO:=fun _ H Q=>Q none H
noncomputable def cH8 (t:TE):TO:=fun σ H Q=>t σ H fun x H1=>∃ i,x=.int i/\Q (some i) H1
section
variable {X:Cx} {e:Expr} {te:TE} {lo hi:Option Expr} {tl th:TO} {pos p2:Pos}
theorem aS2:PO X none aS1:=by
 intro pins s σ H Q I h;rw [evalPart_none];exact wpAny_pure ⟨none,H,I,.none,h⟩
theorem aS3 (h:PE X e te):PO X (some e) (cH8 te):=by
 intro pins s σ H Q I hw;rw [evalPart_some];refine thn (h pins s σ H _ I hw) fun u s1 ⟨x,H1,I1,r1,q1⟩=>?_;obtain ⟨i,rfl,q⟩:=q1;obtain ⟨t,rfl⟩:=r1;exact ⟨some i,H1,I1,.int i t,q⟩
def SlR (X:Cx) (r:V->Option Int->Option Int->Hp->VK->Prop):Prop :=
 ∀ (pins:List (Addr×Obj)) (s:Shared) (σ:St) (H:Hp) (x:V) (v vl vu:Value) (lo hi:Option Int) (sl:Addr) (Q:VK),Inv X pins σ H s->RelV x v->s.heap.IsSliceOf sl vl vu .none->IsPart vl lo->IsPart vu hi->r x lo hi H Q ->
  ∃ T id,typeLookup (.type T) "__getitem__"=pure (some (.builtin id))/\s.TypeIs v T/\wpAny (model X.prog X.w) X.A (getItem v (.ref sl)) (EP X pins σ Q) X.xe s
theorem SlR.or {r r':V->Option Int->Option Int->Hp->VK->Prop} (h:SlR X r) (h':SlR X r'):SlR X (fun x lo hi H Q=>r x lo hi H Q\/r' x lo hi H Q):=by
 intro pins s σ H x v vl vu lo hi sl Q I rx hs pl pu q;rcases q with q | q
 ·exact h pins s σ H x v vl vu lo hi sl Q I rx hs pl pu q
 ·exact h' pins s σ H x v vl vu lo hi sl Q I rx hs pl pu q
def tSl (r:V->Option Int->Option Int->Hp->VK->Prop) (te:TE) (tl th:TO):TE:=fun σ H Q=>te σ H fun x H1=>tl σ H1 fun l H2=>th σ H2 fun u H3=>r x l u H3 Q
theorem rD {r:V->Option Int->Option Int->Hp->VK->Prop} (hr:SlR X r) (he:PE X e te) (hl:PO X lo tl) (hu:PO X hi th):PE X (.Subscript e (.Slice lo hi none p2) pos) (tSl r te tl th):=by
 intro pins s σ H Q I h;refine Subscript_ (thn (he pins s σ H _ I h) fun v s1 ⟨x,H1,I1,r1,q1⟩=>?_);refine wpAny_Slice (thn (hl pins s1 σ H1 _ I1 q1) fun vl s2 ⟨l,H2,I2,pl,q2⟩=>thn (hu pins s2 σ H2 _ I2 q2) fun vu s3 ⟨u,H3,I3,pu,q3⟩=>?_);rw [evalPart_none];refine wpAny_pure ?_;have I4:Inv X pins σ H3 { s3 with heap:=s3.heap.push { cls:=.type "slice",data:=.fields #[vl,vu,.none] } }:=I3.kept (t':=s3.toks) fun b ob q=>Heap.get?_push_of_some _ q;obtain ⟨T,id,hT,ht,hg⟩:=hr pins { s3 with heap:=s3.heap.push { cls:=.type "slice",data:=.fields #[vl,vu,.none] } } σ H3 x v vl vu l u s3.heap.objs.size Q I4 r1 (Heap.IsSliceOf.new ..) pl pu q3;show wpAny (model X.prog X.w) X.A (subscriptTail e (.Slice lo hi none p2) v (.ref s3.heap.objs.size)) (EP X pins σ Q) X.xe { s3 with heap:=s3.heap.push { cls:=.type "slice",data:=.fields #[vl,vu,.none] } };exact tail_any (ops:=[.ref s3.heap.objs.size,v]) ht hT hg (by with_unfolding_all rfl)
noncomputable def rE (xs:List V) (lo hi:Option Int):List V:=(xs.drop (HT.sIx xs.length 0 lo)).take (HT.sIx xs.length xs.length hi - HT.sIx xs.length 0 lo)
theorem jN (xs:List V) (lo hi:Option Int):(rE xs lo hi).length<=xs.length:=by
 unfold rE;rw [List.length_take,List.length_drop];omega
noncomputable def cY3 (K:Frag):V->Option Int->Option Int->Hp->VK->Prop:=fun x lo hi H Q=>∃ a xs,x=.ref a/\SqT K H a xs /\
 ¬ (HT.sIx xs.length 0 lo=0/\HT.sIx xs.length xs.length hi=xs.length)/\∀ p,H p=none->Q (.ref p) (upd H p (.tup (rE xs lo hi)))
theorem sl_tup:SlR X (cY3 X.K):=by
 intro pins s σ H x v vl vu lo hi sl Q I rx hs pl pu h;obtain ⟨a,xs,rfl,hx,hw,q⟩:=h;cases rx;obtain ⟨its,r,ht,hz⟩:=I.tuple hx;have hlen:its.toArray.size=xs.length:=by rw [List.size_toArray];exact r.length.symm
 refine ⟨"tuple",_,PyProof.Rows.slot_tuple_getitem.lookup,ht.typeIs,?_⟩;refine HT.getItem_tuple_cut ht hs pl pu (by rw [hlen];exact hw) ?_ (by rw [hlen];exact hz);rw [hlen];refine ⟨.ref s.heap.objs.size,_,I.laid (t':=s.toks) (o:=.tup (rE xs lo hi)) (fun b ob q=>Heap.get?_push_of_some _ q) (Nat.le_refl _) ?_,rfl,q _ (I.hok.fresh (Nat.le_refl _))⟩;exact ⟨Nat.le_trans (jN xs lo hi) hz,_,(r.drop (HT.sIx xs.length 0 lo)).take (HT.sIx xs.length xs.length hi - HT.sIx xs.length 0 lo),IsTupD.new _ _⟩
noncomputable def cH9 (K:Frag):R2:=fun x y H Q=>∃ a b xs ys,x=.ref a/\y=.ref b/\SqT K H a xs/\SqT K H b ys/\xs≠[]/\xs.length+ys.length<=sizeLine /\
 (ys=[]->Q (.ref a) H)/\(ys≠[]->∀ p,H p=none->Q (.ref p) (upd H p (.tup (xs++ys))))
theorem Vals.nil_iff {xs:List V} {us:List Value} (r:Vals xs us):us=[] ↔ xs=[]:=by
 cases r with
 | nil=>simp
 | cons _ _=>simp
theorem aS4:OpR X (binaryOp .Add) (cH9 X.K):=by
 intro pins s σ H x y v u Q I rx ry h;obtain ⟨a,b,xs,ys,rfl,rfl,ha,hb,hx,hz,q1,q2⟩:=h;cases rx;cases ry;obtain ⟨its,r1,p1,_⟩:=I.tuple ha;obtain ⟨its2,r2,p2,_⟩:=I.tuple hb;refine HT.cat_tup p1 p2 (fun z=>hx (r1.nil_iff.mp z)) (fun z=>⟨.ref a,H,I,rfl,q1 (r2.nil_iff.mp z)⟩) (fun z=>?_) (by rw [<- r1.length,<- r2.length];exact hz);refine ⟨.ref s.heap.objs.size,_,I.laid (t':=s.toks) (o:=.tup (xs++ys)) (fun b ob q=>Heap.get?_push_of_some _ q) (Nat.le_refl _) ?_,rfl,q2 (fun w=>z (r2.nil_iff.mpr w)) _ (I.hok.fresh (Nat.le_refl _))⟩;exact ⟨by rw [List.length_append];exact hz,_,r1.append r2,IsTupD.new _ _⟩
end
noncomputable def ixN (n:Nat) (i:Int):Option Nat:=if 0<=i then (if i < n then some i.toNat else none) else if -(n:Int)<=i then some (i+n).toNat else none
noncomputable def atI {α:Type} (xs:List α) (i:Int):Option α:=(ixN xs.length i).bind fun j=>xs[j]?
theorem oW {n:Nat} {i:Int} {j:Nat} (h:ixN n i=some j):seqIndex? i n=some j/\j < n/\-(n:Int)<=i/\i < n:=by
 unfold ixN at h
 by_cases h0:0<=i
 ·rw [if_pos h0] at h
  by_cases h1:i < n
  ·rw [if_pos h1] at h;have e:i.toNat=j:=Option.some.inj h;exact ⟨by rw [seqIndex_of h0 h1,e],by omega,by omega,h1⟩
  ·rw [if_neg h1] at h;cases h
 ·rw [if_neg h0] at h
  by_cases h1:-(n:Int)<=i
  ·rw [if_pos h1] at h;have e:(i+n).toNat=j:=Option.some.inj h;exact ⟨by rw [seqIndex_neg (by omega) h1,e],by omega,h1,by omega⟩
  ·rw [if_neg h1] at h;cases h
theorem wB {α:Type} {xs:List α} {i:Int} {v:α} (h:atI xs i=some v):∃ j,seqIndex? i xs.length=some j/\xs[j]?=some v/\j < xs.length/\-(xs.length:Int)<=i/\i < xs.length:=by
 unfold atI at h;cases e:ixN xs.length i with
 | none=>rw [e] at h;cases h
 | some j =>
  rw [e] at h;obtain ⟨h1,h2,h3,h4⟩:=oW e;exact ⟨j,h1,h,h2,h3,h4⟩
theorem fC {α:Type} {xs:List α} {j:Nat} {v:α} (h:xs[j]?=some v):atI xs (j:Int)=some v:=by
 have hj:j < xs.length:=(List.getElem?_eq_some_iff.mp h).1;have e:ixN xs.length (j:Int)=some j:=by
  unfold ixN;rw [if_pos (by omega),if_pos (by omega)];simp
 unfold atI;rw [e];exact h
def hX (b:Expr):Prop:=∀ o i,subscripted b false o i=operate [o,i] (getItem o i)
def IxR (X:Cx) (r:R2):Prop :=
 ∀ (value slice:Expr) (pins:List (Addr×Obj)) (s:Shared) (σ:St) (H:Hp) (x y:V) (v u:Value) (Q:VK),Inv X pins σ H s->RelV x v->RelV y u->r x y H Q ->
  subscripted slice false v u=operate [v,u] (getItem v u)->wpAny (model X.prog X.w) X.A (subscriptTail value slice v u) (EP X pins σ Q) X.xe s
def MtR (X:Cx) (id:String) (r:V->List V->Hp->VK->Prop):Prop :=
 ∀ (pins:List (Addr×Obj)) (s:Shared) (σ:St) (H:Hp) (x:V) (xs:List V) (v:Value) (us:List Value) (Q:VK),Inv X pins σ H s->RelV x v->Vals xs us->r x xs H Q ->
  wpAny (model X.prog X.w) X.A (call (.builtin id) (v::us)) (EP X pins σ Q) X.xe s
section
variable {X:Cx} {a b:Expr} {ta tb:TE} {pos:Pos}
theorem aD6 {r:R2} (hr:IxR X r) (ha:PE X a ta) (hb:PE X b tb) (hs:hX b):PE X (.Subscript a b pos) (tOp r ta tb):=by
 intro pins s σ H Q I h;exact Subscript_ (bM8 ha hb I h fun v u s2 x y H2 I2 rx ry q=>hr a b pins s2 σ H2 x y v u Q I2 rx ry q (hs _ _))
noncomputable def cY4 (K:Frag):R2:=fun x y H Q=>∃ p xs i v,x=.ref p/\y=.int i/\SqL K H p xs/\atI xs i=some v/\Q v H
noncomputable def cY5 (K:Frag):R2:=fun x y H Q=>∃ p xs i v,x=.ref p/\y=.int i/\SqT K H p xs/\atI xs i=some v/\Q v H
theorem wC:IxR X (cY4 X.K):=by
 intro value slice pins s σ H x y v u Q I rx ry h hs;obtain ⟨p,xs,i,z,rfl,rfl,hq,he,q⟩:=h;cases rx;obtain ⟨t,rfl⟩:=ry;obtain ⟨its,r,pl,hz⟩:=I.list hq;obtain ⟨j,h1,h2,h3,h4,h5⟩:=wB he;obtain ⟨w,ew,rw'⟩:=r.get h2;have hl:=r.length;have hn:=oU;have fin:EP X pins σ Q w s:=⟨z,H,I,rw',q⟩
 by_cases h0:0<=i
 ·have hj:i.toNat=j:=by
   rw [seqIndex_of h0 h5] at h1;exact Option.some.inj h1
  exact item_listR pl.isList h0 (by omega) (by rw [hj];simpa using ew) fin hs
 ·have hj:(i+(its.toArray.size:Int)).toNat=j:=by
   rw [seqIndex_neg (by omega) h4] at h1;rw [List.size_toArray,<- hl];exact Option.some.inj h1
  exact subscriptTail_builtinR (x:=w) pl.isList.typeIs slot_list_getitem.lookup
   (wpAny_getItem_list_neg (Q:=fun r s'=>r=w/\EP X pins σ Q r s') pl.isList (by omega) (by rw [List.size_toArray]<;>omega) (by omega) (by rw [hj];simpa using ew) ⟨rfl,fin⟩) hs
theorem bO3:IxR X (cY5 X.K):=by
 intro value slice pins s σ H x y v u Q I rx ry h hs;obtain ⟨p,xs,i,z,rfl,rfl,hq,he,q⟩:=h;cases rx;obtain ⟨t,rfl⟩:=ry;obtain ⟨its,r,pl,hz⟩:=I.tuple hq;obtain ⟨j,h1,h2,h3,h4,h5⟩:=wB he;obtain ⟨w,ew,rw'⟩:=r.get h2;have hl:=r.length;have hn:=oU;have fin:EP X pins σ Q w s:=⟨z,H,I,rw',q⟩;exact subscriptTail_builtinR (x:=w) pl.typeIs slot_tuple_getitem.lookup
  (getItem_tuple (j:=j) (Q:=fun r s'=>r=w/\EP X pins σ Q r s') pl (by omega) (by omega) (by rw [List.size_toArray,<- hl];exact h1) (by simpa using ew) ⟨rfl,fin⟩) hs
theorem uF (its:List Value) (n j:Nat) (u:Value):Obj.mapSeq (·.setIfInBounds j u) { cls:=.type "list",data:=.seq its.toArray n }={ cls:=.type "list",data:=.seq (its.set j u).toArray n }:=by
 simp [Obj.mapSeq]
theorem Inv.lst {pins:List (Addr×Obj)} {σ:St} {H:Hp} {s:Shared} {p:Addr} {xs:List V} (I:Inv X pins σ H s) (h:H p=some (.lst xs)) :
  ∃ (its:List Value) (n:Nat),Vals xs its/\s.heap.get? p=some { cls:=.type "list",data:=.seq its.toArray n }/\xs.length<=sizeLine:=by
 obtain ⟨z,its,n,r,e⟩:=I.hok p _ h;exact ⟨its,n,r,e,z⟩
theorem Inv.lstUpd {pins:List (Addr×Obj)} {σ:St} {H:Hp} {s:Shared} {p:Addr} {xs ys:List V} {its its':List Value} {n n':Nat} {f:Obj->Obj} (I:Inv X pins σ H s) (h:H p=some (.lst xs))
  (ho:s.heap.get? p=some { cls:=.type "list",data:=.seq its.toArray n }) (hf:f { cls:=.type "list",data:=.seq its.toArray n }={ cls:=.type "list",data:=.seq its'.toArray n' }) (r:Vals ys its') (hz:ys.length<=sizeLine) (t:Nat) :
  Inv X pins σ (upd H p (.lst ys)) { s with heap:=s.heap.update p f,toks:=t }:=by
 have e:(s.heap.update p f).get? p=some { cls:=.type "list",data:=.seq its'.toArray n' }:=by
  rw [Heap.get?_update_self f ho (by rw [hf]<;>rfl),hf]
 refine I.write (x:=p) (e:=p) (by rw [h];trivial) (.inl rfl) (fun b u hb q=>(Heap.get?_update_other _ _ (Ne.symm hb)).trans q) ⟨_,e⟩ ?_;exact ⟨hz,its',n',r,e⟩
noncomputable def bE9:V->V->V->Hp->(Hp->Prop)->Prop:=fun o i v H Q=>∃ p xs k j,o=.ref p/\i=.int k/\H p=some (.lst xs)/\ixN xs.length k=some j/\Q (upd H p (.lst (xs.set j v)))
theorem aD7:bM3 X bE9:=by
 intro pins s σ H o i v ov iv u Q I ro ri rv h;obtain ⟨p,xs,k,j,rfl,rfl,hp,hj,q⟩:=h;cases ro;obtain ⟨t,rfl⟩:=ri;obtain ⟨its,n,r,ho,hz⟩:=I.lst hp;obtain ⟨h1,h2,h3,h4⟩:=oW hj;have hl:=r.length;have hn:=oU;have I':Inv X pins σ (upd H p (.lst (xs.set j v))) { s with heap:=s.heap.update p (Obj.mapSeq (·.setIfInBounds j u)) } :=
  I.lstUpd hp ho (uF its n j u) (r.set rv j) (by rw [List.length_set];exact hz) s.toks
 by_cases h0:0<=k
 ·have hk:k.toNat=j:=by
   rw [seqIndex_of h0 h4] at h1;exact Option.some.inj h1
  exact PySem.W.ki_setAt ho h0 (by omega) (by rw [List.size_toArray,<- hl];exact h4) (by rw [hk];exact ⟨_,I',q⟩)
 ·have hk:(k+(its.toArray.size:Int)).toNat=j:=by
   rw [seqIndex_neg (by omega) h3] at h1;rw [List.size_toArray,<- hl];exact Option.some.inj h1
  exact PySem.W.ki_setBack ho (by omega) (by rw [List.size_toArray,<- hl];exact h3) (by omega) (by rw [hk];exact ⟨_,I',q⟩)
theorem oX (lo hi:Option Int) (n:Nat):(sliceBounds lo hi none n).1=((HT.sIx n 0 lo:Nat):Int)/\(sliceBounds lo hi none n).2.1=((HT.sIx n n hi:Nat):Int)/\(sliceBounds lo hi none n).2.2=1:=by
 refine ⟨?_,?_,rfl⟩
 ·cases lo with
  | none=>simp [sliceBounds,HT.sIx]
  | some i =>
   simp only [sliceBounds,HT.sIx,Option.getD_none,show (1:Int) > 0 by decide,if_true]
   by_cases h:i < 0
   ·simp only [h,if_true]<;>omega
   ·simp only [h,if_false]<;>omega
 ·cases hi with
  | none=>simp [sliceBounds,HT.sIx]
  | some i =>
   simp only [sliceBounds,HT.sIx,Option.getD_none,show (1:Int) > 0 by decide,if_true]
   by_cases h:i < 0
   ·simp only [h,if_true]<;>omega
   ·simp only [h,if_false]<;>omega
theorem mM (its:List Value) (lo hi:Option Int):slicePick its.toArray lo hi none=((its.drop (HT.sIx its.length 0 lo)).take (HT.sIx its.length its.length hi - HT.sIx its.length 0 lo)).toArray:=by
 obtain ⟨h1,h2,h3⟩:=oX lo hi its.toArray.size;unfold slicePick;rw [h1,h2,h3];simp only [sliceRange_one,pick_run,List.size_toArray]<;>rfl
noncomputable def cY6 (K:Frag):V->Option Int->Option Int->Hp->VK->Prop:=fun x lo hi H Q=>∃ a xs,x=.ref a/\SqL K H a xs/\∀ p,H p=none->Q (.ref p) (upd H p (.lst (rE xs lo hi)))
theorem aS5:SlR X (cY6 X.K):=by
 intro pins s σ H x v vl vu lo hi sl Q I rx hs pl pu h;obtain ⟨a,xs,rfl,hx,q⟩:=h;cases rx;obtain ⟨its,r,ht,hz⟩:=I.list hx;have hlen:=r.length;refine ⟨"list",_,slot_list_getitem.lookup,ht.isList.typeIs,?_⟩;refine wpAny_getItem_list_slice ht.isList hs pl pu .none (by simp) ?_ (by rw [List.size_toArray]<;>omega);rw [mM,<- hlen];refine ⟨.ref s.heap.objs.size,_,I.laid (t':=s.toks) (o:=.lst (rE xs lo hi)) (fun b ob q=>Heap.get?_push_of_some _ q) (Nat.le_refl _) ?_,rfl,q _ (I.hok.fresh (Nat.le_refl _))⟩;exact ⟨Nat.le_trans (jN xs lo hi) hz,_,0,(r.drop (HT.sIx xs.length 0 lo)).take (HT.sIx xs.length xs.length hi - HT.sIx xs.length 0 lo),Heap.get?_push_size _ rfl⟩
theorem hZ:cN X (.builtin "len") (fun xs H Q=>∃ p ys,xs=[.ref p]/\(SqL X.K H p ys\/SqT X.K H p ys)/\Q (.int ys.length) H):=by
 intro pins s σ H xs us Q I r h;obtain ⟨p,ys,rfl,hq,q⟩:=h;obtain ⟨u,rfl,rx⟩:=jK r;cases rx;have hn:=oU;rcases hq with hq | hq
 ·obtain ⟨its,r',pl,hz⟩:=I.list hq;have hlen:=r'.length;exact Calls.call_len_list pl.isList (by simp only [List.size_toArray]<;>omega) ⟨.int ys.length,H,I.tok _,⟨s.toks+1,by rw [List.size_toArray,hlen]⟩,q⟩
 ·obtain ⟨its,r',pl,hz⟩:=I.tuple hq;have hlen:=r'.length;exact len_tuple pl (by simp only [List.size_toArray]<;>omega) ⟨.int ys.length,H,I.tok _,⟨s.toks+1,by rw [List.size_toArray,hlen]⟩,q⟩
theorem oY:cN X (.type "list") (fun xs H Q=>∃ p ys,xs=[.ref p]/\(SqL X.K H p ys\/SqT X.K H p ys)/\∀ l,H l=none->Q (.ref l) (upd H l (.lst ys))):=by
 intro pins s σ H xs us Q I r h;obtain ⟨p,ys,rfl,hq,q⟩:=h;obtain ⟨u,rfl,rx⟩:=jK r;cases rx;have fin:∀ (its:List Value),Vals ys its->ys.length<=sizeLine->∀ (h':Heap) (c':Nat),(∀ b o',s.heap.get? b=some o'->h'.get? b=some o') ->
   h'.get? s.heap.objs.size=some { cls:=.type "list",dict:=none,data:=.seq its.toArray c',slots:=#[] }->EP X pins σ Q (.ref s.heap.objs.size) { s with heap:=h' }:=fun its r' hz h' c' kp e =>
  ⟨.ref s.heap.objs.size,_,I.laid (t':=s.toks) kp (Nat.le_refl _) (show ObjOk X.prog X.w _ h' _ (.lst ys) from ⟨hz,its,c',r',e⟩),rfl,q _ (I.hok.fresh (Nat.le_refl _))⟩
 rcases hq with hq | hq
 ·obtain ⟨its,r',pl,hz⟩:=I.list hq;have hlen:=r'.length;obtain ⟨o,ho,hc,n,hd⟩:=pl.isList;exact call_list_seq p (.inl rfl) ho hc hd (fun h' c' kp e=>fin its r' hz h' c' kp e) (by simp only [List.size_toArray]<;>omega)
 ·obtain ⟨its,r',pl,hz⟩:=I.tuple hq;have hlen:=r'.length;obtain ⟨o,ho,hc,n,hd⟩:=pl;exact call_list_seq p (.inr rfl) ho hc hd (fun h' c' kp e=>fin its r' hz h' c' kp e) (by simp only [List.size_toArray]<;>omega)
theorem gO:cN X (.type "tuple") (fun xs H Q=>∃ p ys,xs=[.ref p]/\((SqL X.K H p ys/\∀ l,H l=none->Q (.ref l) (upd H l (.tup ys)))\/(SqT X.K H p ys/\Q (.ref p) H))):=by
 intro pins s σ H xs us Q I r h;obtain ⟨p,ys,rfl,h⟩:=h;obtain ⟨u,rfl,rx⟩:=jK r;cases rx;rcases h with ⟨hq,q⟩ | ⟨hq,q⟩
 ·obtain ⟨its,r',pl,hz⟩:=I.list hq;have hlen:=r'.length;refine call_tuple_list pl.isList (fun h' kp=>?_) (by simp only [List.size_toArray]<;>omega);have I1:Inv X pins σ H { s with heap:=h' }:=I.kept (t':=s.toks) kp;have I2:Inv X pins σ (upd H h'.objs.size (.tup ys)) { s with heap:=h'.push { cls:=.type "tuple",data:=.seq its.toArray } } :=
   I1.laid (t':=s.toks) (fun b o e=>Heap.get?_push_of_some _ e) (Nat.le_refl _) (show ObjOk X.prog X.w _ _ _ (.tup ys) from ⟨hz,its,r',IsTupD.new _ _⟩)
  exact ⟨.ref h'.objs.size,_,I2,rfl,q _ (I1.hok.fresh (Nat.le_refl _))⟩
 ·obtain ⟨its,r',pl,hz⟩:=I.tuple hq;exact call_tuple_same pl ⟨.ref p,H,I,rfl,q⟩
def tyV (K:Frag) (T:String) (x:V) (H:Hp):Prop:=match x with
 | .str _=>T="str"
 | .int _=>T="int"
 | .ref p=>(T="list"/\∃ xs,SqL K H p xs)\/(T="tuple"/\∃ o,K.lookup p=some o/\o.cls=.type "tuple"/\o.dict=none) \/
   (T="dict"/\((∃ kvs,H p=some (.dK kvs))\/∃ kvs,H p=some (.dT kvs)))\/(T="set"/\∃ S n,H p=some (.set S n))
 | _=>False
theorem bO4 {pins:List (Addr×Obj)} {σ:St} {H:Hp} {s:Shared} {T:String} {x:V} {v:Value} (I:Inv X pins σ H s) (r:RelV x v) (ty:tyV X.K T x H) :
  s.TypeIs v T/\∀ a,v=.ref a->∃ ob,s.heap.get? a=some ob/\ob.dict=none:=by
 cases x with
 | str z =>
  obtain ⟨t,rfl⟩:=r;cases (show T="str" from ty);exact ⟨typeIs_str s z t,fun _ e=>nomatch e⟩
 | int i =>
  obtain ⟨t,rfl⟩:=r;cases (show T="int" from ty);exact ⟨typeIs_int s i t,fun _ e=>nomatch e⟩
 | ref p =>
  cases r;rcases ty with ⟨rfl,xs,hq⟩ | ⟨rfl,o,hk,hc,hd⟩ | ⟨rfl,hk⟩ | ⟨rfl,S,n,hk⟩
  ·obtain ⟨its,_,pl,_⟩:=I.list hq;refine ⟨pl.isList.typeIs,fun a e=>?_⟩;cases e;obtain ⟨o,n,e,c,hd,_⟩:=pl;exact ⟨o,e,hd⟩
  ·refine ⟨⟨o,I.kIn p o hk,hc⟩,fun a e=>?_⟩;cases e;exact ⟨o,I.kIn _ o hk,hd⟩
  ·have z:∃ o,s.heap.get? p=some o/\o.ExactDict:=by
    rcases hk with ⟨kvs,hk⟩ | ⟨kvs,hk⟩
    ·obtain ⟨_,_,_,_,o,_,_,e,ex,_⟩:=I.hok p _ hk;exact ⟨o,e,ex⟩
    ·obtain ⟨_,_,_,_,o,_,_,e,ex,_⟩:=I.hok p _ hk;exact ⟨o,e,ex⟩
   obtain ⟨o,e,ex⟩:=z;refine ⟨⟨o,e,ex.1⟩,fun a e2=>?_⟩;cases e2;exact ⟨o,e,ex.2.1⟩
  ·obtain ⟨o,_,_,_,e,ex,_⟩:=I.hok p _ hk;refine ⟨⟨o,e,ex.1⟩,fun a e2=>?_⟩;cases e2;exact ⟨o,e,ex.2.1⟩
 | _=>exact False.elim ty
def tBM (K:Frag) (T:String) (r:V->List V->Hp->VK->Prop) (to:TE) (t:TA):TE:=fun σ H Q=>to σ H fun x H1=>tyV K T x H1/\t σ H1 fun xs H2=>r x xs H2 Q
variable {o e:Expr} {es:List Expr} {to:TE} {t:TA} {name:Str} {apos cpos:Pos} {T id:String} {r:V->List V->Hp->VK->Prop}
theorem aD8 (pa:PlainAttrs T) (slot:Slot T name id) (hty:typeOf (.builtin id)=pure (.type "method_descriptor")) (hm:MtR X id r) (ho:PE X o to) (ha:PA X (e::es) t)
  (hbase:attributeBase o name X.env (eval o X.env)=eval o X.env:=by rfl)
  (hfew:((backTo cpos (starEach (e::es) X.env)).all (fun x=>!x.1)&&(backToKw cpos (keywordEach [] X.env)).all (fun x=>x.1.isSome)
   && decide ((e::es).length+([]:List Keyword).length+(if ([]:List Keyword).isEmpty then 0 else 1) < 30))=true:=by rfl)
  (hline:(apos.endLine==cpos.line)=true:=by rfl) (hs:starEach (e::es) X.env=(false,eval e X.env)::starEach es X.env:=by rfl) (hplain:(backTo cpos (starEach es X.env)).any (·.1)=false:=by rfl) :
  PE X (.Call (.Attribute o name apos) (e::es) [] cpos) (tBM X.K T r to t):=by
 intro pins s σ H Q I h;refine wpAny_Call_method_late hbase hfew hline rfl (thn (ho pins s σ H _ I h) fun v s1 ⟨x,H1,I1,r1,ty,q1⟩=>?_);obtain ⟨h1,h2⟩:=bO4 I1 r1 ty;refine ⟨T,id,pa,slot,hty,h1,h2,?_⟩;have hA:=ha cpos pins s1 σ H1 _ I1 q1;rw [hs] at hA ⊢;refine Calls.callWith_builtin (by show (false||(backTo cpos (starEach es X.env)).any (·.1))=false;rw [hplain]<;>rfl) (Calls.evalArgs_plain ?_);exact thn hA fun us s2 ⟨vs,H2,I2,r2,q2⟩=>hm pins s2 σ H2 x vs v us Q I2 r1 r2 q2
/- xs.append(e),list.index on a module's tuple .. are MtR facts of 06m -/
end
def MtM (X:Cx) (id:String) (r:V->List V->Hp->VK->Prop):Prop :=
 ∀ (pins:List (Addr×Obj)) (s:Shared) (σ:St) (H:Hp) (x:V) (xs:List V) (v:Value) (us:List Value) (Q:VK),Inv X pins σ H s->RelV x v->Vals xs us->r x xs H Q ->
  wpAny (model X.prog X.w) X.A (call (.builtin id) (v::us)) (EP X pins σ Q) X.xe s
theorem Vals.one:∀ {x:V} {us:List Value},Vals [x] us->∃ u,us=[u]/\RelV x u
 | _,_,.cons r .nil=>⟨_,rfl,r⟩
theorem Vals.eraseIdx:∀ {xs:List V} {us:List Value} (i:Nat),Vals xs us->Vals (xs.eraseIdx i) (us.eraseIdx i)
 | _,_,_,.nil=>.nil
 | _,_,0,.cons _ t=>t
 | _,_,i+1,.cons r t=>.cons r (Vals.eraseIdx i t)
theorem Vals.reverse {xs:List V} {us:List Value} (h:Vals xs us):Vals xs.reverse us.reverse:=by
 induction h with
 | nil=>exact .nil
 | cons r t ih=>rw [List.reverse_cons,List.reverse_cons];exact Vals.append ih (.cons r .nil)
theorem Vals.rep {xs:List V} {us:List Value} (h:Vals xs us):∀ k:Nat,Vals (List.replicate k xs).flatten (List.replicate k us).flatten
 | 0=>.nil
 | k+1=>by
  rw [List.replicate_succ,List.replicate_succ,List.flatten_cons,List.flatten_cons];exact Vals.append h (Vals.rep h k)
theorem nE {α:Type}:∀ (l:List α) (i:Nat),(l.eraseIdx i).length<=l.length
 | [],_=>Nat.le_refl _
 | _::_,0=>Nat.le_succ _
 | _::r,i+1=>Nat.succ_le_succ (nE r i)
theorem nF (its:List Value):∀ (k:Nat) (acc:List Value),
  List.foldl (fun x1 x2=>x1++x2) acc.toArray (List.replicate k its.toArray)=(acc++(List.replicate k its).flatten).toArray
 | 0,acc=>by simp
 | k+1,acc=>by
  have e:acc.toArray++its.toArray=(acc++its).toArray:=by simp
  have e2:(acc++its)++(List.replicate k its).flatten=acc++(List.replicate (k+1) its).flatten:=by
   rw [List.replicate_succ,List.flatten_cons,List.append_assoc]
  rw [<- e2,<- nF its k (acc++its),<- e,List.replicate_succ,List.foldl_cons]
section
variable {X:Cx} {pins:List (Addr×Obj)} {σ:St} {H:Hp} {s:Shared} {l b:Addr} {xs ys zs:List V}
theorem Inv.lset {its its':List Value} {n:Nat} {f:Array Value->Array Value} {t':Nat} (I:Inv X pins σ H s) (hH:H l=some (.lst xs))
  (e:s.heap.get? l=some { cls:=.type "list",data:=.seq its.toArray n }) (hf:f its.toArray=its'.toArray) (hv:Vals ys its') (hz:ys.length<=sizeLine) :
  Inv X pins σ (upd H l (.lst ys)) { s with heap:=s.heap.update l (Obj.mapSeq f),toks:=t' }:=by
 have q:=PySem.IsL.update e f;rw [hf] at q;refine I.write (x:=l) (e:=l) (by rw [hH];exact trivial) (.inl rfl) (fun b' u hb hu=>(Heap.get?_update_other s.heap (Obj.mapSeq f) (Ne.symm hb)).trans hu) ⟨_,q⟩ ?_;exact ⟨hz,its',_,hv,q⟩
theorem Inv.lnew {its:List Value} {t':Nat} (I:Inv X pins σ H s) (hv:Vals ys its) (hz:ys.length<=sizeLine) :
  Inv X pins σ (upd H s.heap.objs.size (.lst ys)) { s with heap:=s.heap.push { cls:=.type "list",data:=.seq its.toArray },toks:=t' } :=
 I.laid (fun _ _ q=>Heap.get?_push_of_some _ q) (Nat.le_refl _) ⟨hz,its,0,hv,Heap.get?_push_size _ rfl⟩
theorem Inv.fresh (I:Inv X pins σ H s):H s.heap.objs.size=none:=I.hok.fresh (Nat.le_refl _)
theorem Inv.lstM (I:Inv X pins σ H s) (hH:H l=some (.lst xs)):xs.length<=sizeLine/\∃ (its:List Value) (n:Nat),Vals xs its/\xs.length=its.length/\s.heap.get? l=some { cls:=.type "list",data:=.seq its.toArray n }:=by
 obtain ⟨z,its,n,r,e⟩:=I.hok l _ hH;exact ⟨z,its,n,r,r.length,e⟩
theorem rF {n:Nat} (h:n<=sizeLine):Builtin.List.listTooLong n=false:=by
 unfold Builtin.List.listTooLong;exact decide_eq_false (by omega)
end
section
variable {X:Cx}
noncomputable def aS6:V->List V->Hp->VK->Prop:=fun x vs H Q=>∃ l xs y,x=.ref l/\vs=[y]/\H l=some (.lst xs)/\xs.length < sizeLine/\Q .non (upd H l (.lst (xs++[y])))
theorem nG:MtM X "list.append" aS6:=by
 intro pins s σ H x vs v us Q I rx rv h;obtain ⟨l,xs,y,rfl,rfl,hH,hz,q⟩:=h;cases rx;obtain ⟨u,rfl,ru⟩:=rv.one;obtain ⟨z,its,n,r,hl,e⟩:=I.lstM hH;refine call_meets F.slot_list_append ⟨_,e,rfl⟩ F.entry_list_append (F.args_list_append_2 _ _) (PySem.list_append l its.toArray n u (by rw [List.size_toArray];omega)) ⟨e,?_⟩;refine ⟨.non,_,I.lset (its':=its++[u]) hH e (by simp) (r.append (.cons ru .nil)) ?_,rfl,q⟩;rw [List.length_append,List.length_singleton];omega
noncomputable def aS7:V->List V->Hp->VK->Prop:=fun x vs H Q=>∃ l b xs zs,x=.ref l/\vs=[.ref b]/\H l=some (.lst xs)/\H b=some (.lst zs)/\xs.length+zs.length<=sizeLine/\Q .non (upd H l (.lst (xs++zs)))
theorem xZ:MtM X "list.extend" aS7:=by
 intro pins s σ H x vs v us Q I rx rv h;obtain ⟨l,b,xs,zs,rfl,rfl,hH,hB,hz,q⟩:=h;cases rx;obtain ⟨u,rfl,ru⟩:=rv.one;cases ru;obtain ⟨z,its,n,r,hl,e⟩:=I.lstM hH;obtain ⟨z2,its2,n2,r2,hl2,e2⟩:=I.lstM hB;have hsz:its.toArray.size+its2.toArray.size<=sizeLine:=by rw [List.size_toArray,List.size_toArray];omega
 have hlong:¬ (!its.toArray.isEmpty&&Builtin.List.listTooLong (its.toArray.size+its2.toArray.size))=true:=by
  rw [rF hsz,Bool.and_false];exact Bool.false_ne_true
 refine call_meets F.slot_list_extend ⟨_,e,rfl⟩ F.entry_list_extend (F.args_list_extend_2 _ _)
  (AutoSeq1.list_extend_list_list_0 l its.toArray n b its2.toArray n2 hlong (by rw [List.size_toArray];omega) (by omega)) ⟨e,e2,?_⟩
 refine ⟨.non,_,I.lset (its':=its++its2) hH e (by simp) (r.append r2) ?_,rfl,q⟩;rw [List.length_append];omega
noncomputable def bO5:V->List V->Hp->VK->Prop:=fun x vs H Q=>∃ l xs i k y,x=.ref l/\vs=[.int i]/\H l=some (.lst xs)/\-(2^63)<=i/\i < 2^63/\seqIndex? i xs.length=some k/\xs[k]?=some y/\Q y (upd H l (.lst (xs.eraseIdx k)))
theorem aD9:MtM X "list.pop" bO5:=by
 intro pins s σ H x vs v us Q I rx rv h;obtain ⟨l,xs,i,k,y,rfl,rfl,hH,h1,h2,hk,hy,q⟩:=h;cases rx;obtain ⟨u,rfl,ru⟩:=rv.one;obtain ⟨t,rfl⟩:=ru;obtain ⟨z,its,n,r,hl,e⟩:=I.lstM hH;obtain ⟨w,hw,rw'⟩:=r.get hy;refine call_meets F.slot_list_pop ⟨_,e,rfl⟩ F.entry_list_pop (F.args_list_pop_2 _ _)
  (MeetsSeq.list_pop_at l its.toArray n i t k w (fitsIndex_both h1 h2) (by rw [List.size_toArray,<- hl];exact hk) (by rw [<- Array.getElem?_toList];exact hw) (by rw [List.size_toArray];omega)) ⟨e,?_⟩
 refine ⟨y,_,I.lset (its':=its.eraseIdx k) hH e ?_ (r.eraseIdx k) ?_,rw',q⟩
 ·show its.toArray.eraseIdxIfInBounds k=(its.eraseIdx k).toArray;rw [List.eraseIdxIfInBounds_toArray]
 ·have:=nE xs k;omega
noncomputable def cY7:R2:=fun x y H Q=>∃ l k xs,x=.ref l/\y=.int k/\H l=some (.lst xs)/\-(2^63)<=k/\k < 2^63/\xs.length*k.toNat<=sizeLine /\
 ∀ p,H p=none->Q (.ref p) (upd H p (.lst (List.replicate k.toNat xs).flatten))
theorem aS8 {α:Type} (xs:List α) (k:Nat):(List.replicate k xs).flatten.length=k*xs.length:=by
 induction k with
 | zero=>simp
 | succ k ih=>rw [List.replicate_succ,List.flatten_cons,List.length_append,ih,Nat.succ_mul,Nat.add_comm]
theorem bO6:OpR X (binaryOp .Mult) cY7:=by
 intro pins s σ H x y v u Q I rx ry h;obtain ⟨l,k,xs,rfl,rfl,hH,h1,h2,hz,q⟩:=h;cases rx;obtain ⟨t,rfl⟩:=ry;obtain ⟨z,its,n,r,hl,e⟩:=I.lstM hH;have hlen:its.toArray.size*k.toNat<=sizeLine:=by rw [List.size_toArray,<- hl];exact hz
 have hcap:¬ its.toArray.size*k.toNat > (2^63 - 1) / 8:=by
  have:(sizeLine:Nat)<=(2^63 - 1) / 8:=by decide
  omega
 have hfit:¬ (!Builtin.List.listFitsIndex k)=true:=by
  rw [fitsIndex_both h1 h2];exact Bool.false_ne_true
 have hlong:¬ Builtin.List.listTooLong (its.toArray.size*k.toNat)=true:=by
  rw [rF hlen];exact Bool.false_ne_true
 have hnew:List.foldl (fun x1 x2=>x1++x2) #[] (List.replicate (if its.toArray.isEmpty=true then 0 else k.toNat) its.toArray)=(List.replicate k.toNat its).flatten.toArray:=by
  have f0:∀ m:Nat,List.foldl (fun x1 x2=>x1++x2) #[] (List.replicate m its.toArray)=(List.replicate m its).flatten.toArray:=fun m=>by
   have:=nF its m [];rw [List.nil_append] at this;exact this
  rw [f0];cases its with
  | nil=>simp
  | cons a r'=>rw [if_neg (by simp)]
 refine wpAny_binaryOp_repeat_ref (T:="list") (U:="int") (by decide) ⟨_,e,rfl⟩ (fun s'=>typeIs_int s' k t) noFill_list_mul F.fills_int_mul F.slot_int_rmul repeat_list F.slot_int_index.lookup
  (call_meets F.slot_int_rmul (typeIs_int s k t) F.entry_int_rmul (F.args_int_rmul_2 _ _) (int___rmul___int_list k t l its.toArray n)
   ⟨e,rfl,⟨_,e,rfl⟩,call_meets F.slot_list_mul ⟨_,e,rfl⟩ F.entry_list_mul (F.args_list_mul_2 _ _) (AutoListH.list___mul___list_int_3 l its.toArray n k t hfit hcap hlong) ⟨e,?_⟩⟩)
 rw [hnew];exact ⟨.ref _,_,I.lnew (t':=s.toks) (r.rep k.toNat) (by rw [aS8,Nat.mul_comm];exact hz),rfl,q _ I.fresh⟩
end
section
variable {prog:Program} {w:World} {A:Around} {E:Value->Shared->Prop} {s:Shared}
set_option maxRecDepth 100000 in
end
section
variable {X:Cx}
end
end L2
namespace Att
open PySem PySem.W PySem.Calls PyProof.Rows
theorem jY {P:Params} {h:Heap}:∀ (ns:List Int) (vs:List Value),WellAll P h vs (ns.map WData.int)->IntsAre vs ns:=by
 intro ns;induction ns with
 | nil =>
  intro vs w;rw [List.map_nil] at w;cases w;exact .nil
 | cons n ns ih =>
  intro vs w;rw [List.map_cons] at w;cases w with
  | cons a b =>
   cases a;exact .cons _ _ (ih _ b)
theorem yA {l:OpenLaw} {n:Nat} (hn:l.most=some n) {P:Params} {h:Heap} {args:List WData} {vals:List Value}
  (hpre:l.row.toRowW.claim.pre args=true) (hwl:WellAll P h vals args) :
  ∃ a vs ns,vals=[Value.ref a]/\args=[WData.list (ns.map WData.int)]/\h.get? a=some { cls:=.type "list",data:=.seq vs.toArray }/\IntsAre vs ns/\ns.length<=n:=by
 have hsh:WShape.hasAll [] args [.list .int]=true:=(pre_splitW hpre).1;have hc:l.pre.holds [] { args:=args }=true:=(pre_splitW hpre).2;obtain ⟨d,r,rfl,h1,h2⟩:=hasAllW_cons hsh;obtain rfl:=hasAllW_nil h2;obtain ⟨xs,rfl,h3⟩:=hasW_list h1;obtain ⟨ns,rfl⟩:=items_int h3;have hlen:ns.length<=n:=by
  unfold OpenLaw.pre at hc;have h4:(WTm.not (.lt (.lit (.int (n:Int))) (.len (.arg 0)))).holds [] { args:=[.list (ns.map .int)] }=true:=by
   have h4:=(holds_andW hc).1;rw [hn] at h4;exact h4
  have h5:=condW_of h4 (w_not (w_lt w_lit (w_len_list (w_arg rfl))));rw [List.length_map] at h5;refine Nat.le_of_not_lt fun q=>?_;have q':(n:Int) < ((ns.length:Nat):Int):=by omega
  first
   | (rw [decide_eq_true q'] at h5;exact absurd h5 (by decide))
   | (simp at h5;omega)
 cases hwl with
 | cons w1 w2 =>
  cases w2;cases w1 with
  | list ho hall=>exact ⟨_,_,ns,rfl,rfl,ho,jY ns _ hall,hlen⟩
theorem yB (l:OpenLaw) (args:List WData):l.row.toRowW.claim.post args (.bool true) args=true :=
 postW_of (r:=l.row.toRowW) (X:=(true==true))
  (show WShape.has [] (.bool true) .bool=true by first | rfl | decide | simp [WShape.has,WShape.arms,WShape.armsAll])
  (show (WTm.eq .res (.lit (.bool true))).value [] { args:=args,res:=some (.bool true),after:=args }=some (.bool (true==true)) from w_eq_bool (w_res rfl) w_lit) rfl
theorem attach_call {l:OpenLaw} {n:Nat} {q:Program} {loose:List Str} {XP:(Str->Option Value)->Heap->Prop} {YP:World->Heap->Prop} {d:DefRec}
  (hn:l.most=some n) (hdf:d.params.defaults=[])
  (call:∀ (w:World) (s₀ s₁:Shared) (mg mb:Str->Option Value) (fa:Addr) (o:Obj) (pm cd doc:Value) (a:Addr) (vs:List Value) (ns:List Int),
   Ground q loose [] XP w s₀ mg mb s₁.heap->YP w s₁.heap ->
   s₁.heap.get? fa=some o->o.data=.func (docDef d.name d.params d.body d.scope pm cd doc)->s₁.heap.CodeRec cd d.name->mg d.name=some (.ref fa) ->
   s₁.heap.get? a=some { cls:=.type "list",data:=.seq vs.toArray }->IntsAre vs ns->ns.length<=n->s₁.gens=#[] ->
   codeAny (model l.prog w) callerA (.call (.ref fa) ⟨[.ref a],[]⟩) (fun r s'=>r=.ok (.ret (.bool true))/\OldK s₁.heap s'.heap/\s'.os=s₁.os/\AllBare s'.gens) s₁) :
  WalkO q loose XP YP l.row.toRowW d [] (fun f vs=>PySem.call f vs):=by
 intro w s₀ s₁ mg mb G Y fa o pm cd doc dV kV ho hd hcd hD hmg hg args vals as hpre hlay hrd hwl hlo;obtain rfl:dV=.none:=Dflts.none hD hdf;obtain rfl:kV=.none:=Dflts.noKw hD;obtain ⟨a,vs,ns,rfl,rfl,hobj,hints,hlen⟩:=yA hn hpre hwl;refine enter_call (codeAny_mono (call w s₀ s₁ mg mb fa o pm cd doc a vs ns G Y ho (fd_plain hd) hcd hmg hobj hints hlen hg) fun r s' hq=>?_);obtain ⟨rfl,h2,h3,h4⟩:=hq;exact ⟨.inl ⟨.bool true,.bool true,[],rfl,fun _=>rfl,.bool true,yB l _,fun _=>⟨List.Pairwise.nil,fun _ hm=>(nomatch hm)⟩⟩,h2,h3,h4⟩
section
variable {prog:Program} {w:World} {A:Around} {E:Value->Shared->Prop} {s:Shared} {K:Frag}
end
end Att
namespace L2
open PySem PySem.Spec PyProof.Rows
theorem nH:∀ {vs:List Value} {ns:List Int},IntsAre vs ns->Vals (ns.map V.int) vs
 | _,_,.nil=>.nil
 | _,_,.cons n t h=>.cons ⟨t,rfl⟩ (nH h)
def bO7 (H:Hp):Prop:=∀ b,H b=none\/∃ o xs,H b=some (.frz o (.lst xs))
theorem aE0 {P:Program} {w:World} {K:Frag} {mg mb:Str->Option Value} {CX:CXT} {k:Nat} {fa a:Addr} {fd:FuncData} {x:Str} {sp:Sp} {s₁:Shared} {vs:List Value} {ns:List Int}
  (KX:K.In s₁.heap) (hns:s₁.heap.Ns mainGlobals mg) (hb:s₁.heap.Ns builtinsNs mb) (hbb:∀ x:Str,x≠"__name__"->mb x=bootBuiltins x) (hlim:s₁.heap.NoLimit) (hg:s₁.gens=#[])
  (ha:s₁.heap.get? a=some { cls:=.type "list",data:=.seq vs.toArray }) (hi:IntsAre vs ns) (hl:ns.length<=sizeLine) (hr:Room k callerA)
  (F:∀ base:Heap,K.In base->base.Ns mainGlobals mg->FnOk P w K mg base CX k fa fd [x] sp) (hbind:∀ (s:Shared) (u:Value),BindsTo s fd ⟨[u],[]⟩ [(x,u)])
  (hsp:∀ H:Hp,bO7 H->SqL K H a (ns.map V.int)->sp [.ref a] H (fun v _=>v=.bl true) fun _ _ _=>False)
  (hCX:∀ H e s',CX [] H s₁ (fun _ _ _=>False) e s'->False) :
  codeAny (model P w) callerA (.call (.ref fa) ⟨[.ref a],[]⟩) (fun r s'=>r=.ok (.ret (.bool true))/\OldK s₁.heap s'.heap/\s'.os=s₁.os/\AllBare s'.gens) s₁:=by
 have rv:=nH hi;have lenV:=hi.length;have core:∀ H:Hp,bO7 H->SqL K H a (ns.map V.int)->HOk P w H s₁.heap->(∀ b,H b≠none->b=a)->(H a≠none->K.lookup a=none) ->
   codeAny (model P w) callerA (.call (.ref fa) ⟨[.ref a],[]⟩) (fun r s'=>r=.ok (.ret (.bool true))/\OldK s₁.heap s'.heap/\s'.os=s₁.os/\AllBare s'.gens) s₁:=by
  intro H hO hS hok hA hK;have base_of:∀ {b:Addr} {o:Obj},s₁.heap.get? b=some o->H b=none->(oS s₁.heap H).get? b=some o:=fun e n=>aC0 e n;have noA:∀ {b:Addr} {o:Obj} {es:Array DictEntry} {ep:Nat},s₁.heap.get? b=some o->o.data=.dict es ep->H b=none:=fun {b o es ep} e d=>by
   cases q:H b with
   | none=>rfl
   | some u =>
    have e':b=a:=hA b (by rw [q];simp);subst e';rw [ha] at e;cases e;have d':Data.seq vs.toArray _=Data.dict es ep:=d;cases d'
  have nsK:∀ {b:Addr} {m:Str->Option Value},s₁.heap.Ns b m->(oS s₁.heap H).Ns b m:=fun {b m} ⟨o,es,ep,e,d,r⟩=>⟨o,es,ep,base_of e (noA e d),d,r⟩;have hKb:K.In (oS s₁.heap H):=fun b o e=>base_of (KX b o e) (by
   cases q:H b with
   | none=>rfl
   | some u =>
    have e':b=a:=hA b (by rw [q];simp);subst e';rw [hK (by rw [q];simp)] at e;cases e)
  have hM:Mod K mg (oS s₁.heap H):=⟨hKb,nsK hns,⟨mb,nsK hb,hbb⟩,let ⟨mc,h1,h2⟩:=hlim;⟨mc,nsK h1,h2⟩⟩;have e0:Env0 P w K mg (oS s₁.heap H) callerA [] s₁ H:=⟨rfl,hM,fun b o e=>aQ5 e,Nat.le_of_eq (xR _ _),trivial,fun b hb=>absurd (show b∈([]:List Addr) from hb) (by simp),hok,.of_eq hg⟩;refine codeAny_mono ((F _ hKb (nsK hns)).run callerA [] s₁ H ⟨[.ref a],[]⟩ [.ref a] [.ref a] _ _ hr e0 (hbind s₁ (.ref a)) (.cons rfl .nil) (hsp H hO hS)) fun r s' h=>?_;cases r with
  | error e=>exact (hCX H e s' h).elim
  | ok fl =>
   cases fl with
   | next=>exact False.elim h
   | brk=>exact False.elim h
   | cont=>exact False.elim h
   | ret u =>
    obtain ⟨v,H',os,bare,un,hok',r',q⟩:=h;have q':v=.bl true:=q;subst q';obtain rfl:u=Value.bool true:=r';refine ⟨rfl,OldK.of_keep fun b o e=>?_,os,bare⟩;cases q:H b with
    | none=>exact un.keep b o e q (by intro z;exact absurd (show b∈([]:List Addr) from z) (by simp)) (by simp)
    | some u =>
     rcases hO b with z | ⟨ob,xs,z⟩
     ·rw [q] at z;cases z
     ·have z2:=un.frzs b ob _ z;obtain ⟨e1,_⟩:=hok b _ z;obtain ⟨e2,_⟩:=hok' b _ z2;rw [e] at e1;cases e1;exact e2
 cases hk:K.lookup a with
 | some o =>
  have e:=KX a o hk;rw [ha] at e;cases e;refine core (fun _=>none) (fun _=>.inl rfl) (.inr ⟨_,vs.toArray,_,hk,rfl,rfl,rfl,by rw [List.size_toArray,lenV];exact hl,by simpa using rv⟩) (fun b u z=>by have z':(none:Option HO)=some u:=z;cases z') (fun b z=>absurd rfl z) fun z=>absurd rfl z
 | none =>
  refine core (fun b=>if b=a then some (.frz { cls:=.type "list",data:=.seq vs.toArray } (.lst (ns.map V.int))) else none) (fun b=>?_) (.inl (.inr ⟨{ cls:=.type "list",data:=.seq vs.toArray },if_pos rfl⟩)) (fun b u z=>?_) (fun b z=>?_) fun _=>hk
  ·by_cases hb:b=a
   ·exact .inr ⟨_,_,if_pos hb⟩
   ·exact .inl (if_neg hb)
  ·by_cases hb:b=a
   ·have z':=(if_pos hb).symm.trans z;cases z';subst hb;exact ⟨ha,by rw [List.length_map];exact hl,vs,_,rv,ha⟩
   ·have z':=(if_neg hb).symm.trans z;cases z'
  ·by_cases hb:b=a
   ·exact hb
   ·exact absurd (if_neg hb) z
theorem walk_of {l:PySem.W.OpenLaw} {n k:Nat} {q:Program} {loose:List Str} {XP:(Str->Option Value)->Heap->Prop} {YP:World->Heap->Prop} {d:DefRec} {K:Params->Frag} {CX:World->CXT} {sp:World->Sp} {x:Str}
  (hn:l.most=some n) (hn2:n<=sizeLine) (hdf:d.params.defaults=[]) (hr:Room k callerA)
  (hY:∀ (w:World) (h:Heap),YP w h->(K w.params).In h)
  (F:∀ (w:World) (mg:Str->Option Value) (fa:Addr) (h:Heap),(K w.params).In h->h.Ns mainGlobals mg->mg d.name=some (.ref fa) ->
   ∃ fd:FuncData,(∀ (s:Shared) (u:Value),BindsTo s fd ⟨[u],[]⟩ [(x,u)]) /\
    ∀ base:Heap,(K w.params).In base->base.Ns mainGlobals mg->FnOk l.prog w (K w.params) mg base (CX w) k fa fd [x] (sp w))
  (hsp:∀ (w:World) (H:Hp) (a:Addr) (ns:List Int),ns.length<=n->bO7 H->SqL (K w.params) H a (ns.map V.int)->sp w [.ref a] H (fun v _=>v=.bl true) fun _ _ _=>False)
  (hCX:∀ (w:World) (H:Hp) (s:Shared) (e:Value) (s':Shared),CX w [] H s (fun _ _ _=>False) e s'->False) :
  PySem.W.WalkO q loose XP YP l.row.toRowW d [] (fun f vs=>PySem.call f vs):=by
 refine Att.attach_call hn hdf fun w s₀ s₁ mg mb fa o pm cd doc a vs ns G Y ho hd hcd hmg hobj hints hlen hg=>?_;have KX:=hY w _ Y;obtain ⟨fd,hb,hF⟩:=F w mg fa _ KX G.T.g hmg;exact aE0 KX G.T.g G.T.b G.T.builtins G.T.nolimit hg hobj hints (Nat.le_trans hlen hn2) hr hF hb (fun H hO hS=>hsp w H a ns hlen hO hS) fun H e s'=>hCX w H s₁ e s'
end L2
/- THE LAST THEOREM (shape;LID,My.* are yours):
  My.Adr: a structure of the addresses that your layer names (classes,functions);My.Txt K t: a structure (Prop) of the equations over K;
  My.txt_mk:{K} {implicit addresses ..} (e1:nsIn K mainGlobals "law"=some (some (.ref f))) (e2:K.lookup f=some ⟨oc,od,.func (fnOf "law" "law" params body scope dV kV doc pm an cdv ct),sl⟩) (e3:codeIn K cdv "law"=true) ..:∃ t,My.Txt K t
set_option maxRecDepth 100000 in
set_option maxHeartbeats 0 in
theorem PySem.Challenge.cw_LID_holds : PySem.Challenge.rw_LID.Holds := by
 w_on;o_law;k_head;(case hw=>w_witness2)
 k_fill
 refine L2.walk_of (l:=PySem.Challenge.rw_LID) (n:=63) (k:=40) (x:="script") (CX:=fun w=>..) (sp:=fun _=>My.sp_law) rfl (by decide) rfl ⟨rfl,by decide,by decide⟩ (fun w h Y=>PySem.W.kIn_of Y) ?F ?S ?C
 case F =>
  intro w mg fa h KX G hmg;have T:∃ t,My.Txt (L2.KOf KX) t:=by
   dsimp only [L2.KOf]                          -- K must stand as «<heap const> w.params» for k_is;refine' My.txt_mk ?e1 ?e2 ?e3 ..
   (case e1=>PySem.W.k_is)                    -- in the order: a name->its address->its object->its parts
   (case e2=>PySem.W.k_is)
   ..
  obtain ⟨t,T⟩:=T;have e0:=hmg.symm.trans (PySem.W.mg_of KX G T.law);cases e0                                       -- fa is the law's own address;exact ⟨_,fun s u=>.of_eq rfl,fun base kb nb=>My.law_fn T kb nb⟩     -- if «.of_eq rfl» comes too early: refine' ⟨_,?b,fun base kb nb=>My.law_fn T kb nb⟩;exact fun s u=>.of_eq rfl
 case S=>exact fun w H a ns hl hO hS=>..
 case C=>exact ..
(the tactic k_is has no namespace: write k_is) -/
namespace L2
open PySem PySem.Spec PyProof.Rows
noncomputable def bM (s:Stmt):Arguments:=match s with
 | .FunctionDef _ a _ _ _ _ _ _ _ _=>a
 | _=>{ posonlyargs:=[],args:=[],vararg:=none,kwonlyargs:=[],kw_defaults:=[],kwarg:=none,defaults:=[] }
noncomputable def aX (s:Stmt):List Stmt:=match s with
 | .FunctionDef _ _ b _ _ _ _ _ _ _=>b
 | _=>[]
noncomputable def aE (s:Stmt):Scope:=match s with
 | .FunctionDef _ _ _ _ _ _ sc _ _ _=>sc
 | _=>{ kind:=.function,names:=[],isGenerator:=false,isCoroutine:=false }
abbrev CX0:CXT:=fun _ _ _ _ _ _=>False
abbrev E0:XK:=fun _ _ _=>False
theorem wD {X:Cx}:iT CX0 X E0:=fun _ _ _ _ _ _ _ h=>h.elim
structure Fun (K:Frag) (x qual:Str) (st:Stmt) (f:Addr) (fd:FuncData):Prop where
 ex:∃ (oc:Value) (od:Option Addr) (kV doc pm:Value) (an:Option Addr) (cdv ct:Value) (osl:Array (Option Value)),
  fd=PySem.W.fnOf x qual (bM st) (aX st) (aE st) .none kV doc pm an cdv ct/\K.lookup f=some ⟨oc,od,.func fd,osl⟩/\PySem.W.codeIn K cdv qual=true
 kp:PySem.W.keepIn K (.ref f)=true
section
variable {P:Program} {w:World} {K:Frag} {mg:Str->Option Value} {base:Heap}
theorem Fun.ok {x qual:Str} {st:Stmt} {f:Addr} {fd:FuncData} {N ps:List Str} {k:Nat} {sp:Sp} (F:Fun K x qual st f fd) (S:FnScope N ps (aE st)) (len:∀ vs H Q E,sp vs H Q E->vs.length=ps.length)
  (hbody:∀ (cdv:Value) (A:Around) (outer:List Env) (s:Shared) (H:Hp) (vs:List V) (Q:VK) (E:XK),Room k (A.deeper (envOfC qual (aE st) s.heap.objs.size f cdv))->sp vs H Q E ->
   ∃ t,PSs (mL CX0 P w K mg base N qual (aE st) f cdv A outer s H E).nox (aX st) t/\t { nx:=fun _ H'=>Q .non H',rt:=Q } (start N vs) H):FnOk P w K mg base CX0 (k+1) f fd ps sp:=by
 obtain ⟨oc,od,kV,doc,pm,an,cdv,ct,osl,rfl,lk,hcd⟩:=F.ex;refine bE8 lk hcd S len fun A outer s H vs Q E hr hsp=>?_;obtain ⟨t,h,q⟩:=hbody cdv A outer s H vs Q E hr hsp;exact ⟨t,h.nox,q⟩
theorem Fun.binds {x qual:Str} {st:Stmt} {f:Addr} {fd:FuncData} {ps:List Str} (F:Fun K x qual st f fd)
  (h:∀ (kV doc pm:Value) (an:Option Addr) (cdv ct:Value) (us:List Value),us.length=ps.length->bindArgs (PySem.W.fnOf x qual (bM st) (aX st) (aE st) .none kV doc pm an cdv ct) ⟨us,[]⟩=pure (ps.zip us)):Binds K fd ps []:=by
 obtain ⟨oc,od,kV,doc,pm,an,cdv,ct,osl,rfl,lk,hcd⟩:=F.ex;exact .all (h kV doc pm an cdv ct)
theorem uG {x qual:Str} {st:Stmt} {f:Addr} {oc:Value} {od an:Option Addr} {osl:Array (Option Value)} {kV doc pm cdv ct:Value} (l:K.lookup f=some ⟨oc,od,.func (PySem.W.fnOf x qual (bM st) (aX st) (aE st) .none kV doc pm an cdv ct),osl⟩)
  (c:PySem.W.codeIn K cdv qual=true) (k:PySem.W.keepIn K (.ref f)=true):Fun K x qual st f (PySem.W.fnOf x qual (bM st) (aX st) (aE st) .none kV doc pm an cdv ct):=⟨⟨oc,od,kV,doc,pm,an,cdv,ct,osl,rfl,l,c⟩,k⟩
end
section
variable {X:Cx}
end
def Same (H H':Hp):Prop:=∀ b o,H b=some o->H' b=some o
theorem Same.trans {H H1 H2:Hp} (a:Same H H1) (b:Same H1 H2):Same H H2:=fun c o h=>b c o (a c o h)
theorem Same.free {H H':Hp} (e:Same H H') {l:Addr} (h:H' l=Option.none):H l=Option.none:=by
 cases q:H l with
 | none=>rfl
 | some o =>
  rw [e l o q] at h;cases h
theorem Same.seq {K:Frag} {H H':Hp} {a:Addr} {xs:List V} (e:Same H H') (h:SqL K H a xs):SqL K H' a xs:=by
 rcases h with (h | ⟨o,h⟩) | h
 ·exact .inl (.inl (e _ _ h))
 ·exact .inl (.inr ⟨o,e _ _ h⟩)
 ·exact .inr h
end L2
set_option maxHeartbeats 4000000
namespace L2
open PySem PySem.Spec PyProof.Rows
section
variable {κ:Type} [DecidableEq κ]
noncomputable def dZ (kvs:List (κ×V)) (k:κ):Option V:=(kvs.find? fun kv=>decide (kv.1=k)).map (·.2)
noncomputable def gT (kvs:List (κ×V)) (k:κ) (v:V):List (κ×V) :=
 if (kvs.any fun kv=>decide (kv.1=k))=true then kvs.map (fun kv=>if kv.1=k then (kv.1,v) else kv) else kvs++[(k,v)]
noncomputable def bF0 (kvs:List (κ×V)) (k:κ):List (κ×V):=kvs.filter fun kv=>decide (kv.1≠k)
theorem kQ {p:κ×V} {r:List (κ×V)} {k:κ} (e:p.1=k):dZ (p::r) k=some p.2:=by simp [dZ,List.find?_cons,e]
theorem kR {p:κ×V} {r:List (κ×V)} {k:κ} (e:¬ p.1=k):dZ (p::r) k=dZ r k:=by simp [dZ,List.find?_cons,e]
theorem rG (k:κ):∀ kvs:List (κ×V),(kvs.any fun kv=>decide (kv.1=k))=(dZ kvs k).isSome
 | []=>rfl
 | p::r=>by
  rw [List.any_cons]
  by_cases e:p.1=k
  ·simp only [kQ e,decide_eq_true e,Bool.true_or,Option.isSome_some]
  ·rw [kR e,decide_eq_false e,Bool.false_or];exact rG k r
theorem rH (kvs:List (κ×V)) (k:κ) (v:V):(gT kvs k v).length<=kvs.length+1:=by
 unfold gT;split
 ·rw [List.length_map];omega
 ·rw [List.length_append,List.length_cons,List.length_nil];omega
theorem RelO.isSome_eq {o:Option V} {u:Option Value} (r:RelO o u):o.isSome=u.isSome:=by
 cases o with
 | none=>cases u with
  | none=>rfl
  | some _=>exact (show False from r).elim
 | some _=>cases u with
  | none=>exact (show False from r).elim
  | some _=>rfl
theorem RelO.getD {o:Option V} {u:Option Value} {d:V} {d':Value} (r:RelO o u) (rd:RelV d d'):RelV (o.getD d) (u.getD d'):=by
 cases o with
 | none=>cases u with
  | none=>exact rd
  | some _=>exact (show False from r).elim
 | some _=>cases u with
  | none=>exact (show False from r).elim
  | some _=>exact r
theorem KV.val {kvs:List (κ×V)} {vs:List (κ×Value)} (r:KV kvs vs) (k:κ):RelO (dZ kvs k) (valueAt vs k):=by
 unfold KV at r;induction r with
 | nil=>exact True.intro
 | @cons p q ps qs h t ih =>
  obtain ⟨h1,h2⟩:=h
  by_cases e:p.1=k
  ·have e':q.1=k:=h1.symm.trans e;have b:valueAt (q::qs) k=some q.2:=by simp [valueAt,List.find?_cons,e']
   rw [kQ e,b];exact h2
  ·have e':¬ q.1=k:=fun z=>e (h1.trans z);have b:valueAt (q::qs) k=valueAt qs k:=by simp [valueAt,List.find?_cons,e']
   rw [kR e,b];exact ih
theorem KV.any {kvs:List (κ×V)} {vs:List (κ×Value)} (r:KV kvs vs) (k:κ):(kvs.any fun kv=>decide (kv.1=k))=vs.any fun kv=>decide (kv.1=k):=by
 unfold KV at r;induction r with
 | nil=>rfl
 | cons h t ih=>rw [List.any_cons,List.any_cons,ih,h.1]
theorem KV.repl {kvs:List (κ×V)} {vs:List (κ×Value)} (r:KV kvs vs) (k:κ) {y:V} {u:Value} (ry:RelV y u) :
  KV (kvs.map fun kv=>if kv.1=k then (kv.1,y) else kv) (vs.map fun kv=>if kv.1=k then (kv.1,u) else kv):=by
 unfold KV at r ⊢;induction r with
 | nil=>exact .nil
 | @cons p q ps qs h t ih =>
  rw [List.map_cons,List.map_cons];refine .cons ?_ ih;obtain ⟨h1,h2⟩:=h
  by_cases e:p.1=k
  ·rw [if_pos e,if_pos (h1.symm.trans e)];exact ⟨h1,ry⟩
  ·rw [if_neg e,if_neg (fun z=>e (h1.trans z))];exact ⟨h1,h2⟩
theorem KV.put {kvs:List (κ×V)} {vs:List (κ×Value)} (r:KV kvs vs) (k:κ) {y:V} {u:Value} (ry:RelV y u):KV (gT kvs k y) (stored vs k u):=by
 unfold gT stored;rw [r.any k]
 by_cases e:(vs.any fun kv=>decide (kv.1=k))=true
 ·rw [if_pos e,if_pos e];exact r.repl k ry
 ·rw [if_neg e,if_neg e];exact Paired.snoc r ⟨rfl,ry⟩
theorem KV.drop {kvs:List (κ×V)} {vs:List (κ×Value)} (r:KV kvs vs) (k:κ):KV (bF0 kvs k) (without vs k):=by
 unfold KV at r ⊢;unfold bF0 without;induction r with
 | nil=>exact .nil
 | @cons p q ps qs h t ih =>
  obtain ⟨h1,h2⟩:=h;rw [List.filter_cons,List.filter_cons]
  by_cases e:p.1=k
  ·have a:¬ decide (p.1≠k)=true:=by simp [e]
   have b:¬ decide (q.1≠k)=true:=by simp [h1.symm.trans e]
   rw [if_neg a,if_neg b];exact ih
  ·have e':¬ q.1=k:=fun z=>e (h1.trans z);have a:decide (p.1≠k)=true:=by simp [e]
   have b:decide (q.1≠k)=true:=by simp [e']
   rw [if_pos a,if_pos b];exact .cons ⟨h1,h2⟩ ih
theorem KV.length {kvs:List (κ×V)} {vs:List (κ×Value)} (r:KV kvs vs):kvs.length=vs.length:=Paired.length r
end
theorem rJ {P:Program} {w:World} {k:Key} {u:Value} (r:RelV (kV k) u):(cG P w).is k u=true:=by
 cases k with
 | inl i=>obtain ⟨t,e⟩:=(show ∃ t,u=Value.int i t from r);subst e;exact qV P w i t
 | inr x=>obtain ⟨t,e⟩:=(show ∃ t,u=Value.str x t from r);subst e;exact qW P w x t
theorem nJ {P:Program} {w:World}:∀ {ks:List Key} {us:List Value},Vals (ks.map kV) us->ItemsAre (cG P w) ks us
 | [],_,r=>by rw [List.map_nil] at r;cases r;exact .nil
 | k::ks,_,r=>by
  rw [List.map_cons] at r;cases r with
  | cons h t=>exact .cons (rJ h) (nJ t)
abbrev KT (H:Hp):List (List Key×V)->List (List Key×Addr×Value)->Prop:=Paired fun p q=>p.1=q.1/\H q.2.1=some (.tup (p.1.map kV))/\RelV p.2 q.2.2
theorem KT.val {H:Hp} {kvs:List (List Key×V)} {xs:List (List Key×Addr×Value)} (r:KT H kvs xs) (k:List Key):RelO (dZ kvs k) ((atKey xs k).map (·.2)):=by
 induction r with
 | nil=>exact True.intro
 | @cons p q ps qs h t ih =>
  obtain ⟨h1,_,h2⟩:=h
  by_cases e:p.1=k
  ·have e':q.1=k:=h1.symm.trans e;have b:atKey (q::qs) k=some q.2:=by simp [atKey,List.find?_cons,e']
   rw [kQ e,b];exact h2
  ·have e':¬ q.1=k:=fun z=>e (h1.trans z);have b:atKey (q::qs) k=atKey qs k:=by simp [atKey,List.find?_cons,e']
   rw [kR e,b];exact ih
theorem KT.repl {H:Hp} {kvs:List (List Key×V)} {xs:List (List Key×Addr×Value)} (r:KT H kvs xs) (k:List Key) {y:V} {u:Value} (ry:RelV y u) :
  KT H (kvs.map fun kv=>if kv.1=k then (kv.1,y) else kv) (xs.map (putAt k u)):=by
 induction r with
 | nil=>exact .nil
 | @cons p q ps qs h t ih =>
  rw [List.map_cons,List.map_cons];refine .cons ?_ ih;obtain ⟨h1,h2,h3⟩:=h;unfold putAt
  by_cases e:p.1=k
  ·rw [if_pos e,if_pos (h1.symm.trans e)];exact ⟨h1,h2,ry⟩
  ·rw [if_neg e,if_neg (fun z=>e (h1.trans z))];exact ⟨h1,h2,h3⟩
theorem KT.put {H:Hp} {kvs:List (List Key×V)} {xs:List (List Key×Addr×Value)} (r:KT H kvs xs) (k:List Key) {b:Addr} {y:V} {u:Value} (hb:H b=some (.tup (k.map kV))) (ry:RelV y u) :
  KT H (gT kvs k y) (storedH xs k b u):=by
 have e:(kvs.any fun kv=>decide (kv.1=k))=(atKey xs k).isSome:=by
  rw [rG,(r.val k).isSome_eq,Option.isSome_map]
 unfold gT storedH;rw [e]
 by_cases q:(atKey xs k).isSome=true
 ·rw [if_pos q,if_pos q];exact r.repl k ry
 ·rw [if_neg q,if_neg q];exact Paired.snoc r ⟨rfl,hb,ry⟩
theorem KT.keeps {H H':Hp} {kvs:List (List Key×V)} {xs:List (List Key×Addr×Value)} (r:KT H kvs xs) (ht:∀ b ys,H b=some (.tup ys)->H' b=some (.tup ys)):KT H' kvs xs :=
 Paired.mapP r fun _ _ z=>⟨z.1,ht _ _ z.2.1,z.2.2⟩
section
variable {P:Program} {w:World} {H:Hp} {h:Heap} {a:Addr}
theorem bF1 {u:HO} (ok:HOk P w H h) (e:Rd H a u):ObjOk P w H h a u:=e.ok ok
theorem kS {kvs:List (Key×V)} (ok:HOk P w H h) (e:Rd H a (.dK kvs)):kvs.length<=sizeLine/\(a==sysModules)=false/\∃ vs,KV kvs vs/\h.DictOf (cG P w) a vs :=
 show ObjOk P w H h a (.dK kvs) from bF1 ok e
theorem cI0 {kvs:List (Key×V)} (ok:HOk P w H h) (e:H a=some (.dK kvs)):kvs.length<=sizeLine/\(a==sysModules)=false/\∃ vs,KV kvs vs/\h.DictOf (cG P w) a vs:=kS ok (.inl e)
theorem oZ {ks:List Key} (ok:HOk P w H h) (e:H a=some (.tup (ks.map kV))):(tupleKind (cG P w)).is h ks a:=by
 obtain ⟨_,its,r,o,h1,h2,⟨n,h3⟩,_⟩:=(show ObjOk P w H h a (.tup (ks.map kV)) from ok a _ e);exact ⟨o,its.toArray,n,h1,h2,h3,by simpa using nJ r⟩
theorem wE {kvs:List (List Key×V)} (ok:HOk P w H h) (e:Rd H a (.dT kvs)):kvs.length<=sizeLine/\(a==sysModules)=false /\
  ∃ xs,KT H kvs xs/\h.DictOfH (tupleKind (cG P w)) a xs:=by
 obtain ⟨z,y,xs,r,o,es,ep,h1,h2,h3,h4,h5⟩:=(show ObjOk P w H h a (.dT kvs) from bF1 ok e);refine ⟨z,y,xs,r,o,es,ep,h1,h2,h3,h4,fun x hx=>?_,h5⟩;have all:∀ {l:List (List Key×V)} {m:List (List Key×Addr×Value)},KT H l m->∀ x∈m,(tupleKind (cG P w)).is h x.1 x.2.1:=by
  intro l m q;induction q with
  | nil=>intro x hx;exact nomatch hx
  | @cons p q ps qs hq t ih =>
   intro x hx;rcases List.mem_cons.mp hx with e | hx
   ·subst e;exact oZ ok (by rw [<- hq.1];exact hq.2.1)
   ·exact ih x hx
 exact all r x hx
end
def DGet (H:Hp) (a:Addr) (y:V) (r:Option V):Prop :=
 (∃ kvs k,Rd H a (.dK kvs)/\y=kV k/\r=dZ kvs k)\/∃ kvs k b,Rd H a (.dT kvs)/\y=.ref b/\H b=some (.tup (k.map kV))/\r=dZ kvs k
def DPut (H:Hp) (a:Addr) (y v:V) (H':Hp):Prop :=
 (∃ kvs k,H a=some (.dK kvs)/\y=kV k/\kvs.length < sizeLine/\H'=upd H a (.dK (gT kvs k v))) \/
 ∃ kvs k b,H a=some (.dT kvs)/\y=.ref b/\H b=some (.tup (k.map kV))/\kvs.length < sizeLine/\H'=upd H a (.dT (gT kvs k v))
theorem DGet.k {H:Hp} {a:Addr} {kvs:List (Key×V)} {k:Key} (e:H a=some (.dK kvs)):DGet H a (kV k) (dZ kvs k):=.inl ⟨kvs,k,.inl e,rfl,rfl⟩
theorem DGet.t {H:Hp} {a b:Addr} {kvs:List (List Key×V)} {k:List Key} (e:H a=some (.dT kvs)) (eb:H b=some (.tup (k.map kV))):DGet H a (.ref b) (dZ kvs k):=.inr ⟨kvs,k,b,.inl e,rfl,eb,rfl⟩
theorem DPut.k {H:Hp} {a:Addr} {kvs:List (Key×V)} {k:Key} {v:V} (e:H a=some (.dK kvs)) (hl:kvs.length < sizeLine):DPut H a (kV k) v (upd H a (.dK (gT kvs k v))):=.inl ⟨kvs,k,e,rfl,hl,rfl⟩
theorem DPut.t {H:Hp} {a b:Addr} {kvs:List (List Key×V)} {k:List Key} {v:V} (e:H a=some (.dT kvs)) (eb:H b=some (.tup (k.map kV))) (hl:kvs.length < sizeLine) :
  DPut H a (.ref b) v (upd H a (.dT (gT kvs k v))):=.inr ⟨kvs,k,b,e,rfl,eb,hl,rfl⟩
section
variable {X:Cx} {pins:List (Addr×Obj)} {σ:St} {H:Hp} {s:Shared} {a:Addr} {y v:V} {u r:Value} {o:Option V} {A:Around} {E:Value->Shared->Prop}
theorem yC {Q:Value->Shared->Prop} (hu:A.units+1 < cLine) (I:Inv X pins σ H s) (g:DGet H a y (some v)) (ry:RelV y u) (h:∀ w' s',Inv X pins σ H s'->RelV v w'->Q w' s') :
  wpAny (model X.prog X.w) A (getItem (.ref a) u) Q E s:=by
 rcases g with ⟨kvs,k,e,ey,l⟩ | ⟨kvs,k,b,e,ey,eb,l⟩
 ·subst ey;obtain ⟨z,hd,vs,rel,dd⟩:=kS I.hok e;obtain ⟨w',hw,rw'⟩:=RelO.some_of (v:=v) (o:=valueAt vs k) (by rw [l];exact rel.val k);exact wpAny_getItem_of (rJ ry) dd.mapOf hw (h w' _ (I.tok _) rw')
 ·subst ey;cases (show u=Value.ref b from ry);obtain ⟨z,hd,xs,rel,dd⟩:=wE I.hok e;obtain ⟨w',hw,rw'⟩:=RelO.some_of (v:=v) (o:=(atKey xs k).map (·.2)) (by rw [l];exact rel.val k);obtain ⟨p,hp,hp2⟩:=Option.map_eq_some_iff.mp hw;refine wpAny_getItem_heap (tupleKind_room_in1 hu) (oZ I.hok eb) dd hp ?_;rw [hp2];exact h w' _ (I.tok _) rw'
theorem cY8 {Q:Value->Shared->Prop} (hu:A.units+1 < cLine) (I:Inv X pins σ H s) (g:DGet H a y o) (ry:RelV y u) (h:∀ s',Inv X pins σ H s'->Q (.bool o.isSome) s') :
  wpAny (model X.prog X.w) A (compareOp .In u (.ref a)) Q E s:=by
 rcases g with ⟨kvs,k,e,ey,l⟩ | ⟨kvs,k,b,e,ey,eb,l⟩
 ·subst ey;obtain ⟨z,hd,vs,rel,dd⟩:=kS I.hok e;refine wpAny_in_of (rJ ry) hd dd.mapOf ?_;rw [<- (rel.val k).isSome_eq,<- l];exact h _ (I.tok _)
 ·subst ey;cases (show u=Value.ref b from ry);obtain ⟨z,hd,xs,rel,dd⟩:=wE I.hok e;refine wpAny_in_heap (tupleKind_room_in1 hu) (oZ I.hok eb) hd dd ?_;have q:=(rel.val k).isSome_eq;rw [Option.isSome_map] at q;rw [<- q,<- l];exact h _ (I.tok _)
theorem aS9 {Q:Value->Shared->Prop} (hu:A.units+1 < cLine) (I:Inv X pins σ H s) (g:DGet H a y o) (ry:RelV y u) (h:∀ s',Inv X pins σ H s'->Q (.bool (!o.isSome)) s') :
  wpAny (model X.prog X.w) A (compareOp .NotIn u (.ref a)) Q E s:=by
 rcases g with ⟨kvs,k,e,ey,l⟩ | ⟨kvs,k,b,e,ey,eb,l⟩
 ·subst ey;obtain ⟨z,hd,vs,rel,dd⟩:=kS I.hok e;refine wpAny_notIn_of (rJ ry) hd dd.mapOf ?_;rw [<- (rel.val k).isSome_eq,<- l];exact h _ (I.tok _)
 ·subst ey;cases (show u=Value.ref b from ry);obtain ⟨z,hd,xs,rel,dd⟩:=wE I.hok e;refine wpAny_notIn_heap (tupleKind_room_in1 hu) (oZ I.hok eb) hd dd ?_;have q:=(rel.val k).isSome_eq;rw [Option.isSome_map] at q;rw [<- q,<- l];exact h _ (I.tok _)
theorem aT1 {h':Heap} {t':Nat} {ob:HO} (I:Inv X pins σ H s) (mu:Mut (H a)) (hs:Heap.SameBut a s.heap h') (he:∃ q,h'.get? a=some q) (new:ObjOk X.prog X.w (upd H a ob) h' a ob) :
  Inv X pins σ (upd H a ob) { s with heap:=h',toks:=t' } :=
 I.write (x:=a) (e:=a) mu (.inl rfl) (fun b q hb z=>(hs.2 b hb).trans z) he new
theorem bO8 {P:Program} {w:World} {H':Hp} {h':Heap} {kvs:List (Key×V)} {vs:List (Key×Value)} (z:kvs.length<=sizeLine) (hd:(a==sysModules)=false) (rel:KV kvs vs) (dd:h'.DictOf (cG P w) a vs) :
  ObjOk P w H' h' a (.dK kvs):=⟨z,hd,vs,rel,dd⟩
end
section
variable {X:Cx} {pins:List (Addr×Obj)} {σ:St} {H:Hp} {s:Shared} {a:Addr} {kvs:List (Key×V)} {k:Key} {u:Value} {A:Around} {E:Value->Shared->Prop}
end
theorem rK {X:Cx} {pins:List (Addr×Obj)} {σ:St} {H:Hp} {s:Shared} {a:Addr} {y:V} {o:Option V} (I:Inv X pins σ H s) (g:DGet H a y o):s.TypeIs (.ref a) "dict":=by
 rcases g with ⟨kvs,k,e,_,_⟩ | ⟨kvs,k,b,e,_,_,_⟩
 ·obtain ⟨_,_,vs,_,dd⟩:=kS I.hok e;exact dd.typeIs
 ·obtain ⟨_,_,xs,_,dd⟩:=wE I.hok e;exact dd.typeIs
section
variable {X:Cx} {o i e value:Expr} {pos pos' tpos:Pos} {td ty tv:TE}
end
section
variable {X:Cx} {pos:Pos}
end
section
variable {X:Cx} {pins:List (Addr×Obj)} {σ:St} {H:Hp} {s:Shared} {a:Addr} {y d:V} {u r:Value} {o:Option V} {A:Around} {E:Value->Shared->Prop}
end
section
variable {X:Cx} {o e f:Expr} {apos cpos:Pos} {td ty tx:TE}
end
section
variable {X:Cx} {pins:List (Addr×Obj)} {σ:St} {H:Hp} {s:Shared} {a:Addr} {kvs:List (Key×V)} {A:Around} {E:Value->Shared->Prop}
end
section
variable {X:Cx} {pins:List (Addr×Obj)} {σ:St} {H:Hp} {s:Shared} {a:Addr} {y:V} {u:Value} {A:Around} {E:Value->Shared->Prop}
end
theorem pA {a b:Nat} (z:a=b+1) (h:a < b):False:=by omega
structure CompSc (N N':List Str) (ixs:List (Option Nat)) (S sc:Scope):Prop where
 kind:sc.kind=.function
 nocell:∀ y∈sc.names,y.2≠.cell
 loc:∀ y∈sc.names,y.2=.local->sc.names.lookup y.1=some .local
 free:∀ y∈sc.names,y.2=.free->S.names.lookup y.1=some .cell\/S.names.lookup y.1=some .free
 nd:N'.Nodup
 len:ixs.length=N'.length
 cap:((ixs.zip N').all fun p=>match p.1 with
  | none=>true
  | some i=>decide (N[i]?=some p.2)&&decide (sc.names.lookup p.2=some NameKind.free))=true
noncomputable def mN (ixs:List (Option Nat)) (σ:St):St:=ixs.map fun o=>o.bind fun i=>(σ[i]?).bind id
theorem CompSc.at {N N':List Str} {ixs:List (Option Nat)} {S sc:Scope} (h:CompSc N N' ixs S sc) {j i:Nat} {x:Str} (e1:N'[j]?=some x) (e2:ixs[j]?=some (some i)) :
  N[i]?=some x/\sc.names.lookup x=some .free:=by
 have hm:(some i,x)∈ixs.zip N':=by
  refine List.mem_of_getElem? (i:=j) ?_;rw [List.getElem?_zip_eq_some];exact ⟨e2,e1⟩
 have q:=List.all_eq_true.mp h.cap _ hm;simp only [Bool.and_eq_true,decide_eq_true_eq] at q;exact q
theorem aT2 {ixs:List (Option Nat)} {σ:St} {j:Nat} {v:V} (e:(mN ixs σ)[j]?=some (some v)):∃ i,ixs[j]?=some (some i)/\σ[i]?=some (some v):=by
 unfold mN at e;rw [List.getElem?_map] at e;cases h:ixs[j]? with
 | none=>rw [h] at e;cases e
 | some o =>
  rw [h] at e;cases o with
  | none=>cases e
  | some i =>
   refine ⟨i,rfl,?_⟩;have e':(σ[i]?).bind id=some v:=Option.some.inj e;cases q:σ[i]? with
   | none=>rw [q] at e';cases e'
   | some w=>rw [q] at e';exact congrArg some e'
theorem fS {env:Env}:∀ (names:List (Str×NameKind)) (acc:List (Str×Addr)),(∀ y∈names,y.2=.free->∃ c,env.cells.lookup y.1=some c) ->
  (∀ x c,acc.lookup x=some c->env.cells.lookup x=some c) ->
  ∃ cl,(∀ x c,cl.lookup x=some c->env.cells.lookup x=some c)/\(∀ y∈names,y.2=.free->∃ c,cl.lookup y.1=some c)/\(∀ x c,acc.lookup x=some c->∃ d,cl.lookup x=some d) /\
   (forIn names acc fun (x:Str×NameKind) (r:List (Str×Addr))=>(if (x.2==NameKind.free)=true then (do let a <- cellOf env x.1;pure (ForInStep.yield ((x.1,a)::r))) else pure (ForInStep.yield r):Sem (ForInStep (List (Str×Addr)))))=(pure cl:Sem (List (Str×Addr)))
 | [],acc,_,ha=>⟨acc,ha,fun _ h=>(nomatch h),fun x c h=>⟨c,h⟩,rfl⟩
 | (n,k)::r,acc,h,ha=>by
  by_cases hk:k=.free
  ·subst hk;obtain ⟨c,hc⟩:=h (n,.free) List.mem_cons_self rfl;obtain ⟨cl,h1,h2,h3,h4⟩:=fS r ((n,c)::acc) (fun y hy=>h y (List.mem_cons_of_mem _ hy)) (fun x d hd=>by
    rw [List.lookup_cons] at hd;cases q:x==n with
    | true =>
     rw [q] at hd;have e1:x=n:=by simpa using q
     have e2:c=d:=Option.some.inj hd;rw [e1,<- e2];exact hc
    | false=>rw [q] at hd;exact ha x d hd)
   refine ⟨cl,h1,fun y hy hf=>?_,fun x d hd=>?_,?_⟩
   ·rcases List.mem_cons.mp hy with e | hy
    ·subst e;exact h3 n c (by simp [List.lookup_cons])
    ·exact h2 y hy hf
   ·cases q:x==n with
    | true =>
     have e1:x=n:=by simpa using q
     subst e1;exact h3 x c (by simp [List.lookup_cons])
    | false=>exact h3 x d (by rw [List.lookup_cons,q];exact hd)
   ·rw [<- h4,List.forIn_cons];have e:cellOf env n=pure c:=by unfold cellOf;rw [hc]
    show ((if (NameKind.free==NameKind.free)=true then (do let a <- cellOf env n;pure (ForInStep.yield ((n,a)::acc))) else pure (ForInStep.yield acc):Sem _) >>= _)=_;rw [if_pos (by decide),e];rfl
  ·obtain ⟨cl,h1,h2,h3,h4⟩:=fS r acc (fun y hy=>h y (List.mem_cons_of_mem _ hy)) ha;refine ⟨cl,h1,fun y hy hf=>?_,h3,?_⟩
   ·rcases List.mem_cons.mp hy with e | hy
    ·subst e;exact absurd hf hk
    ·exact h2 y hy hf
   ·rw [<- h4,List.forIn_cons];have e:(k==NameKind.free)=false:=by simpa using hk
    show ((if (k==NameKind.free)=true then (do let a <- cellOf env n;pure (ForInStep.yield ((n,a)::acc))) else pure (ForInStep.yield acc):Sem _) >>= _)=_;rw [if_neg (by rw [e];exact Bool.false_ne_true)];rfl
theorem kT {sc:Scope} {env:Env} (h:∀ y∈sc.names,y.2=.free->∃ c,env.cells.lookup y.1=some c) :
  ∃ cl,closureFor sc env=pure cl/\(∀ x c,cl.lookup x=some c->env.cells.lookup x=some c)/\(∀ y∈sc.names,y.2=.free->∃ c,cl.lookup y.1=some c):=by
 obtain ⟨cl,h1,h2,_,h4⟩:=fS (env:=env) sc.names [] h (fun x c e=>by simp at e);refine ⟨cl,?_,h1,h2⟩;unfold closureFor;exact (congrArg (fun m:Sem (List (Str×Addr))=>m >>= fun r=>pure r) h4).trans rfl
theorem dQ {env:Env} {x:Str}:∀ {names:List (Str×NameKind)} {k:NameKind},names.lookup x=some k ->
  (names.map fun (n,k)=>if (k==NameKind.free&&env.scope.kind==.function&&env.kindOf n==some .cell) then (n,NameKind.cell) else (n,k)).lookup x
   = some (if (k==NameKind.free&&env.scope.kind==.function&&env.kindOf x==some .cell) then NameKind.cell else k)
 | [],_,h=>by simp at h
 | (n,k0)::r,k,h=>by
  rw [List.lookup_cons] at h;rw [List.map_cons];cases q:x==n with
  | true =>
   have e1:x=n:=by simpa using q
   subst e1;rw [q] at h;have e2:k0=k:=Option.some.inj h;subst e2;dsimp only
   by_cases hc:(k0==NameKind.free&&env.scope.kind==.function&&env.kindOf x==some .cell)=true
   ·rw [if_pos hc,if_pos hc,List.lookup_cons,q]
   ·rw [if_neg hc,if_neg hc,List.lookup_cons,q]
  | false =>
   rw [q] at h;have ih:=dQ (env:=env) h;dsimp only
   by_cases hc:(k0==NameKind.free&&env.scope.kind==.function&&env.kindOf n==some .cell)=true
   ·rw [if_pos hc,List.lookup_cons,q];exact ih
   ·rw [if_neg hc,List.lookup_cons,q];exact ih
theorem iA {env:Env} {x:Str}:∀ {names:List (Str×NameKind)},names.lookup x=none ->
  (names.map fun (n,k)=>if (k==NameKind.free&&env.scope.kind==.function&&env.kindOf n==some .cell) then (n,NameKind.cell) else (n,k)).lookup x=none
 | [],_=>rfl
 | (n,k0)::r,h=>by
  rw [List.lookup_cons] at h;rw [List.map_cons];cases q:x==n with
  | true=>rw [q] at h;cases h
  | false =>
   rw [q] at h;have ih:=iA (env:=env) h;dsimp only
   by_cases hc:(k0==NameKind.free&&env.scope.kind==.function&&env.kindOf n==some .cell)=true
   ·rw [if_pos hc,List.lookup_cons,q];exact ih
   ·rw [if_neg hc,List.lookup_cons,q];exact ih
noncomputable def blk (X:Cx) (N':List Str) (sc:Scope) (cl:List (Str×Addr)) (C:Addr) (s2:Shared) (H2:Hp) (fp:List Addr):Cx :=
 { X with N:=N',s₀:=s2,H₀:=H2,env:=compEnvC sc cl C X.env,outer:=X.stack,ex:=fp,fn:=fun _=>false,pn:=[] }
theorem yD {X:Cx} {pins:List (Addr×Obj)} {σ:St} {H2:Hp} {s2:Shared} {N':List Str} {ixs:List (Option Nat)} {S sc:Scope} {cl:List (Str×Addr)} {fp:List Addr} {h1:Heap} {tk n0:Nat}
  (I:Inv X pins σ H2 s2) (hS:X.env.scope=S) (SC:CompSc X.N N' ixs S sc) (hcl1:∀ x c,cl.lookup x=some c->X.env.cells.lookup x=some c) (hcl2:∀ y∈sc.names,y.2=.free->∃ c,cl.lookup y.1=some c)
  (hf:∀ b∈fp,gR X pins H2 b) (hfl:∀ b∈fp,b < s2.heap.objs.size) (hns:h1.Ns (s2.heap.objs.size+1) fun _=>none)
  (keep:∀ b o,s2.heap.get? b=some o->h1.get? b=some o) (ha:h1.get? s2.heap.objs.size=some { cls:=.type "list",data:=.seq ([]:List Value).toArray n0 }) :
  Inv (blk X N' sc cl (s2.heap.objs.size+1) s2 H2 fp) [] (mN ixs σ) (upd H2 s2.heap.objs.size (.lst [])) { s2 with heap:=h1,toks:=tk }:=by
 have kfree:∀ {x:Str} {k:NameKind},(relabel sc X.env).names.lookup x=some k->k=.cell\/k=.free->(x,NameKind.free)∈sc.names:=fun {x k} e hk=>by
  cases q:sc.names.lookup x with
  | none =>
   have z:=iA (env:=X.env) q;have z':(relabel sc X.env).names.lookup x=none:=z;rw [e] at z';cases z'
  | some k0 =>
   have z:=dQ (env:=X.env) q;have z':(relabel sc X.env).names.lookup x=_:=z;rw [e] at z';have m:=PySem.mem_of_lookup q;have hz:=Option.some.inj z'
   by_cases hc:(k0==NameKind.free&&X.env.scope.kind==.function&&X.env.kindOf x==some .cell)=true
   ·have h0:k0=.free:=by
     simp only [Bool.and_eq_true,beq_iff_eq] at hc;exact hc.1.1
    rw [<- h0];exact m
   ·rw [if_neg hc] at hz;subst hz;rcases hk with hk | hk
    ·exact absurd hk (SC.nocell _ m)
    ·rw [<- hk];exact m
 have fr:H2 s2.heap.objs.size=none:=I.hok.fresh (Nat.le_refl _);have frC:H2 (s2.heap.objs.size+1)=none:=I.hok.fresh (Nat.le_succ _);have cl_lt:∀ x c,X.env.cells.lookup x=some c->c < s2.heap.objs.size:=fun x c e=>by
  obtain ⟨v,q⟩:=I.cell x c e;exact q.lt
 have ok:(blk X N' sc cl (s2.heap.objs.size+1) s2 H2 fp).Ok:={
  mod:=I.ok.mod
  kind:=SC.kind
  glob:=I.ok.glob
  blt:=I.ok.blt
  above:=Nat.le_succ _
  inj:=fun x y c e1 e2=>I.ok.inj x y c (hcl1 x c e1) (hcl1 y c e2)
  has:=fun x hx=>by
   rcases hx with hx | hx
   ·exact hcl2 _ (kfree hx (.inl rfl)) rfl
   ·exact hcl2 _ (kfree hx (.inr rfl)) rfl
  cab:=fun x c h=>absurd (show false=true from h) Bool.false_ne_true
  hd:=I.ok.hd
  frames:=I.ok.frames
  stk:=.inl rfl
  exf:=fun b hb=>⟨Nat.ne_of_lt (Nat.lt_succ_of_lt (hfl b hb)),fun x c e=>(hf b hb).2.2.2.2.1 x c (hcl1 x c e)⟩
  bs:=I.bs
  bsz:=Nat.le_trans I.ok.bsz I.sz
  noex:=fun b o e hb=>by
   rcases (hf b hb).2.2.2.1 with z | z
   ·exact I.ok.noex b o e z
   ·exact absurd (Nat.lt_of_lt_of_le (Heap.lt_size e) (Nat.le_trans I.ok.bsz z)) (Nat.lt_irrefl _)
  exfs:=fun b hb hz=>by
   rcases List.mem_cons.mp (I.stkSub b hz) with z | z
   ·exact (hf b hb).2.1 z
   ·exact (hf b hb).2.2.1 z
  funs:=I.stack
  frf:=I.stkFree }
 refine ⟨ok,rfl,I.bare,Un.laid keep (Nat.le_refl _) fr,⟨_,hns,fun j x v e1 e2 e3=>?_⟩,fun x c e=>?_,?_,fun x c e=>?_,fun p hp=>absurd (show p∈([]:List (Addr×Obj)) from hp) (by simp),?_,?_⟩
 ·obtain ⟨i,ei,ev⟩:=aT2 e2;obtain ⟨eN,ef⟩:=SC.at e1 ei;have hm:=PySem.mem_of_lookup ef;have hvis:X.env.scope.names.lookup x=some .cell\/X.env.scope.names.lookup x=some .free:=by rw [hS];exact SC.free _ hm rfl
  obtain ⟨m,hn,hl⟩:=I.loc;obtain ⟨u,r,l⟩:=hl i x v eN ev (.inr hvis);refine ⟨u,r,?_⟩;rcases l with ⟨hk,_⟩ | ⟨_,c,ec,o,ho,hd⟩
  ·have hk':X.env.scope.names.lookup x=some .local:=hk;rcases hvis with z | z
   ·rw [hk'] at z;cases z
   ·rw [hk'] at z;cases z
  ·obtain ⟨c',ec'⟩:=hcl2 _ hm rfl;have e5:=hcl1 _ _ ec';rw [ec] at e5;have e6:c=c':=Option.some.inj e5;subst e6;refine .inr ⟨?_,c,ec',o,keep _ _ ho,hd⟩;have z:=dQ (env:=X.env) ef;have z':(relabel sc X.env).names.lookup x=_:=z
   by_cases hc:(NameKind.free==NameKind.free&&X.env.scope.kind==.function&&X.env.kindOf x==some .cell)=true
   ·rw [if_pos hc] at z';exact .inl z'
   ·rw [if_neg hc] at z';exact .inr z'
 ·obtain ⟨v,o,ho,hd⟩:=I.cell x c (hcl1 x c e);exact ⟨v,o,keep _ _ ho,hd⟩
 ·show upd H2 s2.heap.objs.size _ (s2.heap.objs.size+1)=none;rw [aJ (Nat.ne_of_gt (Nat.lt_succ_self _))];exact frC
 ·show upd H2 s2.heap.objs.size _ c=none;rw [aJ (Nat.ne_of_lt (cl_lt x c (hcl1 x c e)))];exact I.freeC x c (hcl1 x c e)
 ·exact I.hok.laid keep (Nat.le_refl _) ⟨Nat.zero_le _,[],n0,.nil,ha⟩
 ·show (mN ixs σ).length=N'.length;unfold mN;rw [List.length_map];exact SC.len
theorem aT3 {X:Cx} {pins:List (Addr×Obj)} {σ σ':St} {H2 H':Hp} {s2 s':Shared} {N':List Str} {sc:Scope} {cl:List (Str×Addr)} {fp:List Addr} {C:Addr}
  (I:Inv X pins σ H2 s2) (hf:∀ b∈fp,gR X pins H2 b) (J:Inv (blk X N' sc cl C s2 H2 fp) [] σ' H' s'):Inv X pins σ H' s' :=
 I.call' (ch:=fp) J.os J.base J.hok J.bare fun b hb=>⟨(hf b hb).2.2.2.1,(hf b hb).2.1,(hf b hb).2.2.2.2.1,(hf b hb).2.2.2.2.2⟩
theorem yE {prog:Program} {w:World} {A:Around} {R:Result->Shared->Prop} {s:Shared} {elt target iter:Expr} {ifs:List Expr} {scope:Scope} {pos:Pos} {it acc:Value} {env:Env} (I:Nat->Shared->Prop)
  (turn:∀ n s,I n s->wpAny (model prog w) A (pyNext it) (fun r s₁=>match r with
   | none=>R (.ok .next) s₁
   | some v=>wpAny (model prog w) A (letOwnedTupleGo target it v) (fun _ t₁=>wpAny (model prog w) A (assign target env v) (fun _ s₂ =>
     wpAny (model prog w) A (forIn ifs true fun c r=>if r=true then do let ok <- isTrue c env (eval c env);pure (ForInStep.yield ok) else pure (ForInStep.yield r)) (fun ok s₃ =>
      if ok=true then wpAny (model prog w) A (eval elt env) (fun x s₄ =>
       wpAny (model prog w) A (call (.builtin "list.append") [acc,x]) (fun _ s₅=>∃ m,m < n/\I m s₅) (fun _ _=>False) s₄) (fun _ _=>False) s₃
      else ∃ m,m < n/\I m s₃) (fun _ _=>False) s₂) (fun _ _=>False) t₁) (fun _ _=>False) s₁) (fun _ _=>False) s)
  (n:Nat) (h:I n s):codeAny (model prog w) A (.compLoop (.ListComp elt [⟨target,iter,ifs,0⟩] scope pos) 0 it acc env) R s:=by
 refine codeAny_loop rfl I (fun n s hI=>?_) n h;show wpAny _ A ((compTurn (.ListComp elt [⟨target,iter,ifs,0⟩] scope pos) 0 it acc env).onRaise (fun x=>do noteFrame x env;theTreesLotGoes x)) _ _ s;refine wpAny_noted (wpAny_noRaise ?_);rw [compTurn_list];refine wpAny_bind (wpAny_standAt (wpAny_bind (thn (turn n s hI) fun r s₁ h₁=>?_)));cases r with
 | none=>exact wpAny_pure h₁
 | some v =>
  refine wpAny_bind (thn h₁ fun _ t₁ h₂=>wpAny_bind (thn h₂ fun _ s₂ h₃=>wpAny_bind (thn h₃ fun ok s₃ h₄=>?_)));cases ok with
  | false=>exact wpAny_pure ⟨rfl,h₄⟩
  | true=>exact wpAny_bind (wpAny_bind (thn h₄ fun x s₄ h₅=>wpAny_bind (thn h₅ fun _ s₅ h₆=>wpAny_pure (wpAny_pure ⟨rfl,h₆⟩))))
def PIf (X:Cx) (ifs:List Expr) (t:TT):Prop :=
 ∀ (pins:List (Addr×Obj)) (s:Shared) (σ:St) (H:Hp) (Q:Bool->Hp->Prop),Inv X pins σ H s->t σ H Q ->
  wpAny (model X.prog X.w) X.A (forIn ifs true fun c r=>if r=true then do let ok <- isTrue c X.env (eval c X.env);pure (ForInStep.yield ok) else pure (ForInStep.yield r)) (TP X pins σ Q) X.xe s
def cY9:TT:=fun _ H Q=>Q true H
theorem aT4 {X:Cx}:PIf X [] cY9:=fun _ _ _ H _ I h=>wpAny_tests_nil ⟨H,I,h⟩
theorem aT5 {X:Cx} {c:Expr} {t:TT} (h:PT X c t):PIf X [c] t:=fun pins s σ H Q I hw=>wpAny_tests_one (h pins s σ H Q I hw)
def bF2 (J:It) (g:TG) (tt:TT) (te:TE) (acc:Addr) (Fin:Hp->Prop) (W:Nat->Nat->List V->St->Hp->Prop):Prop :=
 ∀ i m ys σ H,W i m ys σ H->(J.stop i H/\H acc=some (.lst ys)/\Fin H) \/
  (J.go i H/\∀ x H',J.yld i H x H'->g x σ H' fun σ2 H3=>tt σ2 H3 fun b H4 =>
   if b=true then te σ2 H4 fun y H5=>H5 acc=some (.lst ys)/\ys.length < sizeLine/\∃ m',m' < m/\W (i+1) m' (ys++[y]) σ2 (upd H5 acc (.lst (ys++[y])))
   else ∃ m',m' < m/\W (i+1) m' ys σ2 H4)
def wF (ixs:List (Option Nat)) (wi:TI) (g:TG) (tt:TT) (te:TE):TE:=fun σ H Q=>wi σ H fun J H2=>∀ acc,H2 acc=none ->
 ∃ W:Nat->Nat->List V->St->Hp->Prop,(∃ m,W 0 m [] (mN ixs σ) (upd H2 acc (.lst [])))/\bF2 J g tt te acc (Q (.ref acc)) W
section
variable {X:Cx} {tg iter elt:Expr} {ifs:List Expr} {sc S:Scope} {N':List Str} {ixs:List (Option Nat)} {pos:Pos} {wi:TI} {g:TG} {tt:TT} {te:TE}
theorem rL {pins:List (Addr×Obj)} {σ:St} {H2:Hp} {s2:Shared} {it:Addr} {fp:List Addr} {tn:Nat->Heap->Prop} {J:It} {cl:List (Str×Addr)} {R:Value->Addr->Result->Shared->Prop} {Fin:Hp->Prop} {W:Nat->Nat->List V->St->Hp->Prop} {m0:Nat}
  (hxe:X.xe=fun _ _=>False) (hc:X.calm=true) (hS:X.env.scope=S) (SC:CompSc X.N N' ixs S sc) (hcl1:∀ x c,cl.lookup x=some c->X.env.cells.lookup x=some c) (hcl2:∀ y∈sc.names,y.2=.free->∃ c,cl.lookup y.1=some c)
  (hg:∀ cl C s H fp,PG (blk X N' sc cl C s H fp) tg g) (ht:∀ cl C s H fp,PIf (blk X N' sc cl C s H fp) ifs tt) (he:∀ cl C s H fp,PE (blk X N' sc cl C s H fp) elt te)
  (I:Inv X pins σ H2 s2) (T:Turn X.prog X.w X.K tg J fp it tn) (st:tn 0 s2.heap) (hf:∀ b∈fp,gR X pins H2 b)
  (w0:W 0 m0 [] (mN ixs σ) (upd H2 s2.heap.objs.size (.lst []))) (hW:bF2 J g tt te s2.heap.objs.size Fin W)
  (hR:∀ H' s' m,Inv X pins σ H' s'->s'.heap.Ns (s2.heap.objs.size+1) m->H' (s2.heap.objs.size+1)=none->Fin H'->R (.ref s2.heap.objs.size) (s2.heap.objs.size+1) (.ok .next) s') :
  wpAny (model X.prog X.w) X.A (newList []) (fun acc s₃=>wpAny (model X.prog X.w) X.A (newFunctionEnv sc X.env.globals cl [] X.env.qual none .none (some X.env)) (fun cenv s₄ =>
   codeAny (model X.prog X.w) X.A (.compStart (.ListComp elt [⟨tg,iter,ifs,0⟩] sc pos) 0 (.ref it) acc { cenv with scope:=relabel sc X.env }) (R acc cenv.locals) s₄) X.xe s₃) X.xe s2:=by
 refine wpAny_newObj_type (wpAny_newFunctionEnv SC.nocell (by intro y hy;simp at hy) (fun h₁ hns₁ hsb₁=>?_) SC.kind);dsimp only at hns₁ hsb₁ ⊢;have eC:(s2.heap.push { cls:=.type "list",dict:=none,data:=.seq ([]:List Value).toArray }).objs.size=s2.heap.objs.size+1:=by rw [Heap.size_push]
 rw [eC] at hns₁ hsb₁ ⊢;have old:∀ b o,s2.heap.get? b=some o->h₁.get? b=some o:=fun b o e=>hsb₁.extBut b o (Nat.ne_of_lt (Nat.lt_succ_of_lt (Heap.lt_size e))) (Heap.get?_push_of_some _ (Heap.get?_push_of_some _ e));have hacc:h₁.get? s2.heap.objs.size=some { cls:=.type "list",data:=.seq ([]:List Value).toArray }:=hsb₁.extBut _ _ (Nat.ne_of_lt (Nat.lt_succ_self _)) (Heap.get?_push_of_some _ (Heap.get?_push_size _ rfl));have hfl:∀ b∈fp,b < s2.heap.objs.size:=fun b hb=>by
  obtain ⟨o,e,_⟩:=T.obj _ _ st b hb;exact Heap.lt_size e
 have I1:=yD (tk:=s2.toks+([]:List (Str×Value)).length) I hS SC hcl1 hcl2 hf hfl hns₁ old hacc;have st1:tn 0 h₁:=T.keep _ _ _ st fun b _ o e=>old b o e;generalize hY:blk X N' sc cl (s2.heap.objs.size+1) s2 H2 fp=Y at I1;have hfY:∀ {H':Hp},(∀ b∈fp,H' b=none)->∀ b∈fp,gR Y [] H' b:=fun {H'} hn b hb=>by
  subst hY;refine ⟨hn b hb,Nat.ne_of_lt (Nat.lt_succ_of_lt (hfl b hb)),fun hz=>?_,.inl hb,fun x c e=>(hf b hb).2.2.2.2.1 x c (hcl1 x c e),fun p hp=>absurd (show p∈([]:List (Addr×Obj)) from hp) (by simp)⟩;rcases List.mem_cons.mp (I.stkSub b hz) with z | z
  ·exact (hf b hb).2.1 z
  ·exact (hf b hb).2.2.1 z
 have hg':PG Y tg g:=by subst hY;exact hg _ _ _ _ _
 have ht':PIf Y ifs tt:=by subst hY;exact ht _ _ _ _ _
 have he':PE Y elt te:=by subst hY;exact he _ _ _ _ _
 have hxY:Y.xe=fun _ _=>False:=by subst hY;exact hxe
 have hcY:Y.calm=true:=by subst hY;exact hc
 have hp0:∀ b∈fp,upd H2 s2.heap.objs.size (.lst []) b=none:=fun b hb=>by
  rw [aJ (Nat.ne_of_lt (hfl b hb))];exact (hf b hb).1
 have loop:∀ s₃:Shared,s₃={ s2 with heap:=h₁,toks:=s2.toks+([]:List (Str×Value)).length } ->
   codeAny (model X.prog X.w) X.A (.compLoop (.ListComp elt [⟨tg,iter,ifs,0⟩] sc pos) 0 (.ref it) (.ref s2.heap.objs.size) Y.env) (R (.ref s2.heap.objs.size) (s2.heap.objs.size+1)) s₃:=by
  rintro s₃ rfl;have eP:X.prog=Y.prog:=by subst hY;rfl
  have eW:X.w=Y.w:=by subst hY;rfl
  have eA:X.A=Y.A:=by subst hY;rfl
  have eK:X.K=Y.K:=by subst hY;rfl
  have eM:model X.prog X.w=model Y.prog Y.w:=by rw [eP,eW]
  have back:∀ {σ' H' s'},Inv Y [] σ' H' s'->Inv X pins σ H' s'/\(∃ m,s'.heap.Ns (s2.heap.objs.size+1) m)/\H' (s2.heap.objs.size+1)=none:=fun {σ' H' s'} K=>by
   subst hY;obtain ⟨m,hn,_⟩:=K.loc;exact ⟨aT3 I hf K,⟨m,hn⟩,K.free⟩
  clear hY;refine yE (fun n s'=>∃ i ys σ' H',Inv Y [] σ' H' s'/\tn i s'.heap/\(∀ b∈fp,H' b=none)/\W i n ys σ' H') ?_ m0 ⟨0,[],_,_,I1,st1,hp0,w0⟩;rintro n s3 ⟨i,ys,σ3,H3,I3,st3,fr3,w3⟩;rcases hW i n ys σ3 H3 w3 with ⟨stop,ha3,fin⟩ | ⟨go,step⟩
  ·have td:=T.done Y eP.symm eW.symm eK.symm hcY i [] s3 σ3 H3 (fun _ _=>False) I3 (hfY fr3) st3 stop;rw [<- eA] at td;refine thn td fun r s4 ⟨hr,I4⟩=>?_;subst hr;obtain ⟨J4,⟨m,hn⟩,hC⟩:=back I4;exact hR H3 s4 m J4 hn hC fin
  ·have td:=T.item Y eP.symm eW.symm eK.symm hcY i [] s3 σ3 H3 (fun _ _=>False) I3 (hfY fr3) st3 go;rw [<- eA] at td;refine thn td fun r s4 ⟨u,hr,h4⟩=>?_;subst hr;refine thn h4 fun _ s5 ⟨x,H5,I5,r5,y5,st5,fr5⟩=>?_;have I5':=I5.pinned (hfY fr5) (T.obj _ _ st5);have unx:∀ {α:Type} {t:Sem α} {Q:α->Shared->Prop} {s:Shared},wpAny (model Y.prog Y.w) Y.A t Q Y.xe s->wpAny (model X.prog X.w) X.A t Q (fun _ _=>False) s:=fun h=>by rw [eM,eA,<- hxY];exact h
   refine thn (unx (hg' _ s5 σ3 H5 x u _ I5' r5 (step x H5 y5))) fun _ s6 ⟨σ6,H6,I6,q6⟩=>?_;refine thn (unx (ht' _ s6 σ6 H6 _ I6 q6)) fun b s7 ⟨H7,I7,q7⟩=>?_;have keepIt:∀ {σ' H' s'},Inv Y ([]++kO fp s5.heap) σ' H' s'->tn (i+1) s'.heap/\∀ b∈fp,H' b=none:=fun {σ' H' s'} K =>
    ⟨T.keep _ _ _ st5 fun b hb o e=>(K.pin (b,o) (List.mem_append_right _ (List.mem_append_right _ (fB hb e)))).1,fun b hb=>by
     obtain ⟨o,e,d⟩:=T.obj _ _ st5 b hb;exact (K.pin (b,o) (List.mem_append_right _ (List.mem_append_right _ (fB hb e)))).2.1⟩
   cases b with
   | false =>
    obtain ⟨m',hm,w7⟩:=q7;exact ⟨m',hm,i+1,ys,σ6,H7,I7.unpinned,(keepIt I7).1,(keepIt I7).2,w7⟩
   | true =>
    refine thn (unx (he' _ s7 σ6 H7 _ I7 q7)) fun v s8 ⟨y,H8,I8,r8,q8⟩=>?_;obtain ⟨ha8,hz8,m',hm,w8⟩:=q8;refine thn (unx (nG (X:=Y) _ s8 σ6 H8 (.ref s2.heap.objs.size) [y] (.ref s2.heap.objs.size) [v] (fun v9 H9=>v9=.non/\H9=upd H8 s2.heap.objs.size (.lst (ys++[y]))) I8 rfl (.cons r8 .nil) ⟨_,ys,y,rfl,rfl,ha8,hz8,rfl,rfl⟩)) fun v9 s9 ⟨z9,H9,I9,_,_,e9⟩=>?_;subst e9;exact ⟨m',hm,i+1,ys++[y],σ6,_,I9.unpinned,(keepIt I9).1,(keepIt I9).2,w8⟩
 have eEnv:Y.env={ (newEnv sc (s2.heap.objs.size+1) X.env.globals cl X.env.qual none .none (some X.env) builtinsNs) with scope:=relabel sc X.env }:=by subst hY;rfl
 rw [eEnv] at loop;exact codeAny_compStart_list (loop _ rfl) (T.self X.A 0 _ _ _ st1 (loop _ rfl))
theorem wG (hxe:X.xe=fun _ _=>False) (hc:X.calm=true) (hS:X.env.scope=S) (SC:CompSc X.N N' ixs S sc) (hi:PI X tg iter wi)
  (hg:∀ cl C s H fp,PG (blk X N' sc cl C s H fp) tg g) (ht:∀ cl C s H fp,PIf (blk X N' sc cl C s H fp) ifs tt) (he:∀ cl C s H fp,PE (blk X N' sc cl C s H fp) elt te)
  (hs:∀ x,foldedSetIterable iter X.env x=pure x:=by intro _;rfl):PE X (.ListComp elt [⟨tg,iter,ifs,0⟩] sc pos) (wF ixs wi g tt te):=by
 intro pins s σ H Q I h;obtain ⟨cl,ecl,hcl1,hcl2⟩:=kT (sc:=sc) (env:=X.env) fun y hy hf=>I.ok.has y.1 (by
  have z:=SC.free y hy hf;rw [<- hS] at z;exact z)
 rw [eval_ListComp];refine wpAny_comprehension_free (use:=none) rfl hs ecl SC.kind SC.loc ?_;refine thn (hi pins s σ H _ I h) fun v s1 h1=>thn h1 fun itv s2 h2=>?_;obtain ⟨it,fp,tn,J,H2,e,I2,T,st2,f2,hw⟩:=h2;subst e;obtain ⟨W,⟨m0,w0⟩,hW⟩:=hw _ (I2.hok.fresh (Nat.le_refl _));refine rL (R:=fun acc C=>compPost (model X.prog X.w) X.A X.xe none (EP X pins σ Q) acc C) hxe hc hS SC hcl1 hcl2 hg ht he I2 T st2 f2 w0 hW fun H' s' m J' hn hC fin=>?_;refine ⟨m,hn,fun h' hs'=>?_⟩;have hlt:=J'.lt;refine ⟨.ref s2.heap.objs.size,H',J'.turned (it:=s2.heap.objs.size+1) (t':=s'.toks) (fun b o hb e=>hs'.extBut b o hb e) hC (Nat.ne_of_gt (Nat.lt_succ_of_lt I2.lt)) (.inr (Nat.le_succ_of_le I2.sz)) (fun x c e z=>?_) (fun p hp z=>?_),rfl,fin⟩
 ·obtain ⟨v',q⟩:=I2.cell x c e;exact pA z q.lt
 ·exact pA z (Heap.lt_size (I2.pin p hp).1)
theorem uH {y:Str} {i:Nat} {py spos:Pos} (hxe:X.xe=fun _ _=>False) (hc:X.calm=true) (hS:X.env.scope=S) (SC:CompSc X.N N' ixs S sc) (hi:PI X tg iter wi)
  (hg:∀ cl C s H fp,PG (blk X N' sc cl C s H fp) tg g) (ht:∀ cl C s H fp,PIf (blk X N' sc cl C s H fp) ifs tt) (he:∀ cl C s H fp,PE (blk X N' sc cl C s H fp) elt te)
  (hN:X.N.Nodup) (hiN:X.N[i]?=some y) (hy:X.env.scope.names.lookup y=some .local) (hsw:swapsWith (.ListComp elt [⟨tg,iter,ifs,0⟩] sc pos) (some (.Name y py)) spos.line X.env=pure true)
  (hs:∀ x,foldedSetIterable iter X.env x=pure x:=by intro _;rfl):PS X (.Assign [.Name y py] (.ListComp elt [⟨tg,iter,ifs,0⟩] sc pos) spos) (aR4 (wF ixs wi g tt te) (vW i)):=by
 intro pins s σ H D I h;obtain ⟨cl,ecl,hcl1,hcl2⟩:=kT (sc:=sc) (env:=X.env) fun y hy hf=>I.ok.has y.1 (by
  have z:=SC.free y hy hf;rw [<- hS] at z;exact z)
 rw [exec_Assign_Name_used _ _ _ _ hsw];refine wpAny_bind (wpAny_standAt (wpAny_bind ?_));show wpAny _ _ (do let _ <- comprehension (.ListComp elt [⟨tg,iter,ifs,0⟩] sc pos) sc X.env _ (newList []) false (eval iter X.env) (some (assign (.Name y py) X.env))) _ _ s;refine wpAny_bind (thn (wpAny_comprehension_free (use:=some (assign (.Name y py) X.env)) (Q:=fun _ s'=>SP X pins D .next s') rfl hs ecl SC.kind SC.loc ?_) fun _ s' hq=>wpAny_pure (wpAny_pure hq));refine thn (hi pins s σ H _ I h) fun v s1 h1=>thn h1 fun itv s2 h2=>?_;obtain ⟨it,fp,tn,J,H2,e,I2,T,st2,f2,hw⟩:=h2;subst e;obtain ⟨W,⟨m0,w0⟩,hW⟩:=hw _ (I2.hok.fresh (Nat.le_refl _));refine rL (R:=fun acc C=>compPost (model X.prog X.w) X.A X.xe (some (assign (.Name y py) X.env)) (fun _ s'=>SP X pins D .next s') acc C) hxe hc hS SC hcl1 hcl2 hg ht he I2 T st2 f2 w0 hW fun H' s' m J' hn hC fin=>?_;show wpAny _ _ (assign (.Name y py) X.env (.ref s2.heap.objs.size)) _ _ s';refine wpAny_assign_Name (mX (v:=.ref s2.heap.objs.size) J' hN hiN (.inl hy) rfl (fun s'' J2 hch=>?_) (.inr hy));obtain ⟨a,hsb,ha⟩:=hch;have clt:∀ x c,X.env.cells.lookup x=some c->c < s2.heap.objs.size:=fun x c e=>by
  obtain ⟨v',q⟩:=I2.cell x c e;exact q.lt
 have hlt:=I2.lt;have hne:s2.heap.objs.size+1≠a:=by
  rcases ha with z | z
  ·rw [z];exact Nat.ne_of_gt (Nat.lt_succ_of_lt hlt)
  ·exact Nat.ne_of_gt (Nat.lt_succ_of_lt (clt _ _ z))
 refine ⟨m,hn.sameBut hsb hne,fun h' hs'=>⟨_,H',J2.turned (it:=s2.heap.objs.size+1) (t':=s''.toks) (fun b o hb e=>hs'.extBut b o hb e) hC (Nat.ne_of_gt (Nat.lt_succ_of_lt hlt)) (.inr (Nat.le_succ_of_le I2.sz)) (fun x c e z=>?_) (fun p hp z=>?_),fin⟩⟩
 ·exact pA z (clt x c e)
 ·exact pA z (Heap.lt_size (I2.pin p hp).1)
end
end L2
set_option autoImplicit false
namespace DL
open PySem PySem.Spec PyProof.Rows L2
inductive W where
 | d (x:PyData)
 | c (i:Nat)
 | v (u:V)
inductive Cell where
 | l (xs:List PyData)
 | k (kvs:List (PyData×PyData))
 | t (P:Addr) (pos:Pos) (q:Str)
 | o (C:Addr) (fs:List (Str×W))
 | r (is:List Nat)
abbrev aA:=List Cell
abbrev DSt:=List (Option W)
abbrev DK:=W->aA->Prop
abbrev DTE:=DSt->aA->DK->Prop
abbrev DTT:=DSt->aA->(Bool->aA->Prop)->Prop
abbrev DTA:=DSt->aA->(List W->aA->Prop)->Prop
abbrev DTF:=DSt->aA->(List PyData->aA->Prop)->Prop
def KT (K:Frag) (a:Addr) (xs:List V):Prop :=
 ∃ (o:Obj) (its:Array Value) (n:Nat),K.lookup a=some o/\o.cls=.type "tuple"/\o.dict=none/\o.data=.seq its n/\its.size<=sizeLine/\Vals xs its.toList
def KL (K:Frag) (a:Addr) (xs:List V):Prop :=
 ∃ (o:Obj) (its:Array Value) (n:Nat),K.lookup a=some o/\o.cls=.type "list"/\o.dict=none/\o.data=.seq its n/\its.size<=sizeLine/\Vals xs its.toList
def TupAt (K:Frag) (A:List Addr) (H:Hp) (a:Addr) (xs:List V):Prop:=(a∉A/\Rd H a (.tup xs))\/KT K a xs
def LstAt (K:Frag) (A:List Addr) (H:Hp) (a:Addr) (xs:List V):Prop:=(a∉A/\Rd H a (.lst xs))\/KL K a xs
theorem TupAt.sq {K:Frag} {A:List Addr} {H:Hp} {a:Addr} {xs:List V} (h:TupAt K A H a xs):SqT K H a xs:=h.elim (fun z=>.inl z.2) fun ⟨o,its,n,h1,h2,_,h4⟩=>.inr ⟨o,its,n,h1,h2,h4⟩
theorem LstAt.sq {K:Frag} {A:List Addr} {H:Hp} {a:Addr} {xs:List V} (h:LstAt K A H a xs):SqL K H a xs:=h.elim (fun z=>.inl z.2) .inr
noncomputable def aY:PyData->Option Key
 | .int i=>some (.inl i)
 | .str x=>if PyData.strOk x=true then some (.inr x) else none
 | _=>none
mutual
noncomputable def Rep (K:Frag) (A:List Addr) (H:Hp):PyData->V->Prop
 | .none,v=>v=.non
 | .bool b,v=>v=.bl b
 | .int i,v=>v=.int i
 | .str x,v=>v=.str x/\PyData.strOk x=true
 | .list xs,v=>∃ a vs,v=.ref a/\LstAt K A H a vs/\Reps K A H xs vs
 | .tuple xs,v=>∃ a vs,v=.ref a/\TupAt K A H a vs/\Reps K A H xs vs
 | .dict kvs,v=>∃ a r,v=.ref a/\(a∉A/\Rd H a (.dK r))/\RepKs K A H kvs r
noncomputable def Reps (K:Frag) (A:List Addr) (H:Hp):List PyData->List V->Prop
 | [],vs=>vs=[]
 | x::xs,vs=>∃ v r,vs=v::r/\Rep K A H x v/\Reps K A H xs r
noncomputable def RepKs (K:Frag) (A:List Addr) (H:Hp):List (PyData×PyData)->List (Key×V)->Prop
 | [],r=>r=[]
 | p::kvs,r=>∃ q r',r=q::r'/\RepP K A H p q/\RepKs K A H kvs r'
noncomputable def RepP (K:Frag) (A:List Addr) (H:Hp):PyData×PyData->Key×V->Prop
 | (k,x),q=>aY k=some q.1/\Rep K A H x q.2
end
theorem Reps.length {K:Frag} {A:List Addr} {H:Hp}:∀ {xs:List PyData} {vs:List V},Reps K A H xs vs->vs.length=xs.length
 | [],_,h=>by rw [Reps] at h;subst h;rfl
 | _::xs,_,h=>by
  rw [Reps] at h;obtain ⟨v,r,rfl,_,h⟩:=h;rw [List.length_cons,List.length_cons,Reps.length h]
theorem Reps.get {K:Frag} {A:List Addr} {H:Hp}:∀ {xs:List PyData} {vs:List V} {i:Nat} {x:PyData},Reps K A H xs vs->xs[i]?=some x->∃ v,vs[i]?=some v/\Rep K A H x v
 | [],_,_,_,_,e=>by simp at e
 | y::xs,_,0,x,h,e=>by
  rw [Reps] at h;obtain ⟨v,r,rfl,hv,_⟩:=h;simp at e;subst e;exact ⟨v,rfl,hv⟩
 | y::xs,_,i+1,x,h,e=>by
  rw [Reps] at h;obtain ⟨v,r,rfl,_,h⟩:=h;obtain ⟨w,e1,e2⟩:=Reps.get (i:=i) h (by simpa using e);exact ⟨w,by simpa using e1,e2⟩
theorem Reps.append {K:Frag} {A:List Addr} {H:Hp} {ys:List PyData} {ws:List V} (h2:Reps K A H ys ws):∀ {xs:List PyData} {vs:List V},Reps K A H xs vs->Reps K A H (xs++ys) (vs++ws)
 | [],_,h=>by rw [Reps] at h;subst h;exact h2
 | x::xs,_,h=>by
  rw [Reps] at h;obtain ⟨v,r,rfl,hv,h⟩:=h;rw [List.cons_append,Reps];exact ⟨v,r++ws,rfl,hv,Reps.append h2 h⟩
theorem Reps.one {K:Frag} {A:List Addr} {H:Hp} {x:PyData} {v:V} (h:Rep K A H x v):Reps K A H [x] [v]:=by
 rw [Reps];exact ⟨v,[],rfl,h,by rw [Reps]⟩
theorem Reps.nil {K:Frag} {A:List Addr} {H:Hp}:Reps K A H [] []:=by rw [Reps]
theorem Reps.cons {K:Frag} {A:List Addr} {H:Hp} {x:PyData} {xs:List PyData} {v:V} {vs:List V} (h:Rep K A H x v) (hs:Reps K A H xs vs):Reps K A H (x::xs) (v::vs):=by
 rw [Reps];exact ⟨v,vs,rfl,h,hs⟩
theorem Reps.drop {K:Frag} {A:List Addr} {H:Hp}:∀ {xs:List PyData} {vs:List V} (n:Nat),Reps K A H xs vs->Reps K A H (xs.drop n) (vs.drop n)
 | _,_,0,h=>h
 | [],_,n+1,h=>by rw [Reps] at h;subst h;rw [List.drop_nil,List.drop_nil];exact .nil
 | x::xs,_,n+1,h=>by
  rw [Reps] at h;obtain ⟨v,r,rfl,_,h⟩:=h;exact Reps.drop n h
theorem Reps.take {K:Frag} {A:List Addr} {H:Hp}:∀ {xs:List PyData} {vs:List V} (n:Nat),Reps K A H xs vs->Reps K A H (xs.take n) (vs.take n)
 | _,_,0,h=>.nil
 | [],_,n+1,h=>by rw [Reps] at h;subst h;rw [List.take_nil,List.take_nil];exact .nil
 | x::xs,_,n+1,h=>by
  rw [Reps] at h;obtain ⟨v,r,rfl,hv,h⟩:=h;rw [List.take_succ_cons,List.take_succ_cons];exact .cons hv (Reps.take n h)
theorem Reps.set {K:Frag} {A:List Addr} {H:Hp} {x:PyData} {v:V} (hx:Rep K A H x v):∀ {xs:List PyData} {vs:List V} (i:Nat),Reps K A H xs vs->Reps K A H (xs.set i x) (vs.set i v)
 | [],_,i,h=>by rw [Reps] at h;subst h;exact .nil
 | y::xs,_,0,h=>by
  rw [Reps] at h;obtain ⟨w,r,rfl,_,h⟩:=h;exact .cons hx h
 | y::xs,_,i+1,h=>by
  rw [Reps] at h;obtain ⟨w,r,rfl,hw,h⟩:=h;exact .cons hw (Reps.set hx i h)
mutual
theorem Rep.anti {K:Frag} {A B:List Addr} {H:Hp} (hs:∀ a∈B,a∈A):∀ {d:PyData} {v:V},Rep K A H d v->Rep K B H d v
 | .none,_,h=>by rw [Rep] at h ⊢;exact h
 | .bool _,_,h=>by rw [Rep] at h ⊢;exact h
 | .int _,_,h=>by rw [Rep] at h ⊢;exact h
 | .str _,_,h=>by rw [Rep] at h ⊢;exact h
 | .list xs,_,h=>by
  rw [Rep] at h ⊢;obtain ⟨a,vs,e,h1,h2⟩:=h;exact ⟨a,vs,e,h1.elim (fun z=>.inl ⟨fun w=>z.1 (hs _ w),z.2⟩) .inr,Reps.anti hs h2⟩
 | .tuple xs,_,h=>by
  rw [Rep] at h ⊢;obtain ⟨a,vs,e,h1,h2⟩:=h;exact ⟨a,vs,e,h1.elim (fun z=>.inl ⟨fun w=>z.1 (hs _ w),z.2⟩) .inr,Reps.anti hs h2⟩
 | .dict kvs,_,h=>by
  rw [Rep] at h ⊢;obtain ⟨a,r,e,h1,h2⟩:=h;exact ⟨a,r,e,⟨fun w=>h1.1 (hs _ w),h1.2⟩,RepKs.anti hs h2⟩
theorem Reps.anti {K:Frag} {A B:List Addr} {H:Hp} (hs:∀ a∈B,a∈A):∀ {ds:List PyData} {vs:List V},Reps K A H ds vs->Reps K B H ds vs
 | [],_,h=>by rw [Reps] at h ⊢;exact h
 | x::xs,_,h=>by
  rw [Reps] at h ⊢;obtain ⟨v,r,e,h1,h2⟩:=h;exact ⟨v,r,e,Rep.anti hs h1,Reps.anti hs h2⟩
theorem RepKs.anti {K:Frag} {A B:List Addr} {H:Hp} (hs:∀ a∈B,a∈A):∀ {ds:List (PyData×PyData)} {vs:List (Key×V)},RepKs K A H ds vs->RepKs K B H ds vs
 | [],_,h=>by rw [RepKs] at h ⊢;exact h
 | p::xs,_,h=>by
  rw [RepKs] at h ⊢;obtain ⟨v,r,e,h1,h2⟩:=h;exact ⟨v,r,e,RepP.anti hs h1,RepKs.anti hs h2⟩
theorem RepP.anti {K:Frag} {A B:List Addr} {H:Hp} (hs:∀ a∈B,a∈A):∀ {p:PyData×PyData} {q:Key×V},RepP K A H p q->RepP K B H p q
 | (k,x),q,h=>by
  rw [RepP] at h ⊢;exact ⟨h.1,Rep.anti hs h.2⟩
end
mutual
theorem Rep.go {K:Frag} {A B:List Addr} {H H':Hp} (hs:∀ a o,a∉A->H a=some o->a∉B/\H' a=some o):∀ {d:PyData} {v:V},Rep K A H d v->Rep K B H' d v
 | .none,_,h=>by rw [Rep] at h ⊢;exact h
 | .bool _,_,h=>by rw [Rep] at h ⊢;exact h
 | .int _,_,h=>by rw [Rep] at h ⊢;exact h
 | .str _,_,h=>by rw [Rep] at h ⊢;exact h
 | .list xs,_,h=>by
  rw [Rep] at h ⊢;obtain ⟨a,vs,e,h1,h2⟩:=h;refine ⟨a,vs,e,?_,Reps.go hs h2⟩;rcases h1 with ⟨ha,h1 | ⟨o,h1⟩⟩ | h1
  ·exact .inl ⟨(hs a _ ha h1).1,.inl (hs a _ ha h1).2⟩
  ·exact .inl ⟨(hs a _ ha h1).1,.inr ⟨o,(hs a _ ha h1).2⟩⟩
  ·exact .inr h1
 | .tuple xs,_,h=>by
  rw [Rep] at h ⊢;obtain ⟨a,vs,e,h1,h2⟩:=h;refine ⟨a,vs,e,?_,Reps.go hs h2⟩;rcases h1 with ⟨ha,h1 | ⟨o,h1⟩⟩ | h1
  ·exact .inl ⟨(hs a _ ha h1).1,.inl (hs a _ ha h1).2⟩
  ·exact .inl ⟨(hs a _ ha h1).1,.inr ⟨o,(hs a _ ha h1).2⟩⟩
  ·exact .inr h1
 | .dict kvs,_,h=>by
  rw [Rep] at h ⊢;obtain ⟨a,r,e,⟨ha,h1⟩,h2⟩:=h;refine ⟨a,r,e,?_,RepKs.go hs h2⟩;rcases h1 with h1 | ⟨o,h1⟩
  ·exact ⟨(hs a _ ha h1).1,.inl (hs a _ ha h1).2⟩
  ·exact ⟨(hs a _ ha h1).1,.inr ⟨o,(hs a _ ha h1).2⟩⟩
theorem Reps.go {K:Frag} {A B:List Addr} {H H':Hp} (hs:∀ a o,a∉A->H a=some o->a∉B/\H' a=some o):∀ {ds:List PyData} {vs:List V},Reps K A H ds vs->Reps K B H' ds vs
 | [],_,h=>by rw [Reps] at h ⊢;exact h
 | x::xs,_,h=>by
  rw [Reps] at h ⊢;obtain ⟨v,r,e,h1,h2⟩:=h;exact ⟨v,r,e,Rep.go hs h1,Reps.go hs h2⟩
theorem RepKs.go {K:Frag} {A B:List Addr} {H H':Hp} (hs:∀ a o,a∉A->H a=some o->a∉B/\H' a=some o):∀ {ds:List (PyData×PyData)} {vs:List (Key×V)},RepKs K A H ds vs->RepKs K B H' ds vs
 | [],_,h=>by rw [RepKs] at h ⊢;exact h
 | p::xs,_,h=>by
  rw [RepKs] at h ⊢;obtain ⟨v,r,e,h1,h2⟩:=h;exact ⟨v,r,e,RepP.go hs h1,RepKs.go hs h2⟩
theorem RepP.go {K:Frag} {A B:List Addr} {H H':Hp} (hs:∀ a o,a∉A->H a=some o->a∉B/\H' a=some o):∀ {p:PyData×PyData} {q:Key×V},RepP K A H p q->RepP K B H' p q
 | (k,x),q,h=>by
  rw [RepP] at h ⊢;exact ⟨h.1,Rep.go hs h.2⟩
end
def TbOk (A:List Addr) (H:Hp) (P:Addr) (pos:Pos) (q:Str):Prop:=∃ ps,H P=some (.tbl ps)/\TriplesOk ps.toList/\(codeAmong pos ps.toList=none\/∃ c,codeAmong pos ps.toList=some (.ref c)/\c∉A/\H c=some (.ext fun h=>h.CodeRec (.ref c) q))
theorem TbOk.go {A A':List Addr} {H H':Hp} {P:Addr} {pos:Pos} {q:Str} (k:TbOk A H P pos q) (e:H' P=H P) (hs:∀ a o,a∉A->H a=some o->a∉A'/\H' a=some o):TbOk A' H' P pos q:=by
 obtain ⟨ps,h1,h2,h3⟩:=k;refine ⟨ps,by rw [e];exact h1,h2,h3.imp id fun ⟨c,e1,e2,e3⟩=>⟨c,e1,hs c _ e2 e3⟩⟩
noncomputable def RepW (K:Frag) (A μ:List Addr) (H:Hp):W->V->Prop
 | .d x,v=>Rep K A H x v
 | .c i,v=>∃ a,μ[i]?=some a/\v=.ref a
 | .v u,v=>v=u
noncomputable def FsOk (K:Frag) (A μ:List Addr) (H:Hp):List (Str×W)->List (Str×V)->Prop
 | [],vs=>vs=[]
 | p::fs,vs=>∃ v vr,vs=(p.1,v)::vr/\RepW K A μ H p.2 v/\FsOk K A μ H fs vr
noncomputable def IsOk (μ:List Addr):List Nat->List V->Prop
 | [],vs=>vs=[]
 | i::is,vs=>∃ a vr,vs=V.ref a::vr/\μ[i]?=some a/\IsOk μ is vr
noncomputable def wRefs:W->List Nat
 | .c i=>[i]
 | _=>[]
noncomputable def cRefs:Cell->List Nat
 | .o _ fs=>(fs.map fun p=>wRefs p.2).flatten
 | .r is=>is
 | _=>[]
noncomputable def CellOk (K:Frag) (A μ:List Addr) (H:Hp) (a:Addr):Cell->Prop
 | .l xs=>∃ vs,H a=some (.lst vs)/\Reps K A H xs vs
 | .k kvs=>∃ r,H a=some (.dK r)/\RepKs K A H kvs r
 | .t P pos q=>a=P/\TbOk A H P pos q
 | .o C fs=>∃ dx vs,H a=some (.ins C dx vs)/\FsOk K A μ H fs vs
 | .r is=>∃ vs,H a=some (.lst vs)/\IsOk μ is vs
theorem RepW.go {K:Frag} {A A' μ μ':List Addr} {H H':Hp} (hs:∀ a o,a∉A->H a=some o->a∉A'/\H' a=some o) {w:W} {v:V} (hm:∀ i∈wRefs w,∀ a,μ[i]?=some a->μ'[i]?=some a) (r:RepW K A μ H w v):RepW K A' μ' H' w v:=by
 cases w with
 | d y=>exact Rep.go hs r
 | v u=>exact r
 | c i =>
  obtain ⟨a,e,z⟩:=r;exact ⟨a,hm i List.mem_cons_self a e,z⟩
theorem FsOk.go {K:Frag} {A A' μ μ':List Addr} {H H':Hp} (hs:∀ a o,a∉A->H a=some o->a∉A'/\H' a=some o):∀ {fs:List (Str×W)} {vs:List (Str×V)},(∀ i∈(fs.map fun p=>wRefs p.2).flatten,∀ a,μ[i]?=some a->μ'[i]?=some a)->FsOk K A μ H fs vs->FsOk K A' μ' H' fs vs
 | [],_,_,h=>h
 | p::fs,_,hm,⟨v,vr,e,r,h⟩=>⟨v,vr,e,r.go hs fun i hi=>hm i (by rw [List.map_cons,List.flatten_cons];exact List.mem_append_left _ hi),FsOk.go hs (fun i hi=>hm i (by rw [List.map_cons,List.flatten_cons];exact List.mem_append_right _ hi)) h⟩
theorem IsOk.go {μ μ':List Addr}:∀ {is:List Nat} {vs:List V},(∀ i∈is,∀ a,μ[i]?=some a->μ'[i]?=some a)->IsOk μ is vs->IsOk μ' is vs
 | [],_,_,h=>h
 | i::is,_,hm,⟨a,vr,e,r,h⟩=>⟨a,vr,e,hm i List.mem_cons_self a r,IsOk.go (fun j hj=>hm j (List.mem_cons_of_mem _ hj)) h⟩
theorem FsOk.lt {K:Frag} {A μ:List Addr} {H:Hp}:∀ {fs:List (Str×W)} {vs:List (Str×V)},FsOk K A μ H fs vs->∀ i∈(fs.map fun p=>wRefs p.2).flatten,i < μ.length
 | [],_,_,i,hi=>by simp at hi
 | p::fs,_,⟨v,vr,e,r,h⟩,i,hi=>by
  rw [List.map_cons,List.flatten_cons] at hi;rcases List.mem_append.mp hi with hi | hi
  ·obtain ⟨f,w⟩:=p;cases w with
   | c j =>
    obtain ⟨a,e1,_⟩:=r;rw [List.mem_singleton.mp hi];exact (List.getElem?_eq_some_iff.mp e1).1
   | d x=>cases hi
   | v x=>cases hi
  ·exact FsOk.lt h i hi
theorem IsOk.lt {μ:List Addr}:∀ {is:List Nat} {vs:List V},IsOk μ is vs->∀ i∈is,i < μ.length
 | [],_,_,i,hi=>by cases hi
 | j::is,_,⟨a,vr,e,r,h⟩,i,hi=>by
  rcases List.mem_cons.mp hi with hi | hi
  ·rw [hi];exact (List.getElem?_eq_some_iff.mp r).1
  ·exact IsOk.lt h i hi
theorem CellOk.go {K:Frag} {A A' μ μ':List Addr} {H H':Hp} (hs:∀ a o,a∉A->H a=some o->a∉A'/\H' a=some o) {a:Addr} {c:Cell} (hm:∀ i∈cRefs c,∀ b,μ[i]?=some b->μ'[i]?=some b) (k:CellOk K A μ H a c) (e:H' a=H a):CellOk K A' μ' H' a c:=by
 cases c with
 | l xs=>obtain ⟨vs,q,r⟩:=k;exact ⟨vs,by rw [e];exact q,r.go hs⟩
 | k kvs=>obtain ⟨vs,q,r⟩:=k;exact ⟨vs,by rw [e];exact q,r.go hs⟩
 | t P pos q=>obtain ⟨rfl,q⟩:=k;exact ⟨rfl,q.go e hs⟩
 | o C fs=>obtain ⟨dx,vs,q,r⟩:=k;exact ⟨dx,vs,by rw [e];exact q,r.go hs hm⟩
 | r is=>obtain ⟨vs,q,r⟩:=k;exact ⟨vs,by rw [e];exact q,r.go hm⟩
theorem CellOk.lt {K:Frag} {A μ:List Addr} {H:Hp} {a:Addr} {c:Cell} (k:CellOk K A μ H a c):∀ i∈cRefs c,i < μ.length:=by
 cases c with
 | l xs=>intro i hi;cases hi
 | k kvs=>intro i hi;cases hi
 | t P pos q=>intro i hi;cases hi
 | o C fs=>obtain ⟨dx,vs,q,r⟩:=k;exact r.lt
 | r is=>obtain ⟨vs,q,r⟩:=k;exact r.lt
def aE1 (h:aA):Prop:=∀ c∈h,∀ i∈cRefs c,i < h.length
def okP (h h1:aA):Prop:=∀ (i:Nat) (c:Cell),i < h.length->h1[i]?=some c->(∀ j∈cRefs c,j < h.length)\/h[i]?=some c
structure HeapRep (K:Frag) (A μ:List Addr) (h:aA) (H:Hp):Prop where
 len:μ.length=h.length
 nd:μ.Nodup
 sub:∀ a∈μ,a∈A
 trk:∀ a∈A,∃ o,H a=some o
 cel:∀ (i:Nat) (a:Addr) (c:Cell),μ[i]?=some a->h[i]?=some c->CellOk K A μ H a c
theorem HeapRep.val {K:Frag} {A μ:List Addr} {h:aA} {H:Hp} (R:HeapRep K A μ h H) (i:Nat) (a:Addr) (xs:List PyData) (e1:μ[i]?=some a) (e2:h[i]?=some (Cell.l xs)):∃ vs,H a=some (.lst vs)/\Reps K A H xs vs:=R.cel i a _ e1 e2
theorem HeapRep.vad {K:Frag} {A μ:List Addr} {h:aA} {H:Hp} (R:HeapRep K A μ h H) (i:Nat) (a:Addr) (kvs:List (PyData×PyData)) (e1:μ[i]?=some a) (e2:h[i]?=some (Cell.k kvs)):∃ r,H a=some (.dK r)/\RepKs K A H kvs r:=R.cel i a _ e1 e2
theorem HeapRep.refs {K:Frag} {A μ:List Addr} {h:aA} {H:Hp} (R:HeapRep K A μ h H):aE1 h:=fun c hc i hi=>by
 obtain ⟨j,hj,rfl⟩:=List.mem_iff_getElem.mp hc;have hj':j < μ.length:=by rw [R.len];exact hj
 rw [<- R.len];exact (R.cel j μ[j] h[j] (List.getElem?_eq_getElem hj') (List.getElem?_eq_getElem hj)).lt i hi
structure EnvRep (K:Frag) (A μ:List Addr) (H:Hp) (δ:DSt) (σ:L2.St):Prop where
 len:δ.length=σ.length
 val:∀ (i:Nat) (w:W),δ[i]?=some (some w)->∃ v,σ[i]?=some (some v)/\RepW K A μ H w v
structure Ext (A A' μ μ':List Addr) (H H':Hp):Prop where
 sub:∀ a∈A,a∈A'
 new:∀ a∈A',a∈A\/H a=none
 pre:∃ ν,μ'=μ++ν/\∀ a∈ν,H a=none
 keep:∀ a o,a∉μ->H a=some o->H' a=some o
 trk:∀ a o,H a=some o->∃ o',H' a=some o'
section
variable {K:Frag} {A A' A1 A2 μ μ' μ1 μ2:List Addr} {H H' H1 H2:Hp} {h h':aA}
theorem Ext.refl:Ext A A μ μ H H:=⟨fun _ z=>z,fun _ z=>.inl z,⟨[],by simp,fun _ z=>(nomatch z)⟩,fun _ _ _ z=>z,fun _ o z=>⟨o,z⟩⟩
theorem Ext.back (x:Ext A A' μ μ' H H') {a:Addr} (e:H' a=none):H a=none:=by
 cases q:H a with
 | none=>rfl
 | some o=>obtain ⟨o',z⟩:=x.trk a o q;rw [e] at z;cases z
theorem Ext.trans (x:Ext A A1 μ μ1 H H1) (y:Ext A1 A2 μ1 μ2 H1 H2):Ext A A2 μ μ2 H H2:=by
 obtain ⟨ν,e1,n1⟩:=x.pre;obtain ⟨ν',e2,n2⟩:=y.pre;refine ⟨fun a z=>y.sub a (x.sub a z),fun a z=>?_,⟨ν++ν',by rw [e2,e1,List.append_assoc],fun a z=>?_⟩,fun a o ha q=>y.keep a o (fun z=>?_) (x.keep a o ha q),fun a o q=>?_⟩
 ·rcases y.new a z with z | z
  ·exact x.new a z
  ·exact .inr (x.back z)
 ·rcases List.mem_append.mp z with z | z
  ·exact n1 a z
  ·exact x.back (n2 a z)
 ·rw [e1] at z;rcases List.mem_append.mp z with z | z
  ·exact ha z
  ·rw [n1 a z] at q;cases q
 ·obtain ⟨o1,q1⟩:=x.trk a o q;exact y.trk a o1 q1
theorem Ext.go (x:Ext A A' μ μ' H H') (hs:∀ a∈μ,a∈A):∀ a o,a∉A->H a=some o->a∉A'/\H' a=some o:=fun a o ha q=>by
 refine ⟨fun z=>?_,x.keep a o (fun z=>ha (hs a z)) q⟩;rcases x.new a z with z | z
 ·exact ha z
 ·rw [z] at q;cases q
theorem Rep.ext (x:Ext A A' μ μ' H H') (hs:∀ a∈μ,a∈A) {d:PyData} {v:V} (r:Rep K A H d v):Rep K A' H' d v:=r.go (x.go hs)
theorem Reps.ext (x:Ext A A' μ μ' H H') (hs:∀ a∈μ,a∈A) {d:List PyData} {v:List V} (r:Reps K A H d v):Reps K A' H' d v:=r.go (x.go hs)
theorem RepKs.ext (x:Ext A A' μ μ' H H') (hs:∀ a∈μ,a∈A) {d:List (PyData×PyData)} {v:List (Key×V)} (r:RepKs K A H d v):RepKs K A' H' d v:=r.go (x.go hs)
theorem CellOk.some {a:Addr} {c:Cell} (k:CellOk K A μ H a c):∃ o,H a=some o:=by
 cases c with
 | l xs=>obtain ⟨vs,q,_⟩:=k;exact ⟨_,q⟩
 | k kvs=>obtain ⟨vs,q,_⟩:=k;exact ⟨_,q⟩
 | t P pos q=>obtain ⟨rfl,vs,q,_⟩:=k;exact ⟨_,q⟩
 | o C fs=>obtain ⟨dx,vs,q,_⟩:=k;exact ⟨_,q⟩
 | r is=>obtain ⟨vs,q,_⟩:=k;exact ⟨_,q⟩
theorem Ext.look (x:Ext A A' μ μ' H H') (i:Nat) (a:Addr) (e:μ[i]?=some a):μ'[i]?=some a:=by
 obtain ⟨ν,e1,_⟩:=x.pre;rw [e1,List.getElem?_append_left (List.getElem?_eq_some_iff.mp e).1];exact e
theorem CellOk.ext (x:Ext A A' μ μ' H H') (hs:∀ a∈μ,a∈A) {a:Addr} {c:Cell} (k:CellOk K A μ H a c) (e:H' a=H a):CellOk K A' μ' H' a c:=k.go (x.go hs) (fun i _ a=>x.look i a) e
theorem CellOk.anti {a:Addr} {c:Cell} (hs:∀ a∈A',a∈A) (hm:∀ i∈cRefs c,∀ b,μ[i]?=Option.some b->μ'[i]?=Option.some b) (k:CellOk K A μ H a c):CellOk K A' μ' H a c:=k.go (fun a o n e=>⟨fun z=>n (hs a z),e⟩) hm rfl
theorem RepW.ext (x:Ext A A' μ μ' H H') (hs:∀ a∈μ,a∈A) {w:W} {v:V} (r:RepW K A μ H w v):RepW K A' μ' H' w v:=by
 cases w with
 | d y=>exact Rep.ext x hs r
 | v u=>exact r
 | c i =>
  obtain ⟨a,e,z⟩:=r;obtain ⟨ν,e1,_⟩:=x.pre;refine ⟨a,?_,z⟩;rw [e1,List.getElem?_append_left (List.getElem?_eq_some_iff.mp e).1];exact e
theorem EnvRep.ext (x:Ext A A' μ μ' H H') (hs:∀ a∈μ,a∈A) {δ:DSt} {σ:L2.St} (r:EnvRep K A μ H δ σ):EnvRep K A' μ' H' δ σ :=
 ⟨r.len,fun i w e=>by
  obtain ⟨v,e1,r1⟩:=r.val i w e;exact ⟨v,e1,r1.ext x hs⟩⟩
theorem EnvRep.set {δ:DSt} {σ:L2.St} {w:W} {v:V} (r:EnvRep K A μ H δ σ) (i:Nat) (rw':RepW K A μ H w v):EnvRep K A μ H (δ.set i (some w)) (σ.set i (some v)):=by
 refine ⟨by rw [List.length_set,List.length_set];exact r.len,fun j u e=>?_⟩
 by_cases hj:i=j
 ·subst hj;have hi:i < δ.length:=by
   have:=(List.getElem?_eq_some_iff.mp e).1
   rwa [List.length_set] at this
  rw [List.getElem?_set_self hi] at e;cases e;exact ⟨v,List.getElem?_set_self (by rw [<- r.len];exact hi),rw'⟩
 ·rw [List.getElem?_set_ne hj] at e ⊢;exact r.val j u e
theorem bI {p:Addr} {o:HO} (hp:H p=none):Ext A A μ μ H (upd H p o) :=
 ⟨fun _ z=>z,fun _ z=>.inl z,⟨[],by simp,fun _ z=>(nomatch z)⟩,fun a o' _ q=>by rw [aJ (aN q hp)];exact q,fun a o' q=>⟨o',by rw [aJ (aN q hp)];exact q⟩⟩
theorem HeapRep.fresh {p:Addr} {o:HO} (R:HeapRep K A μ h H) (hp:H p=none):HeapRep K A μ h (upd H p o) :=
 ⟨R.len,R.nd,R.sub,fun a z=>by
  obtain ⟨o',q⟩:=R.trk a z;exact ⟨o',by rw [aJ (aN q hp)];exact q⟩,fun i a c e1 e2=>by
  have k:=R.cel i a c e1 e2;obtain ⟨o',q⟩:=k.some;exact k.ext (bI (μ:=μ) hp) R.sub (aJ (aN q hp))⟩
theorem HeapRep.notA {p:Addr} (R:HeapRep K A μ h H) (hp:H p=none):p∉A:=fun z=>by
 obtain ⟨o,q⟩:=R.trk p z;rw [hp] at q;cases q
theorem dJ {p:Addr} {xs:List PyData} {vs:List V} (R:HeapRep K A μ h H) (hp:H p=none) (r:Reps K A H xs vs):Rep K A (upd H p (.tup vs)) (.tuple xs) (.ref p):=by
 rw [Rep];exact ⟨p,vs,rfl,.inl ⟨R.notA hp,.inl aR⟩,r.ext (bI (μ:=μ) hp) R.sub⟩
theorem bQ {p:Addr} {o:HO} (hp:H p=none):Ext A (p::A) μ (μ++[p]) H (upd H p o) :=
 ⟨fun _ z=>List.mem_cons_of_mem _ z,fun a z=>(List.mem_cons.mp z).elim (fun e=>.inr (by rw [e];exact hp)) .inl,⟨[p],rfl,fun a z=>by rw [List.mem_singleton.mp z];exact hp⟩,
  fun a o' _ q=>by rw [aJ (aN q hp)];exact q,fun a o' q=>⟨o',by rw [aJ (aN q hp)];exact q⟩⟩
theorem gU {p:Addr} {o:HO} {c:Cell} (R:HeapRep K A μ h H) (hp:H p=none) (hc:CellOk K (p::A) (μ++[p]) (upd H p o) p c):HeapRep K (p::A) (μ++[p]) (h++[c]) (upd H p o):=by
 have nA:=R.notA hp;have X:Ext A (p::A) μ (μ++[p]) H (upd H p o):=bQ hp;refine ⟨by rw [List.length_append,List.length_append,R.len];rfl,?_,fun a z=>?_,fun a z=>?_,fun i a ys e1 e2=>?_⟩
 ·rw [List.nodup_append];refine ⟨R.nd,(by simp),fun a ha b hb=>?_⟩;rw [List.mem_singleton.mp hb];rintro rfl;exact nA (R.sub _ ha)
 ·rcases List.mem_append.mp z with z | z
  ·exact List.mem_cons_of_mem _ (R.sub a z)
  ·rw [List.mem_singleton.mp z];exact List.mem_cons_self
 ·rcases List.mem_cons.mp z with e | z
  ·subst e;exact ⟨_,aR⟩
  ·obtain ⟨o',q⟩:=R.trk a z;exact ⟨o',by rw [aJ (aN q hp)];exact q⟩
 ·by_cases hi:i < μ.length
  ·rw [List.getElem?_append_left hi] at e1;rw [List.getElem?_append_left (by rw [<- R.len];exact hi)] at e2;have k:=R.cel i a ys e1 e2;obtain ⟨o',q⟩:=k.some;exact k.ext X R.sub (aJ (aN q hp))
  ·have hle:μ.length<=i:=Nat.le_of_not_lt hi;rw [List.getElem?_append_right hle] at e1;rw [List.getElem?_append_right (by rw [<- R.len];exact hle),<- R.len] at e2;have hz:i - μ.length=0:=by
    have:=(List.getElem?_eq_some_iff.mp e1).1;simp at this;omega
   rw [hz] at e1 e2;simp at e1 e2;subst e1 e2;exact hc
theorem cP {p:Addr} {xs:List PyData} {vs:List V} (R:HeapRep K A μ h H) (hp:H p=none) (r:Reps K A H xs vs):HeapRep K (p::A) (μ++[p]) (h++[(Cell.l xs)]) (upd H p (.lst vs))/\aE1 h :=
 ⟨gU R hp ⟨vs,aR,r.ext (bQ (μ:=μ) hp) R.sub⟩,R.refs⟩
theorem uI {p:Addr} {xs:List (PyData×PyData)} {vs:List (Key×V)} (R:HeapRep K A μ h H) (hp:H p=none) (r:RepKs K A H xs vs):HeapRep K (p::A) (μ++[p]) (h++[(Cell.k xs)]) (upd H p (.dK vs)) :=
 gU R hp ⟨vs,aR,r.ext (bQ (μ:=μ) hp) R.sub⟩
theorem Rep.upd {p:Addr} {o:HO} (hp:p∈A) {d:PyData} {v:V} (r:Rep K A H d v):Rep K A (L2.upd H p o) d v:=r.go fun a o' ha q=>⟨ha,by rw [aJ (fun e=>ha (by rw [e];exact hp))];exact q⟩
theorem Reps.upd {p:Addr} {o:HO} (hp:p∈A) {d:List PyData} {v:List V} (r:Reps K A H d v):Reps K A (L2.upd H p o) d v:=r.go fun a o' ha q=>⟨ha,by rw [aJ (fun e=>ha (by rw [e];exact hp))];exact q⟩
theorem RepKs.upd {p:Addr} {o:HO} (hp:p∈A) {d:List (PyData×PyData)} {v:List (Key×V)} (r:RepKs K A H d v):RepKs K A (L2.upd H p o) d v:=r.go fun a o' ha q=>⟨ha,by rw [aJ (fun e=>ha (by rw [e];exact hp))];exact q⟩
theorem CellOk.upd {p a:Addr} {o:HO} {c:Cell} (hp:p∈A) (ne:a≠p) (k:CellOk K A μ H a c):CellOk K A μ (L2.upd H p o) a c:=k.go (fun b o hb e=>⟨hb,by rw [aJ (fun z=>hb (by rw [z];exact hp))];exact e⟩) (fun _ _ _ e=>e) (aJ ne)
theorem dL {p:Addr} {o o0:HO} (hp:p∈μ) (h0:H p=some o0):Ext A A μ μ H (upd H p o) :=
 ⟨fun _ z=>z,fun _ z=>.inl z,⟨[],by simp,fun _ z=>(nomatch z)⟩,fun a o' ha q=>by rw [aJ (fun e=>ha (by rw [e];exact hp))];exact q,fun a o' q=>by
  by_cases e:a=p
  ·subst e;exact ⟨_,aR⟩
  ·exact ⟨o',by rw [aJ e];exact q⟩⟩
theorem fT {p:Addr} {i:Nat} {o:HO} {c:Cell} (R:HeapRep K A μ h H) (hp:μ[i]?=some p) (hc:CellOk K A μ (upd H p o) p c):HeapRep K A μ (h.set i c) (upd H p o):=by
 have hm:p∈μ:=List.mem_of_getElem? hp;have hA:=R.sub p hm;refine ⟨by rw [List.length_set];exact R.len,R.nd,R.sub,fun a z=>?_,fun j a ys e1 e2=>?_⟩
 ·by_cases e:a=p
  ·subst e;exact ⟨_,aR⟩
  ·obtain ⟨o',q⟩:=R.trk a z;exact ⟨o',by rw [aJ e];exact q⟩
 ·by_cases hj:i=j
  ·subst hj;rw [hp] at e1;cases e1;have hi:i < h.length:=by rw [<- R.len];exact (List.getElem?_eq_some_iff.mp hp).1
   rw [List.getElem?_set_self hi] at e2;cases e2;exact hc
  ·rw [List.getElem?_set_ne hj] at e2;have ne:a≠p:=fun e=>by
    subst e;have h1:=List.getElem?_eq_some_iff.mp e1;have h2:=List.getElem?_eq_some_iff.mp hp;exact hj ((List.getElem_inj R.nd).mp (h2.2.trans h1.2.symm))
   exact (R.cel j a ys e1 e2).upd hA ne
theorem fD {p:Addr} {i:Nat} {xs:List PyData} {vs:List V} (R:HeapRep K A μ h H) (hp:μ[i]?=some p) (r:Reps K A H xs vs):HeapRep K A μ (h.set i (Cell.l xs)) (upd H p (.lst vs)) :=
 fT R hp ⟨vs,aR,r.upd (R.sub p (List.mem_of_getElem? hp))⟩
theorem rM {p:Addr} {i:Nat} {xs:List (PyData×PyData)} {vs:List (Key×V)} (R:HeapRep K A μ h H) (hp:μ[i]?=some p) (r:RepKs K A H xs vs):HeapRep K A μ (h.set i (Cell.k xs)) (upd H p (.dK vs)) :=
 fT R hp ⟨vs,aR,r.upd (R.sub p (List.mem_of_getElem? hp))⟩
theorem kU {p:Addr} {o:HO} (R:HeapRep K A μ h H) (hA:p∈A) (hn:p∉μ):HeapRep K A μ h (upd H p o):=by
 refine ⟨R.len,R.nd,R.sub,fun a z=>?_,fun j a ys e1 e2=>?_⟩
 ·by_cases e:a=p
  ·subst e;exact ⟨_,aR⟩
  ·obtain ⟨o',q⟩:=R.trk a z;exact ⟨o',by rw [aJ e];exact q⟩
 ·exact (R.cel j a ys e1 e2).upd hA fun e=>hn (by rw [<- e];exact List.mem_of_getElem? e1)
theorem fU {p:Addr} {xs:List PyData} (R:HeapRep K A (μ++[p]) (h++[(Cell.l xs)]) H) (hr:aE1 h):HeapRep K (A.filter fun a=>decide (a≠p)) μ h H/\Rep K (A.filter fun a=>decide (a≠p)) H (.list xs) (.ref p):=by
 have hl:μ.length=h.length:=by
  have:=R.len
  simpa using this
 have an:∀ a∈A.filter (fun a=>decide (a≠p)),a∈A:=fun a z=>(List.mem_filter.mp z).1;refine ⟨⟨hl,(List.nodup_append.mp R.nd).1,fun a z=>?_,fun a z=>R.trk a (an a z),fun i a ys e1 e2=>?_⟩,?_⟩
 ·refine List.mem_filter.mpr ⟨R.sub a (List.mem_append_left _ z),?_⟩;have:=(List.nodup_append.mp R.nd).2.2 a z p List.mem_cons_self
  simpa using this
 ·exact (R.cel i a ys (by rw [List.getElem?_append_left (List.getElem?_eq_some_iff.mp e1).1];exact e1) (by rw [List.getElem?_append_left (List.getElem?_eq_some_iff.mp e2).1];exact e2)).anti an fun j hj b eb=>by
   have hlt:j < μ.length:=by rw [hl];exact hr ys (List.mem_of_getElem? e2) j hj
   rw [List.getElem?_append_left hlt] at eb;exact eb
 ·obtain ⟨vs,q,r⟩:=R.val μ.length p xs (by simp) (by rw [hl];simp);rw [Rep];exact ⟨p,vs,rfl,.inl ⟨fun z=>by simpa using (List.mem_filter.mp z).2,.inl q⟩,r.anti an⟩
theorem gW {p:Addr} (R:HeapRep K A μ h H) (hp:H p=none) (x:Ext A A' μ (μ'++[p]) H H') (hm:∃ ν,μ'=μ++ν):Ext A (A'.filter fun a=>decide (a≠p)) μ μ' H H':=by
 obtain ⟨ν,e,n⟩:=x.pre;obtain ⟨ν',e'⟩:=hm;refine ⟨fun a z=>List.mem_filter.mpr ⟨x.sub a z,?_⟩,fun a z=>x.new a (List.mem_filter.mp z).1,⟨ν',e',fun a z=>n a ?_⟩,x.keep,x.trk⟩
 ·have:a≠p:=fun q=>R.notA hp (by rw [<- q];exact z)
  simpa using this
 ·rw [e',List.append_assoc] at e;rw [<- List.append_cancel_left e];exact List.mem_append_left _ z
end
def Ab (K:Frag) (A μ:List Addr) (δ:DSt) (h:aA) (σ:L2.St) (H:Hp):Prop:=HeapRep K A μ h H/\EnvRep K A μ H δ σ
def up (K:Frag) (t:DTE):TE:=fun σ H Q=>∃ (δ:DSt) (h:aA) (A μ:List Addr) (k:DK),Ab K A μ δ h σ H/\t δ h k /\
 ∀ w h' v H' A' μ',k w h'->Ext A A' μ μ' H H'->HeapRep K A' μ' h' H'->RepW K A' μ' H' w v->Q v H'
def upT (K:Frag) (t:DTT):TT:=fun σ H Q=>∃ (δ:DSt) (h:aA) (A μ:List Addr) (k:Bool->aA->Prop),Ab K A μ δ h σ H/\t δ h k /\
 ∀ b h' H' A' μ',k b h'->Ext A A' μ μ' H H'->HeapRep K A' μ' h' H'->Q b H'
noncomputable def RepWs (K:Frag) (A μ:List Addr) (H:Hp):List W->List V->Prop
 | [],vs=>vs=[]
 | w::ws,vs=>∃ v r,vs=v::r/\RepW K A μ H w v/\RepWs K A μ H ws r
def upA (K:Frag) (t:DTA):TA:=fun σ H Q=>∃ (δ:DSt) (h:aA) (A μ:List Addr) (k:List W->aA->Prop),Ab K A μ δ h σ H/\t δ h k /\
 ∀ ws h' vs H' A' μ',k ws h'->Ext A A' μ μ' H H'->HeapRep K A' μ' h' H'->RepWs K A' μ' H' ws vs->Q vs H'
def upF (K:Frag) (t:DTF):TE:=fun σ H Q=>∃ (δ:DSt) (h:aA) (A μ:List Addr) (k:List PyData->aA->Prop),Ab K A μ δ h σ H/\t δ h k /\
 ∀ xs h' a H' A' μ',k xs h'->Ext A A' μ (μ'++[a]) H H'->(∃ ν,μ'=μ++ν)->H a=none->HeapRep K A' (μ'++[a]) (h'++[(Cell.l xs)]) H'/\aE1 h'->Q (.ref a) H'
def DE (X:Cx) (e:Expr) (t:DTE):Prop:=PE X e (up X.K t)
def DT (X:Cx) (e:Expr) (t:DTT):Prop:=PT X e (upT X.K t)
def DW (X:Cx) (e:Expr) (t:DTT):Prop:=PW X e (upT X.K t)
def DA (X:Cx) (es:List Expr) (t:DTA):Prop:=PA X es (upA X.K t)
def DF (X:Cx) (e:Expr) (t:DTF):Prop:=PE X e (upF X.K t)
theorem aH {X:Cx} {e:Expr} {t t':TE} (h:PE X e t) (m:∀ σ H Q,t' σ H Q->t σ H Q):PE X e t':=fun pins s σ H Q I q=>h pins s σ H Q I (m σ H Q q)
theorem gE {X:Cx} {e:Expr} {t t':TT} (h:PT X e t) (m:∀ σ H Q,t' σ H Q->t σ H Q):PT X e t':=fun pins s σ H Q I q=>h pins s σ H Q I (m σ H Q q)
theorem pB {X:Cx} {e:Expr} {t t':TT} (h:PW X e t) (m:∀ σ H Q,t' σ H Q->t σ H Q):PW X e t':=fun wh pins s σ H Q I q=>h wh pins s σ H Q I (m σ H Q q)
theorem pC {X:Cx} {e:List Expr} {t t':TA} (h:PA X e t) (m:∀ σ H Q,t' σ H Q->t σ H Q):PA X e t':=fun pos pins s σ H Q I q=>h pos pins s σ H Q I (m σ H Q q)
theorem bN {X:Cx} {e:Stmt} {t t':TS} (h:PS X e t) (m:∀ D σ H,t' D σ H->t D σ H):PS X e t':=fun pins s σ H D I q=>h pins s σ H D I (m D σ H q)
theorem kW {X:Cx} {e:List Stmt} {t t':TS} (h:PSs X e t) (m:∀ D σ H,t' D σ H->t D σ H):PSs X e t':=fun pins s σ H D I q=>h pins s σ H D I (m D σ H q)
section
variable {X:Cx} {a b e:Expr} {es:List Expr} {pos:Pos} {ta tb te:DTE} {tc tA tB:DTT} {t:DTA} {tf tg:DTF}
def bO9 (i:Nat):DTE:=fun δ h Q=>match δ[i]? with
 | some (some w)=>Q w h
 | _=>False
theorem dv (i:Nat) {x:Str} (hN:X.N[i]?=some x:=by rfl) (hv:Vis X.env.scope x:=by first | exact Or.inl rfl | exact Or.inr (Or.inl rfl) | exact Or.inr (Or.inr rfl)) (hd:(x==("__debug__":Str))=false:=by decide)
  (hcd:(x==("__classdict__":Str))=false:=by decide):DE X (.Name x pos) (bO9 i):=aH (bK9 hN hv hd hcd) fun σ H Q h=>by
 obtain ⟨δ,h,A,μ,k,⟨R,E⟩,q,c⟩:=h;unfold bO9 at q;cases e1:δ[i]? with
 | none=>rw [e1] at q;exact q.elim
 | some o =>
  rw [e1] at q;cases o with
  | none=>exact q.elim
  | some w =>
   obtain ⟨v,e2,r⟩:=E.val i w e1;exact ⟨v,e2,c w h v H A μ q .refl R r⟩
def dC (x:PyData):DTE:=fun _ h Q=>Q (.d x) h
theorem fV {x:PyData} {v:V} (r:∀ A H,Rep X.K A H x v) (he:PE X e (tC v)):DE X e (dC x):=aH he fun σ H Q h=>by
 obtain ⟨δ,h,A,μ,k,⟨R,E⟩,q,c⟩:=h;exact c _ h v H A μ q .refl R (r A H)
theorem bP0 {i:Int} {j}:DE X (.Constant (.int i) j pos) (dC (.int i)):=fV (fun _ _=>by rw [Rep]) bL0
theorem cI1 {b:Bool} {j}:DE X (.Constant (.bool b) j pos) (dC (.bool b)):=fV (fun _ _=>by rw [Rep]) cG1
theorem bP1 {j}:DE X (.Constant .none j pos) (dC .none):=fV (fun _ _=>by rw [Rep]) bL1
theorem bP2 {x:Str} {j} (hx:PyData.strOk x=true:=by decide +kernel):DE X (.Constant (.str x) j pos) (dC (.str x)):=fV (fun _ _=>by rw [Rep];exact ⟨rfl,hx⟩) bL2
theorem aT6 {x:Str} {v:V} {u:Value} {d:PyData} (hm:X.mg x=some u) (rv:RelV v u) (r:∀ A H,Rep X.K A H d v) (hg:Gl X x:=by rfl) (hd:(x==("__debug__":Str))=false:=by decide):DE X (.Name x pos) (dC d) :=
 fV r (kF hg hm rv hd)
def bP3 (t:DTF):DTE:=fun δ h Q=>t δ h fun xs h1=>Q (.d (.list xs)) h1
def bP4 (t:DTF):DTE:=fun δ h Q=>t δ h fun xs h1=>Q (.c h1.length) (h1++[(Cell.l xs)])
theorem aE2 (h:DF X e tf):DE X e (bP3 tf):=aH h fun σ H Q q=>by
 obtain ⟨δ,h,A,μ,k,R,q,c⟩:=q;refine ⟨δ,h,A,μ,_,R,q,fun xs h' p H' A' μ' kk x hm hp R'=>?_⟩;obtain ⟨R1,r1⟩:=fU R'.1 R'.2;exact c _ h' _ H' _ μ' kk (gW R.1 hp x hm) R1 r1
theorem aE3 (h:DF X e tf):DE X e (bP4 tf):=aH h fun σ H Q q=>by
 obtain ⟨δ,h,A,μ,k,R,q,c⟩:=q;refine ⟨δ,h,A,μ,_,R,q,fun xs h' p H' A' μ' kk x hm hp R'=>?_⟩;have hl:μ'.length=h'.length:=by simpa using R'.1.len
 exact c _ _ _ H' A' (μ'++[p]) kk x R'.1 ⟨p,by rw [<- hl];simp,rfl⟩
def aE4:DTA:=fun _ h Q=>Q [] h
def cI2 (te:DTE) (t:DTA):DTA:=fun δ h Q=>te δ h fun w h1=>t δ h1 fun ws h2=>Q (w::ws) h2
theorem RepWs.ext {K:Frag} {A A' μ μ':List Addr} {H H':Hp} (x:Ext A A' μ μ' H H') (hs:∀ a∈μ,a∈A):∀ {ws:List W} {vs:List V},RepWs K A μ H ws vs->RepWs K A' μ' H' ws vs
 | [],_,h=>h
 | w::ws,_,h=>by
  obtain ⟨v,r,e,h1,h2⟩:=h;exact ⟨v,r,e,h1.ext x hs,RepWs.ext x hs h2⟩
theorem kX:DA X [] aE4:=pC uC fun σ H Q q=>by
 obtain ⟨δ,h,A,μ,k,R,q,c⟩:=q;exact c [] h [] H A μ q .refl R.1 rfl
theorem fE (ha:DE X e te) (hr:DA X es t) (hs:starEach (e::es) X.env=(false,eval e X.env)::starEach es X.env:=by rfl):DA X (e::es) (cI2 te t):=pC (kG ha hr hs) fun σ H Q q=>by
 obtain ⟨δ,h,A,μ,k,R,q,c⟩:=q;refine ⟨δ,h,A,μ,_,R,q,fun w h1 v H1 A1 μ1 q1 x1 R1 r1=>?_⟩;refine ⟨δ,h1,A1,μ1,_,⟨R1,R.2.ext x1 R.1.sub⟩,q1,fun ws h2 vs H2 A2 μ2 q2 x2 R2 r2=>?_⟩;exact c _ h2 _ H2 A2 μ2 q2 (x1.trans x2) R2 ⟨v,vs,rfl,r1.ext x2 R1.sub,r2⟩
noncomputable def cQ:List W->Option (List PyData)
 | []=>some []
 | .d x::r=>(cQ r).map (x::·)
 | .c _::_=>none
 | .v _::_=>none
theorem fW {K:Frag} {A μ:List Addr} {H:Hp}:∀ {ws:List W} {xs:List PyData} {vs:List V},cQ ws=some xs->RepWs K A μ H ws vs->Reps K A H xs vs
 | [],_,_,e,h=>by cases e;subst h;exact .nil
 | .c _::_,_,_,e,_=>by cases e
 | .v _::_,_,_,e,_=>by cases e
 | .d x::r,xs,_,e,h=>by
  obtain ⟨v,vs,rfl,h1,h2⟩:=h;unfold cQ at e;cases q:cQ r with
  | none=>rw [q] at e;cases e
  | some ys =>
   rw [q] at e;have e':x::ys=xs:=Option.some.inj e;subst e';exact .cons h1 (fW q h2)
def cZ0 (t:DTA):DTE:=fun δ h Q=>t δ h fun ws h1=>match cQ ws with
 | some xs=>xs.length<=sizeLine/\Q (.d (.tuple xs)) h1
 | none=>False
def cZ1 (t:DTA):DTF:=fun δ h Q=>t δ h fun ws h1=>match cQ ws with
 | some xs=>xs.length<=sizeLine/\Q xs h1
 | none=>False
theorem bP5 {k} (h:DA X es t):DE X (.Tuple es k pos) (cZ0 t):=aH (bO0 h) fun σ H Q q=>by
 obtain ⟨δ,h,A,μ,k,R,q,c⟩:=q;refine ⟨δ,h,A,μ,_,R,q,fun ws h1 vs H1 A1 μ1 q1 x1 R1 r1=>?_⟩;cases e:cQ ws with
 | none=>rw [e] at q1;exact q1.elim
 | some xs =>
  rw [e] at q1;have rr:=fW e r1;refine ⟨by rw [rr.length];exact q1.1,fun p hp=>?_⟩;exact c _ h1 _ _ A1 μ1 q1.2 (x1.trans (bI hp)) (R1.fresh hp) (dJ R1 hp rr)
theorem bP6 (h:DA X es t):DF X (.List es pos) (cZ1 t):=aH (bO1 h) fun σ H Q q=>by
 obtain ⟨δ,h,A,μ,k,R,q,c⟩:=q;refine ⟨δ,h,A,μ,_,R,q,fun ws h1 vs H1 A1 μ1 q1 x1 R1 r1=>?_⟩;cases e:cQ ws with
 | none=>rw [e] at q1;exact q1.elim
 | some xs =>
  rw [e] at q1;have rr:=fW e r1;refine ⟨by rw [rr.length];exact q1.1,fun p hp=>?_⟩;obtain ⟨ν,e1,_⟩:=x1.pre;exact c xs h1 p _ (p::A1) μ1 q1.2 (x1.trans (bQ hp)) ⟨ν,e1⟩ (x1.back hp) (cP R1 hp rr)
abbrev D2:=W->W->aA->DK->Prop
noncomputable def upR (K:Frag) (r:D2):R2:=fun x y H Q=>∃ (u w:W) (h:aA) (A μ:List Addr) (k:DK),HeapRep K A μ h H/\RepW K A μ H u x/\RepW K A μ H w y/\r u w h k /\
 ∀ w h' v H' A' μ',k w h'->Ext A A' μ μ' H H'->HeapRep K A' μ' h' H'->RepW K A' μ' H' w v->Q v H'
def dOp (r:D2) (ta tb:DTE):DTE:=fun δ h Q=>ta δ h fun x h1=>tb δ h1 fun y h2=>r x y h2 Q
theorem rN {K:Frag} {r:D2} {σ:L2.St} {H:Hp} {Q:VK} (q:up K (dOp r ta tb) σ H Q):tOp (upR K r) (up K ta) (up K tb) σ H Q:=by
 obtain ⟨δ,h,A,μ,k,R,q,c⟩:=q;refine ⟨δ,h,A,μ,_,R,q,fun u h1 v H1 A1 μ1 q1 x1 R1 r1=>?_⟩;refine ⟨δ,h1,A1,μ1,_,⟨R1,R.2.ext x1 R.1.sub⟩,q1,fun w h2 v2 H2 A2 μ2 q2 x2 R2 r2=>?_⟩;exact ⟨u,w,h2,A2,μ2,k,R2,r1.ext x2 R1.sub,r2,q2,fun z h3 v3 H3 A3 μ3 q3 x3 R3 r3=>c z h3 v3 H3 A3 μ3 q3 ((x1.trans x2).trans x3) R3 r3⟩
theorem cI3 {op:Operator} {r:D2} (ho:OpR X (binaryOp op) (upR X.K r)) (ha:DE X a ta) (hb:DE X b tb):DE X (.BinOp a op b pos) (dOp r ta tb):=aH (aC6 ho ha hb) fun _ _ _ q=>rN q
theorem bP7 {op:CmpOp} {r:D2} (ho:OpR X (compareOp op) (upR X.K r)) (ha:DE X a ta) (hb:DE X b tb) (hm:behindInMarks op b=false:=by first | exact nobehind _ (by decide) (by decide) | rfl):DE X (.Compare a [op] [b] pos) (dOp r ta tb) :=
 aH (vX ho ha hb hm) fun _ _ _ q=>rN q
def dB (t:DTE):DTT:=fun δ h Q=>t δ h fun w h1=>match w with
 | .d (.bool b)=>Q b h1
 | _=>False
theorem kH {K:Frag} {σ:L2.St} {H:Hp} {Q:Bool->Hp->Prop} {t:DTE} (q:upT K (dB t) σ H Q):up K t σ H fun x H'=>∃ c,x=.bl c/\Q c H':=by
 obtain ⟨δ,h,A,μ,k,R,q,c⟩:=q;refine ⟨δ,h,A,μ,_,R,q,fun w h1 v H1 A1 μ1 q1 x1 R1 r1=>?_⟩;cases w with
 | c i=>exact q1.elim
 | v u=>exact q1.elim
 | d x =>
  cases x with
  | bool b =>
   have e:v=.bl b:=by
    have z:Rep K A1 H1 (.bool b) v:=r1;rw [Rep] at z;exact z
   exact ⟨b,e,c b h1 H1 A1 μ1 q1 x1 R1⟩
  | _=>exact q1.elim
theorem bP8 (h:DE X e te) (he:∀ whole,isTrue e X.env whole=(do let v <- whole;standAt e.pos;holding [v] (truthy v)):=by intro _;rfl):DT X e (dB te):=gE (bL3 h he) fun _ _ _ q=>kH q
theorem bP9 {op:CmpOp} {r:D2} (ho:OpR X (compareOp op) (upR X.K r)) (ha:DE X a ta) (hb:DE X b tb) (hm:behindInMarks op b=false:=by first | exact nobehind _ (by decide) (by decide) | rfl):DT X (.Compare a [op] [b] pos) (dB (dOp r ta tb)) :=
 gE (vY ho ha hb hm) fun σ H Q q=>by
  obtain ⟨δ,h,A,μ,k,R,q1,c⟩:=kH q;exact rN ⟨δ,h,A,μ,k,R,q1,c⟩
def cZ2 (t:DTT):DTT:=fun δ h Q=>t δ h fun b h1=>Q (!b) h1
def cZ3 (t u:DTT):DTT:=fun δ h Q=>t δ h fun b h1=>if b=true then u δ h1 Q else Q false h1
def dOr (t u:DTT):DTT:=fun δ h Q=>t δ h fun b h1=>if b=true then Q true h1 else u δ h1 Q
theorem bQ0 (h:DT X e tc):DT X (.UnaryOp .Not e pos) (cZ2 tc):=gE (bL6 h) fun σ H Q q=>by
 obtain ⟨δ,h,A,μ,k,R,q,c⟩:=q;exact ⟨δ,h,A,μ,_,R,q,fun b h' H' A' μ' k'=>c (!b) h' H' A' μ' k'⟩
theorem DW.dt (h:DW X e tc):DT X e tc:=h _
theorem aT7 (h:DT X a tc):DW X (.BoolOp .And [a] pos) tc:=aQ8 h
theorem bQ1 (h:DT X a tc):DW X (.BoolOp .Or [a] pos) tc:=bL4 h
theorem bQ2 (ha:DT X a tA) (hb:DW X (.BoolOp .And (b::es) pos) tB):DW X (.BoolOp .And (a::b::es) pos) (cZ3 tA tB):=pB (bL5 ha hb) fun σ H Q q=>by
 obtain ⟨δ,h,A,μ,k,R,q,c⟩:=q;refine ⟨δ,h,A,μ,_,R,q,fun b h1 H1 A1 μ1 q1 x1 R1=>?_⟩;cases b with
 | true =>
  rw [if_pos rfl] at q1;rw [if_pos rfl];exact ⟨δ,h1,A1,μ1,k,⟨R1,R.2.ext x1 R.1.sub⟩,q1,fun b h2 H2 A2 μ2 q2 x2 R2=>c b h2 H2 A2 μ2 q2 (x1.trans x2) R2⟩
 | false =>
  rw [if_neg Bool.false_ne_true] at q1;rw [if_neg Bool.false_ne_true];exact c false h1 H1 A1 μ1 q1 x1 R1
theorem cI4 (ha:DT X a tA) (hb:DW X (.BoolOp .Or (b::es) pos) tB):DW X (.BoolOp .Or (a::b::es) pos) (dOr tA tB):=pB (cG2 ha hb) fun σ H Q q=>by
 obtain ⟨δ,h,A,μ,k,R,q,c⟩:=q;refine ⟨δ,h,A,μ,_,R,q,fun b h1 H1 A1 μ1 q1 x1 R1=>?_⟩;cases b with
 | false =>
  rw [if_neg Bool.false_ne_true] at q1;rw [if_neg Bool.false_ne_true];exact ⟨δ,h1,A1,μ1,k,⟨R1,R.2.ext x1 R.1.sub⟩,q1,fun b h2 H2 A2 μ2 q2 x2 R2=>c b h2 H2 A2 μ2 q2 (x1.trans x2) R2⟩
 | true =>
  rw [if_pos rfl] at q1;rw [if_pos rfl];exact c true h1 H1 A1 μ1 q1 x1 R1
def cI5 (ta tb:DTE):DTE:=fun δ h Q=>ta δ h fun w h1=>match w with
 | .d (.bool b)=>if b=true then tb δ h1 Q else Q (.d (.bool false)) h1
 | _=>False
def cZ4 (ta tb:DTE):DTE:=fun δ h Q=>ta δ h fun w h1=>match w with
 | .d (.bool b)=>if b=true then Q (.d (.bool true)) h1 else tb δ h1 Q
 | _=>False
def cI6 (ta:DTE):DTE:=fun δ h Q=>ta δ h fun w h1=>match w with
 | .d (.bool b)=>Q (.d (.bool (!b))) h1
 | _=>False
theorem dM {K:Frag} {A μ:List Addr} {H:Hp} {b:Bool} {v:V} (r:RepW K A μ H (.d (.bool b)) v):v=.bl b:=by
 have z:Rep K A H (.bool b) v:=r;rw [Rep] at z;exact z
theorem bA {K:Frag} {A μ:List Addr} {H:Hp} {b:Bool}:RepW K A μ H (.d (.bool b)) (.bl b):=by
 show Rep K A H (.bool b) (.bl b);rw [Rep]
theorem bG {K:Frag} {A μ:List Addr} {H:Hp} {b:Int} {v:V} (r:RepW K A μ H (.d (.int b)) v):v=.int b:=by
 have z:Rep K A H (.int b) v:=r;rw [Rep] at z;exact z
theorem kY {K:Frag} {A μ:List Addr} {H:Hp} {b:Int}:RepW K A μ H (.d (.int b)) (.int b):=by
 show Rep K A H (.int b) (.int b);rw [Rep]
theorem aE5 {op} (h:DE X a te):DE X (.BoolOp op [a] pos) te:=bL7 h
theorem bQ3 (ha:DE X a ta) (hb:DE X (.BoolOp .And (b::es) pos) tb):DE X (.BoolOp .And (a::b::es) pos) (cI5 ta tb):=aH (bL8 ha hb) fun σ H Q q=>by
 obtain ⟨δ,h,A,μ,k,R,q,c⟩:=q;refine ⟨δ,h,A,μ,_,R,q,fun w h1 v H1 A1 μ1 q1 x1 R1 r1=>?_⟩;cases w with
 | c i=>exact q1.elim
 | v u=>exact q1.elim
 | d x =>
  cases x with
  | bool b =>
   refine ⟨b,dM r1,?_⟩;cases b with
   | true=>exact ⟨δ,h1,A1,μ1,k,⟨R1,R.2.ext x1 R.1.sub⟩,q1,fun w h2 v H2 A2 μ2 q2 x2 R2 r2=>c w h2 v H2 A2 μ2 q2 (x1.trans x2) R2 r2⟩
   | false=>exact c _ h1 _ H1 A1 μ1 q1 x1 R1 bA
  | _=>exact q1.elim
theorem cI7 (ha:DE X a ta) (hb:DE X (.BoolOp .Or (b::es) pos) tb):DE X (.BoolOp .Or (a::b::es) pos) (cZ4 ta tb):=aH (cG5 ha hb) fun σ H Q q=>by
 obtain ⟨δ,h,A,μ,k,R,q,c⟩:=q;refine ⟨δ,h,A,μ,_,R,q,fun w h1 v H1 A1 μ1 q1 x1 R1 r1=>?_⟩;cases w with
 | c i=>exact q1.elim
 | v u=>exact q1.elim
 | d x =>
  cases x with
  | bool b =>
   refine ⟨b,dM r1,?_⟩;cases b with
   | false=>exact ⟨δ,h1,A1,μ1,k,⟨R1,R.2.ext x1 R.1.sub⟩,q1,fun w h2 v H2 A2 μ2 q2 x2 R2 r2=>c w h2 v H2 A2 μ2 q2 (x1.trans x2) R2 r2⟩
   | true=>exact c _ h1 _ H1 A1 μ1 q1 x1 R1 bA
  | _=>exact q1.elim
theorem bQ4 (ha:DE X a ta):DE X (.UnaryOp .Not a pos) (cI6 ta):=aH (bL9 ha) fun σ H Q q=>by
 obtain ⟨δ,h,A,μ,k,R,q,c⟩:=q;refine ⟨δ,h,A,μ,_,R,q,fun w h1 v H1 A1 μ1 q1 x1 R1 r1=>?_⟩;cases w with
 | c i=>exact q1.elim
 | v u=>exact q1.elim
 | d x =>
  cases x with
  | bool b=>exact ⟨b,dM r1,c _ h1 _ H1 A1 μ1 q1 x1 R1 bA⟩
  | _=>exact q1.elim
def dIf (t:DTT) (ta tb:DTE):DTE:=fun δ h Q=>t δ h fun b h1=>if b=true then ta δ h1 Q else tb δ h1 Q
theorem aE6 {c:Expr} (hc:DT X c tc) (ha:DE X a ta) (hb:DE X b tb):DE X (.IfExp c a b pos) (dIf tc ta tb):=aH (aC1 hc ha hb) fun σ H Q q=>by
 obtain ⟨δ,h,A,μ,k,R,q,c⟩:=q;refine ⟨δ,h,A,μ,_,R,q,fun b h1 H1 A1 μ1 q1 x1 R1=>?_⟩;cases b with
 | true=>exact ⟨δ,h1,A1,μ1,k,⟨R1,R.2.ext x1 R.1.sub⟩,q1,fun w h2 v H2 A2 μ2 q2 x2 R2 r2=>c w h2 v H2 A2 μ2 q2 (x1.trans x2) R2 r2⟩
 | false=>exact ⟨δ,h1,A1,μ1,k,⟨R1,R.2.ext x1 R.1.sub⟩,q1,fun w h2 v H2 A2 μ2 q2 x2 R2 r2=>c w h2 v H2 A2 μ2 q2 (x1.trans x2) R2 r2⟩
end
noncomputable def ref (h:aA):W->Option PyData
 | .d x=>some x
 | .c i=>match h[i]? with
  | some (.l xs)=>some (.list xs)
  | some (.k kvs)=>some (.dict kvs)
  | _=>none
 | .v _=>none
mutual
noncomputable def See (K:Frag) (H:Hp):PyData->V->Prop
 | .none,v=>v=.non
 | .bool b,v=>v=.bl b
 | .int i,v=>v=.int i
 | .str x,v=>v=.str x
 | .list xs,v=>∃ a vs,v=.ref a/\SqL K H a vs/\Sees K H xs vs
 | .tuple xs,v=>∃ a vs,v=.ref a/\SqT K H a vs/\Sees K H xs vs
 | .dict _,_=>True
noncomputable def Sees (K:Frag) (H:Hp):List PyData->List V->Prop
 | [],vs=>vs=[]
 | x::xs,vs=>∃ v r,vs=v::r/\See K H x v/\Sees K H xs r
end
mutual
theorem Rep.see {K:Frag} {A:List Addr} {H:Hp}:∀ {d:PyData} {v:V},Rep K A H d v->See K H d v
 | .none,_,h=>by rw [Rep] at h;rw [See];exact h
 | .bool _,_,h=>by rw [Rep] at h;rw [See];exact h
 | .int _,_,h=>by rw [Rep] at h;rw [See];exact h
 | .str _,_,h=>by rw [Rep] at h;rw [See];exact h.1
 | .list xs,_,h=>by
  rw [Rep] at h;rw [See];obtain ⟨a,vs,e,h1,h2⟩:=h;exact ⟨a,vs,e,h1.sq,Reps.sees h2⟩
 | .tuple xs,_,h=>by
  rw [Rep] at h;rw [See];obtain ⟨a,vs,e,h1,h2⟩:=h;exact ⟨a,vs,e,h1.sq,Reps.sees h2⟩
 | .dict _,_,_=>by rw [See];trivial
theorem Reps.sees {K:Frag} {A:List Addr} {H:Hp}:∀ {d:List PyData} {v:List V},Reps K A H d v->Sees K H d v
 | [],_,h=>by rw [Reps] at h;rw [Sees];exact h
 | x::xs,_,h=>by
  rw [Reps] at h;rw [Sees];obtain ⟨v,r,e,h1,h2⟩:=h;exact ⟨v,r,e,Rep.see h1,Reps.sees h2⟩
end
mutual
theorem See.reads {X:Cx} {pins:List (Addr×Obj)} {σ:L2.St} {H:Hp} {s:Shared} (I:Inv X pins σ H s):∀ {d:PyData} {v:V} {u:Value},See X.K H d v->d.canLay0=true->RelV v u->∃ as,Reads s.heap u d as
 | .none,_,_,h,_,r=>by rw [See] at h;subst h;cases r;exact ⟨_,Reads.none⟩
 | .bool _,_,_,h,_,r=>by rw [See] at h;subst h;cases r;exact ⟨_,Reads.bool _⟩
 | .int _,_,_,h,_,r=>by rw [See] at h;subst h;obtain ⟨t,rfl⟩:=r;exact ⟨_,Reads.int _ _⟩
 | .str _,_,_,h,_,r=>by rw [See] at h;subst h;obtain ⟨t,rfl⟩:=r;exact ⟨_,Reads.str _ _⟩
 | .list xs,_,_,h,c,r=>by
  rw [See] at h;obtain ⟨a,vs,rfl,h1,h2⟩:=h;cases r;obtain ⟨its,rv,⟨o,n,ho,hc,_,hd⟩,_⟩:=I.list h1;rw [PyData.canLay0] at c;obtain ⟨as,z⟩:=Sees.reads I h2 c rv;exact ⟨_,Reads.list ho hc hd (by simpa using z)⟩
 | .tuple xs,_,_,h,c,r=>by
  rw [See] at h;obtain ⟨a,vs,rfl,h1,h2⟩:=h;cases r;obtain ⟨its,rv,⟨o,ho,hc,n,hd⟩,_⟩:=I.tuple h1;rw [PyData.canLay0] at c;obtain ⟨as,z⟩:=Sees.reads I h2 c rv;exact ⟨_,Reads.tuple ho hc hd (by simpa using z)⟩
 | .dict _,_,_,_,c,_=>by rw [PyData.canLay0] at c;cases c
theorem Sees.reads {X:Cx} {pins:List (Addr×Obj)} {σ:L2.St} {H:Hp} {s:Shared} (I:Inv X pins σ H s):∀ {d:List PyData} {v:List V} {u:List Value},Sees X.K H d v->PyData.canLayAll0 d=true->Vals v u->∃ as,ReadsAll s.heap u d as
 | [],_,_,h,_,r=>by rw [Sees] at h;subst h;cases r;exact ⟨_,ReadsAll.nil⟩
 | x::xs,_,_,h,c,r=>by
  rw [Sees] at h;obtain ⟨v,rr,rfl,h1,h2⟩:=h;rw [PyData.canLayAll0,Bool.and_eq_true] at c;cases r with
  | cons r1 r2 =>
   obtain ⟨as,z1⟩:=See.reads I h1 c.1 r1;obtain ⟨bs,z2⟩:=Sees.reads I h2 c.2 r2;exact ⟨_,ReadsAll.cons z1 z2⟩
end
theorem bH {K:Frag} {A μ:List Addr} {H:Hp} {h:aA} {w:W} {v:V} {d:PyData} (R:HeapRep K A μ h H) (r:RepW K A μ H w v) (e:ref h w=some d):See K H d v:=by
 cases w with
 | d x=>cases e;exact Rep.see r
 | v u=>cases e
 | c i =>
  obtain ⟨a,e1,rfl⟩:=r;dsimp only [DL.ref] at e;cases q:h[i]? with
  | none=>rw [q] at e;cases e
  | some cc =>
   cases cc with
   | t _ _ _=>rw [q] at e;cases e
   | o _ _=>rw [q] at e;cases e
   | r _=>rw [q] at e;cases e
   | l xs =>
    rw [q] at e;cases e;obtain ⟨vs,z1,z2⟩:=R.val i a xs e1 q;rw [See];exact ⟨a,vs,rfl,.inl (.inl z1),z2.sees⟩
   | k kvs =>
    rw [q] at e;cases e;rw [See];trivial
theorem bX {K:Frag} {A μ:List Addr} {H:Hp} {h:aA} {w:W} {v:V} {xs:List PyData} (R:HeapRep K A μ h H) (r:RepW K A μ H w v) (e:ref h w=some (.list xs)):∃ a vs,v=.ref a/\SqL K H a vs/\Reps K A H xs vs:=by
 cases w with
 | d x =>
  cases e;have z:Rep K A H (.list xs) v:=r;rw [Rep] at z;obtain ⟨a,vs,e,h1,h2⟩:=z;exact ⟨a,vs,e,h1.sq,h2⟩
 | v u=>cases e
 | c i =>
  obtain ⟨a,e1,rfl⟩:=r;dsimp only [DL.ref] at e;cases q:h[i]? with
  | none=>rw [q] at e;cases e
  | some cc =>
   cases cc with
   | t _ _ _=>rw [q] at e;cases e
   | o _ _=>rw [q] at e;cases e
   | r _=>rw [q] at e;cases e
   | l ys =>
    rw [q] at e;cases e;obtain ⟨vs,z1,z2⟩:=R.val i a xs e1 q;exact ⟨a,vs,rfl,.inl (.inl z1),z2⟩
   | k kvs=>rw [q] at e;cases e
theorem bF {K:Frag} {A μ:List Addr} {H:Hp} {h:aA} {w:W} {v:V} {xs:List PyData} (r:RepW K A μ H w v) (e:ref h w=some (.tuple xs)):∃ a vs,v=.ref a/\TupAt K A H a vs/\Reps K A H xs vs:=by
 cases w with
 | d x =>
  cases e;have z:Rep K A H (.tuple xs) v:=r;rw [Rep] at z;exact z
 | v u=>cases e
 | c i =>
  dsimp only [DL.ref] at e;cases q:h[i]? with
  | none=>rw [q] at e;cases e
  | some cc =>
   cases cc with
   | t _ _ _=>rw [q] at e;cases e
   | o _ _=>rw [q] at e;cases e
   | r _=>rw [q] at e;cases e
   | l ys=>rw [q] at e;cases e
   | k ys=>rw [q] at e;cases e
noncomputable def cI8:D2
 | .d (.int i),.d (.int j),h,Q=>Q (.d (.int (i+j))) h
 | .d (.tuple xs),.d (.tuple ys),h,Q=>xs.length+ys.length<=sizeLine/\Q (.d (.tuple (xs++ys))) h
 | _,_,_,_=>False
noncomputable def cI9:D2
 | .d (.int i),.d (.int j),h,Q=>Q (.d (.int (i - j))) h
 | _,_,_,_=>False
noncomputable def cJ0:D2
 | .d (.int i),.d (.int j),h,Q=>CMul i j/\Q (.d (.int (i*j))) h
 | _,_,_,_=>False
noncomputable def cJ1:D2
 | .d (.int i),.d (.int j),h,Q=>0 < j/\Q (.d (.int (i%j))) h
 | _,_,_,_=>False
noncomputable def cJ2:D2
 | .d (.int i),.d (.int j),h,Q=>aR6 i j/\Q (.d (.int (i^j.toNat))) h
 | _,_,_,_=>False
noncomputable def nK (p:Int->Int->Bool):D2
 | .d (.int i),.d (.int j),h,Q=>Q (.d (.bool (p i j))) h
 | _,_,_,_=>False
def dEq:D2:=fun x y h Q=>match ref h x,ref h y with
 | some a,some b=>SeqAt.shaped a=true/\SeqAt.shaped b=true/\Q (.d (.bool (PyData.eqv a b))) h
 | _,_=>False
def dNe:D2:=fun x y h Q=>match ref h x,ref h y with
 | some a,some b=>SeqAt.shaped a=true/\SeqAt.shaped b=true/\Q (.d (.bool (!PyData.eqv a b))) h
 | _,_=>False
section
variable {X:Cx}
theorem dR {op:Value->Value->Sem Value} {f:Int->Int->PyData} {g:Int->Int->V} {C:Int->Int->Prop} {r:D2} (ho:OpR X op (rI C g)) (hf:∀ i j A H,Rep X.K A H (f i j) (g i j))
  (hr:∀ u w h k,r u w h k->∃ i j,u=.d (.int i)/\w=.d (.int j)/\C i j/\k (.d (f i j)) h):OpR X op (upR X.K r):=by
 intro pins s σ H x y v u Q I rx ry h;obtain ⟨a,b,h,A,μ,k,R,ra,rb,q,c⟩:=h;obtain ⟨i,j,rfl,rfl,hc,q⟩:=hr _ _ _ _ q;have ea:=bG ra;have eb:=bG rb;subst ea eb;exact ho pins s σ H _ _ v u Q I rx ry ⟨i,j,rfl,rfl,hc,c _ _ _ _ _ _ q .refl R (hf i j A H)⟩
theorem OpR.i0 {op:Value->Value->Sem Value} {g:Int->Int->V} (ho:OpR X op (rI0 g)):OpR X op (rI (fun _ _=>True) g):=fun pins s σ H x y v u Q I rx ry ⟨i,j,e1,e2,_,q⟩=>ho pins s σ H x y v u Q I rx ry ⟨i,j,e1,e2,q⟩
theorem iB {K:Frag} {A:List Addr} {H:Hp} {i:Int}:Rep K A H (.int i) (.int i):=by rw [Rep]
theorem aT8 {K:Frag} {A:List Addr} {H:Hp} {i:Bool}:Rep K A H (.bool i) (.bl i):=by rw [Rep]
theorem aE7:OpR X (binaryOp .Add) (fun x y H Q=>∃ a b ys,x=.ref a/\y=.ref b/\SqT X.K H a []/\SqT X.K H b ys/\Q (.ref b) H):=by
 intro pins s σ H x y v u Q I rx ry h;obtain ⟨a,b,ys,rfl,rfl,ha,hb,q⟩:=h;cases rx;cases ry;obtain ⟨its,r1,p1,_⟩:=I.tuple ha;obtain ⟨its2,r2,p2,_⟩:=I.tuple hb;have e0:its=[]:=by cases r1;rfl
 subst e0;obtain ⟨⟨cls,dd,data,sl⟩,ho,hc,n,hd⟩:=id p1;obtain ⟨⟨cls2,dd2,data2,sl2⟩,ho2,hc2,n2,hd2⟩:=id p2;simp only at hc hd hc2 hd2;subst hc hd hc2 hd2;exact concat_meets ⟨_,ho,rfl⟩ ⟨_,ho2,rfl⟩ noFill_tuple_add seq_tuple_add PySem.F.slot_tuple_add PySem.F.entry_tuple_add (PySem.F.args_tuple_add_2 _ _) (tuple_addW0 a b _ _ n n2 dd dd2 sl sl2 rfl) ⟨ho,ho2,⟨.ref b,H,I,rfl,q⟩⟩
theorem aT9:OpR X (binaryOp .Add) (upR X.K cI8):=by
 intro pins s σ H x y v u Q I rx ry h;obtain ⟨a,b,h,A,μ,k,R,ra,rb,q,c⟩:=h;unfold cI8 at q;split at q
 ·have ea:=bG ra;have eb:=bG rb;subst ea eb;exact bN0 pins s σ H _ _ v u Q I rx ry ⟨_,_,rfl,rfl,c _ _ _ _ _ _ q .refl R kY⟩
 ·rename_i xs ys;obtain ⟨pa,va,rfl,ta,sa⟩:=bF (h:=h) ra rfl;obtain ⟨pb,vb,rfl,tb,sb⟩:=bF (h:=h) rb rfl;have la:=sa.length;have lb:=sb.length;have all:Reps X.K A H (xs++ys) (va++vb):=sb.append sa
  by_cases e1:va=[]
  ·subst e1;have ex:xs=[]:=List.eq_nil_of_length_eq_zero la.symm;subst ex;refine aE7 pins s σ H _ _ v u Q I rx ry ⟨pa,pb,vb,rfl,rfl,ta.sq,tb.sq,c _ _ _ _ _ _ q.2 .refl R rb⟩
  ·refine aS4 pins s σ H _ _ v u Q I rx ry ⟨pa,pb,va,vb,rfl,rfl,ta.sq,tb.sq,e1,by rw [la,lb];exact q.1,fun z=>?_,fun _ p hp=>?_⟩
   ·subst z;have ey:ys=[]:=List.eq_nil_of_length_eq_zero lb.symm;subst ey;have q2:=q.2;rw [List.append_nil] at q2;exact c _ _ _ _ _ _ q2 .refl R ra
   ·exact c _ _ _ _ _ _ q.2 (bI hp) (R.fresh hp) (dJ R hp all)
 ·exact q.elim
theorem aU0:OpR X (binaryOp .Sub) (upR X.K cI9):=dR (f:=fun i j=>.int (i - j)) (OpR.i0 bN1) (fun _ _ _ _=>iB) fun u w h k q=>by
 unfold cI9 at q;split at q
 ·exact ⟨_,_,rfl,rfl,trivial,q⟩
 ·exact q.elim
theorem aU1:OpR X (binaryOp .Mult) (upR X.K cJ0):=dR (f:=fun i j=>.int (i*j)) bN2 (fun _ _ _ _=>iB) fun u w h k q=>by
 unfold cJ0 at q;split at q
 ·exact ⟨_,_,rfl,rfl,q.1,q.2⟩
 ·exact q.elim
theorem aU2:OpR X (binaryOp .Mod) (upR X.K cJ1):=dR (f:=fun i j=>.int (i%j)) bN3 (fun _ _ _ _=>iB) fun u w h k q=>by
 unfold cJ1 at q;split at q
 ·exact ⟨_,_,rfl,rfl,q.1,q.2⟩
 ·exact q.elim
theorem aU3:OpR X (binaryOp .Pow) (upR X.K cJ2):=dR (f:=fun i j=>.int (i^j.toNat)) bN4 (fun _ _ _ _=>iB) fun u w h k q=>by
 unfold cJ2 at q;split at q
 ·exact ⟨_,_,rfl,rfl,q.1,q.2⟩
 ·exact q.elim
theorem kI {p:Int->Int->Bool} (u w:W) (h:aA) (k:DK) (q:nK p u w h k):∃ i j,u=.d (.int i)/\w=.d (.int j)/\True/\k (.d (.bool (p i j))) h:=by
 unfold nK at q;split at q
 ·exact ⟨_,_,rfl,rfl,trivial,q⟩
 ·exact q.elim
abbrev dLt:=nK fun i j=>decide (i < j)
abbrev dLe:=nK fun i j=>decide (i<=j)
abbrev dGt:=nK fun i j=>decide (j < i)
abbrev dGe:=nK fun i j=>decide (j<=i)
theorem bQ5:OpR X (compareOp .Lt) (upR X.K dLt):=dR (f:=fun i j=>.bool (decide (i < j))) (OpR.i0 cH3) (fun _ _ _ _=>aT8) kI
theorem bQ6:OpR X (compareOp .LtE) (upR X.K dLe):=dR (f:=fun i j=>.bool (decide (i<=j))) (OpR.i0 cH4) (fun _ _ _ _=>aT8) kI
theorem bQ7:OpR X (compareOp .Gt) (upR X.K dGt):=dR (f:=fun i j=>.bool (decide (j < i))) (OpR.i0 cH5) (fun _ _ _ _=>aT8) kI
theorem bQ8:OpR X (compareOp .GtE) (upR X.K dGe):=dR (f:=fun i j=>.bool (decide (j<=i))) (OpR.i0 cH6) (fun _ _ _ _=>aT8) kI
theorem bQ9 {n:Nat} (hr:Room n X.A):OpR X (compareOp .Eq) (upR X.K dEq):=by
 intro pins s σ H x y v u Q I rx ry h;obtain ⟨a,b,h,A,μ,k,R,ra,rb,q,c⟩:=h;unfold dEq at q;split at q
 ·rename_i da db ea eb;obtain ⟨as,z1⟩:=(bH R ra ea).reads I (SeqAt.canLay_of_shaped q.1) rx;obtain ⟨bs,z2⟩:=(bH R rb eb).reads I (SeqAt.canLay_of_shaped q.2.1) ry;exact eq_dataH z1 z2 q.1 q.2.1 hr.units ⟨.bl _,H,I,rfl,c _ _ _ _ _ _ q.2.2 .refl R bA⟩
 ·exact q.elim
theorem bR0 {n:Nat} (hr:Room n X.A):OpR X (compareOp .NotEq) (upR X.K dNe):=by
 intro pins s σ H x y v u Q I rx ry h;obtain ⟨a,b,h,A,μ,k,R,ra,rb,q,c⟩:=h;unfold dNe at q;split at q
 ·rename_i da db ea eb;obtain ⟨as,z1⟩:=(bH R ra ea).reads I (SeqAt.canLay_of_shaped q.1) rx;obtain ⟨bs,z2⟩:=(bH R rb eb).reads I (SeqAt.canLay_of_shaped q.2.1) ry;exact ne_dataH z1 z2 q.1 q.2.1 hr.units ⟨.bl _,H,I,rfl,c _ _ _ _ _ _ q.2.2 .refl R bA⟩
 ·exact q.elim
noncomputable def isSame:PyData->PyData->Option Bool
 | .none,.none=>some true
 | .bool a,.bool b=>some (a==b)
 | .none,.bool _=>some false
 | .bool _,.none=>some false
 | .int _,.none=>some false
 | .int _,.bool _=>some false
 | .str _,.none=>some false
 | .str _,.bool _=>some false
 | .list _,.none=>some false
 | .list _,.bool _=>some false
 | .tuple _,.none=>some false
 | .tuple _,.bool _=>some false
 | _,_=>none
noncomputable def dIs (neg:Bool):D2
 | .d a,.d b,h,Q=>match isSame a b with
  | some k=>Q (.d (.bool (if neg then !k else k))) h
  | none=>False
 | _,_,_,_=>False
theorem kZ {K:Frag} {A:List Addr} {H:Hp} {a b:PyData} {x y:V} {v u:Value} {k:Bool} (ra:Rep K A H a x) (rb:Rep K A H b y) (rx:RelV x v) (ry:RelV y u) (e:isSame a b=some k):plainIs v u=true/\(v==u)=k:=by
 cases b with
 | none =>
  rw [Rep] at rb;subst rb;cases ry;cases a with
  | none=>rw [Rep] at ra;subst ra;cases rx;cases e;exact ⟨rfl,rfl⟩
  | bool c=>rw [Rep] at ra;subst ra;cases rx;cases e;exact ⟨rfl,rfl⟩
  | int c=>rw [Rep] at ra;subst ra;obtain ⟨t,rfl⟩:=rx;cases e;exact ⟨rfl,rfl⟩
  | str c=>rw [Rep] at ra;obtain ⟨ra,_⟩:=ra;subst ra;obtain ⟨t,rfl⟩:=rx;cases e;exact ⟨rfl,rfl⟩
  | list c=>rw [Rep] at ra;obtain ⟨p,vs,rfl,_⟩:=ra;cases rx;cases e;exact ⟨rfl,rfl⟩
  | tuple c=>rw [Rep] at ra;obtain ⟨p,vs,rfl,_⟩:=ra;cases rx;cases e;exact ⟨rfl,rfl⟩
  | dict c=>cases e
 | bool b =>
  rw [Rep] at rb;subst rb;cases ry;cases a with
  | none=>rw [Rep] at ra;subst ra;cases rx;cases e;exact ⟨rfl,rfl⟩
  | bool c=>rw [Rep] at ra;subst ra;cases rx;cases e;cases b<;>cases c<;>exact ⟨rfl,rfl⟩
  | int c=>rw [Rep] at ra;subst ra;obtain ⟨t,rfl⟩:=rx;cases e;exact ⟨rfl,rfl⟩
  | str c=>rw [Rep] at ra;obtain ⟨ra,_⟩:=ra;subst ra;obtain ⟨t,rfl⟩:=rx;cases e;exact ⟨rfl,rfl⟩
  | list c=>rw [Rep] at ra;obtain ⟨p,vs,rfl,_⟩:=ra;cases rx;cases e;exact ⟨rfl,rfl⟩
  | tuple c=>rw [Rep] at ra;obtain ⟨p,vs,rfl,_⟩:=ra;cases rx;cases e;exact ⟨rfl,rfl⟩
  | dict c=>cases e
 | _=>cases a<;>cases e
theorem bR1:OpR X (compareOp .Is) (upR X.K (dIs false)):=by
 intro pins s σ H x y v u Q I rx ry h;obtain ⟨a,b,h,A,μ,k,R,ra,rb,q,c⟩:=h;unfold dIs at q;split at q
 ·split at q
  ·rename_i e;obtain ⟨h1,h2⟩:=kZ ra rb rx ry e;exact wpAny_is_plain h1 ⟨.bl _,H,I,by rw [h2];rfl,c _ _ _ _ _ _ q .refl R bA⟩
  ·exact q.elim
 ·exact q.elim
theorem yF:OpR X (compareOp .IsNot) (upR X.K (dIs true)):=by
 intro pins s σ H x y v u Q I rx ry h;obtain ⟨a,b,h,A,μ,k,R,ra,rb,q,c⟩:=h;unfold dIs at q;split at q
 ·split at q
  ·rename_i e;obtain ⟨h1,h2⟩:=kZ ra rb rx ry e;exact wpAny_isNot_plain h1 ⟨.bl _,H,I,by rw [h2];rfl,c _ _ _ _ _ _ q .refl R bA⟩
  ·exact q.elim
 ·exact q.elim
def dIx:D2:=fun x y h Q=>match ref h x,y with
 | some (.list xs),.d (.int i)=>match atI xs i with
  | some v=>Q (.d v) h
  | none=>False
 | some (.tuple xs),.d (.int i)=>match atI xs i with
  | some v=>Q (.d v) h
  | none=>False
 | _,_=>False
theorem rO {K:Frag} {A:List Addr} {H:Hp} {xs:List PyData} {vs:List V} {i:Int} {x:PyData} (r:Reps K A H xs vs) (e:atI xs i=some x):∃ v,atI vs i=some v/\Rep K A H x v:=by
 unfold atI at e ⊢;rw [r.length];cases q:ixN xs.length i with
 | none=>rw [q] at e;cases e
 | some j =>
  rw [q] at e;obtain ⟨v,e1,e2⟩:=r.get (i:=j) e;exact ⟨v,e1,e2⟩
theorem cZ5:IxR X (upR X.K dIx):=by
 intro value slice pins s σ H x y v u Q I rx ry h hs;obtain ⟨a,b,h,A,μ,k,R,ra,rb,q,c⟩:=h;unfold dIx at q;split at q
 ·rename_i xs i ea;obtain ⟨p,vs,rfl,sq,rr⟩:=bX R ra ea;have eb:=bG rb;subst eb;split at q
  ·rename_i z ez;obtain ⟨z',e1,e2⟩:=rO rr ez;exact wC value slice pins s σ H _ _ v u Q I rx ry ⟨p,vs,i,z',rfl,rfl,sq,e1,c _ _ _ _ _ _ q .refl R e2⟩ hs
  ·exact q.elim
 ·rename_i xs i ea;obtain ⟨p,vs,rfl,sq,rr⟩:=bF ra ea;have eb:=bG rb;subst eb;split at q
  ·rename_i z ez;obtain ⟨z',e1,e2⟩:=rO rr ez;exact bO3 value slice pins s σ H _ _ v u Q I rx ry ⟨p,vs,i,z',rfl,rfl,sq.sq,e1,c _ _ _ _ _ _ q .refl R e2⟩ hs
  ·exact q.elim
 ·exact q.elim
abbrev DTO:=DSt->aA->(Option Int->aA->Prop)->Prop
noncomputable def upO (K:Frag) (t:DTO):TO:=fun σ H Q=>∃ (δ:DSt) (h:aA) (A μ:List Addr) (k:Option Int->aA->Prop),Ab K A μ δ h σ H/\t δ h k /\
 ∀ b h' H' A' μ',k b h'->Ext A A' μ μ' H H'->HeapRep K A' μ' h' H'->Q b H'
def DO (X:Cx) (e:Option Expr) (t:DTO):Prop:=PO X e (upO X.K t)
theorem pD {X:Cx} {e:Option Expr} {t t':TO} (h:PO X e t) (m:∀ σ H Q,t' σ H Q->t σ H Q):PO X e t':=fun pins s σ H Q I q=>h pins s σ H Q I (m σ H Q q)
def aU4:DTO:=fun _ h Q=>Q none h
def cJ3 (t:DTE):DTO:=fun δ h Q=>t δ h fun w h1=>match w with
 | .d (.int i)=>Q (some i) h1
 | _=>False
theorem aU5:DO X none aU4:=pD aS2 fun σ H Q q=>by
 obtain ⟨δ,h,A,μ,k,R,q,c⟩:=q;exact c none h H A μ q .refl R.1
theorem aU6 {e:Expr} {te:DTE} (he:DE X e te):DO X (some e) (cJ3 te):=pD (aS3 he) fun σ H Q q=>by
 obtain ⟨δ,h,A,μ,k,R,q,c⟩:=q;refine ⟨δ,h,A,μ,_,R,q,fun w h1 v H1 A1 μ1 q1 x1 R1 r1=>?_⟩;cases w with
 | c i=>exact q1.elim
 | v u=>exact q1.elim
 | d x =>
  cases x with
  | int i=>exact ⟨i,bG r1,c _ h1 H1 A1 μ1 q1 x1 R1⟩
  | _=>exact q1.elim
noncomputable def cut (xs:List PyData) (lo hi:Option Int):List PyData:=(xs.drop (HT.sIx xs.length 0 lo)).take (HT.sIx xs.length xs.length hi - HT.sIx xs.length 0 lo)
noncomputable def cJ4 (te:DTE) (tl th:DTO) (r:W->Option Int->Option Int->aA->Prop):DSt->aA->Prop:=fun δ h=>te δ h fun x h1=>tl δ h1 fun lo h2=>th δ h2 fun hi h3=>r x lo hi h3
def cZ6 (te:DTE) (tl th:DTO):DTE:=fun δ h Q=>cJ4 te tl th (fun x lo hi h3=>match x with
 | .d (.tuple xs)=>Q (.d (.tuple (cut xs lo hi))) h3
 | _=>False) δ h
def cZ7 (te:DTE) (tl th:DTO):DTF:=fun δ h Q=>cJ4 te tl th (fun x lo hi h3=>match ref h3 x with
 | some (.list xs)=>Q (cut xs lo hi) h3
 | _=>False) δ h
theorem rP {K:Frag} {A:List Addr} {H:Hp} {xs:List PyData} {vs:List V} (r:Reps K A H xs vs) (lo hi:Option Int):Reps K A H (cut xs lo hi) (rE vs lo hi):=by
 unfold cut rE;rw [r.length];exact (r.drop _).take _
theorem yG {prog:Program} {w:World} {A:Around} {E:Value->Shared->Prop} {s:Shared} {t sl:Addr} {items:Array Value} {vl vu:Value} {lo hi:Option Int} {Q:Value->Shared->Prop} (ht:IsTup s.heap t items) (hs:s.heap.IsSliceOf sl vl vu .none) (pl:IsPart vl lo) (pu:IsPart vu hi)
  (hw:HT.sIx items.size 0 lo=0/\HT.sIx items.size items.size hi=items.size) (h:Q (.ref t) s):wpAny (model prog w) A (getItem (.ref t) (.ref sl)) Q E s:=by
 obtain ⟨os,hos,hcs,hds⟩:=id hs;have hTs:s.TypeIs (.ref sl) "slice":=⟨os,hos,hcs⟩;unfold getItem;try with_reducible refine wpAny_holding ?_
 first | refine wpAny_bind (wpAny_pure ?_) | skip
 refine wpAny_bind (wpAny_sequenceKey ht.typeIs (by decide) ?_);refine wpAny_bind (wpAny_callSpecial?_slot (name:=Str.ofString "__getitem__") ht.typeIs PyProof.Rows.slot_tuple_getitem
  (wpAny_call_entry PyProof.Rows.slot_tuple_getitem ht.typeIs entry_tuple_getitem ?_ (args_tuple_getitem _ _)))
 show wpAny _ _ (Builtin.Tuple.tupleItemsOf (.ref t) >>= _) _ _ s;refine wpAny_bind (tupleItemsOf_ ht (wpAny_bind (wpAny_typeOf hTs ?_)));rw [if_pos (by decide)];refine wpAny_bind (HT.sliceApplied_gen hs pl pu ?_);have hy:(((HT.sIx items.size 0 lo:Nat):Int)==0&&(1:Int)==1&&(HT.sIx items.size items.size hi - HT.sIx items.size 0 lo)==items.size)=true:=by
  rw [hw.1,hw.2];simp
 show wpAny _ _ (if (((HT.sIx items.size 0 lo:Nat):Int)==0&&(1:Int)==1&&(HT.sIx items.size items.size hi - HT.sIx items.size 0 lo)==items.size)=true then _ else _) _ _ s;rw [if_pos hy];refine wpAny_bind (wpAny_bind (wpAny_typeOf ht.typeIs (wpAny_pure ?_)));rw [if_pos (by decide)];exact wpAny_bind (wpAny_rule (wpAny_pure ⟨_,rfl,wpAny_pure h⟩))
noncomputable def cZ8 (K:Frag):V->Option Int->Option Int->Hp->VK->Prop:=fun x lo hi H Q=>∃ a xs,x=.ref a/\SqT K H a xs/\(HT.sIx xs.length 0 lo=0/\HT.sIx xs.length xs.length hi=xs.length)/\Q (.ref a) H
theorem aU7:SlR X (cZ8 X.K):=by
 intro pins s σ H x v vl vu lo hi sl Q I rx hs pl pu h;obtain ⟨a,xs,rfl,hx,hw,q⟩:=h;cases rx;obtain ⟨its,r,ht,hz⟩:=I.tuple hx;have hlen:its.toArray.size=xs.length:=by rw [List.size_toArray];exact r.length.symm
 exact ⟨"tuple",_,PyProof.Rows.slot_tuple_getitem.lookup,ht.typeIs,yG ht hs pl pu (by rw [hlen];exact hw) ⟨.ref a,H,I,rfl,q⟩⟩
theorem yH {xs:List PyData} {lo hi:Option Int} (h:HT.sIx xs.length 0 lo=0/\HT.sIx xs.length xs.length hi=xs.length):cut xs lo hi=xs:=by
 unfold cut;rw [h.1,h.2];simp
theorem bR2 {e:Expr} {te:DTE} {lo hi:Option Expr} {tl th:DTO} {p2 pos:Pos} (he:DE X e te) (hl:DO X lo tl) (hh:DO X hi th):DE X (.Subscript e (.Slice lo hi none p2) pos) (cZ6 te tl th):=aH (rD (sl_tup.or aU7) he hl hh) fun σ H Q q=>by
 obtain ⟨δ,h,A,μ,k,R,q,c⟩:=q;refine ⟨δ,h,A,μ,_,R,q,fun w h1 v H1 A1 μ1 q1 x1 R1 r1=>?_⟩;refine ⟨δ,h1,A1,μ1,_,⟨R1,R.2.ext x1 R.1.sub⟩,q1,fun l h2 H2 A2 μ2 q2 x2 R2=>?_⟩;refine ⟨δ,h2,A2,μ2,_,⟨R2,R.2.ext (x1.trans x2) R.1.sub⟩,q2,fun u h3 H3 A3 μ3 q3 x3 R3=>?_⟩;have r3:=r1.ext (x2.trans x3) R1.sub;dsimp only at q3 ⊢;split at q3
 ·rename_i xs;obtain ⟨p,vs,rfl,sq,rr⟩:=bF (h:=h3) r3 rfl
  by_cases hw:HT.sIx xs.length 0 l=0/\HT.sIx xs.length xs.length u=xs.length
  ·rw [yH hw] at q3;exact .inr ⟨p,vs,rfl,sq.sq,by rw [rr.length];exact hw,c _ _ _ _ _ _ q3 ((x1.trans x2).trans x3) R3 r3⟩
  ·refine .inl ⟨p,vs,rfl,sq.sq,by rw [rr.length];exact hw,fun p hp=>?_⟩;exact c _ _ _ _ _ _ q3 (((x1.trans x2).trans x3).trans (bI hp)) (R3.fresh hp) (dJ R3 hp (rP rr l u))
 ·exact q3.elim
theorem aE8 {e:Expr} {te:DTE} {lo hi:Option Expr} {tl th:DTO} {p2 pos:Pos} (he:DE X e te) (hl:DO X lo tl) (hh:DO X hi th):DF X (.Subscript e (.Slice lo hi none p2) pos) (cZ7 te tl th):=aH (rD aS5 he hl hh) fun σ H Q q=>by
 obtain ⟨δ,h,A,μ,k,R,q,c⟩:=q;refine ⟨δ,h,A,μ,_,R,q,fun w h1 v H1 A1 μ1 q1 x1 R1 r1=>?_⟩;refine ⟨δ,h1,A1,μ1,_,⟨R1,R.2.ext x1 R.1.sub⟩,q1,fun l h2 H2 A2 μ2 q2 x2 R2=>?_⟩;refine ⟨δ,h2,A2,μ2,_,⟨R2,R.2.ext (x1.trans x2) R.1.sub⟩,q2,fun u h3 H3 A3 μ3 q3 x3 R3=>?_⟩;have r3:=r1.ext (x2.trans x3) R1.sub;dsimp only at q3 ⊢;split at q3
 ·rename_i xs ex;obtain ⟨p,vs,rfl,sq,rr⟩:=bX R3 r3 ex;refine ⟨p,vs,rfl,sq,fun p hp=>?_⟩;have x4:=(x1.trans x2).trans x3;obtain ⟨ν,e1,_⟩:=x4.pre;exact c _ _ _ _ _ _ q3 (x4.trans (bQ hp)) ⟨ν,e1⟩ (x4.back hp) (cP R3 hp (rP rr l u))
 ·exact q3.elim
end
abbrev DC:=List W->aA->DK->Prop
noncomputable def upC (K:Frag) (r:DC):List V->Hp->VK->Prop:=fun vs H Q=>∃ (ws:List W) (h:aA) (A μ:List Addr) (k:DK),HeapRep K A μ h H/\RepWs K A μ H ws vs/\r ws h k /\
 ∀ w h' v H' A' μ',k w h'->Ext A A' μ μ' H H'->HeapRep K A' μ' h' H'->RepW K A' μ' H' w v->Q v H'
def dCB (r:DC) (t:DTA):DTE:=fun δ h Q=>t δ h fun ws h1=>r ws h1 Q
theorem bF3 {K:Frag} {r:DC} {t:DTA} {σ:L2.St} {H:Hp} {Q:VK} (q:up K (dCB r t) σ H Q):tCB (upC K r) (upA K t) σ H Q:=by
 obtain ⟨δ,h,A,μ,k,R,q,c⟩:=q;refine ⟨δ,h,A,μ,_,R,q,fun ws h1 vs H1 A1 μ1 q1 x1 R1 r1=>?_⟩;exact ⟨ws,h1,A1,μ1,k,R1,r1,q1,fun w h2 v H2 A2 μ2 q2 x2 R2 r2=>c w h2 v H2 A2 μ2 q2 (x1.trans x2) R2 r2⟩
theorem cR {K:Frag} {A μ:List Addr} {H:Hp} {w:W} {vs:List V} (r:RepWs K A μ H [w] vs):∃ v,vs=[v]/\RepW K A μ H w v:=by
 obtain ⟨v,r,rfl,h1,h2⟩:=r;have e:r=[]:=h2;subst e;exact ⟨v,rfl,h1⟩
section
variable {X:Cx} {x:Str} {p pos:Pos} {e:Expr} {es:List Expr} {t:DTA} {id T:String} {r:DC}
theorem aE9 (hc:cN X (.builtin id) (upC X.K r)) (hm:X.mg x=none) (ha:DA X (e::es) t) (hv:bootBuiltins x=some (.builtin id):=by rfl) (hg:Gl X x:=by rfl) (hn:x≠"__name__":=by decide) (hdb:(x==("__debug__":Str))=false:=by decide)
  (he:starEach (e::es) X.env=(false,eval e X.env)::starEach es X.env:=by rfl) (hpl:(backTo pos (starEach es X.env)).any (·.1)=false:=by rfl):DE X (.Call (.Name x p) (e::es) [] pos) (dCB r t) :=
 aH (rC hc hg hm hv ha hn hdb he hpl) fun _ _ _ q=>bF3 q
theorem yI (hc:cN X (.type T) (upC X.K r)) (hm:X.mg x=none) (ha:DA X (e::es) t) (hv:bootBuiltins x=some (.type T):=by rfl) (hg:Gl X x:=by rfl) (hn:x≠"__name__":=by decide) (hdb:(x==("__debug__":Str))=false:=by decide)
  (he:starEach (e::es) X.env=(false,eval e X.env)::starEach es X.env:=by rfl) (hpl:(backTo pos (starEach es X.env)).any (·.1)=false:=by rfl):DE X (.Call (.Name x p) (e::es) [] pos) (dCB r t) :=
 aH (nD hc hg hm hv ha hn hdb he hpl) fun _ _ _ q=>bF3 q
noncomputable def bR3:DC
 | [w],h,Q=>match ref h w with
  | some (.list xs)=>Q (.d (.int xs.length)) h
  | some (.tuple xs)=>Q (.d (.int xs.length)) h
  | _=>False
 | _,_,_=>False
theorem yJ:cN X (.builtin "len") (upC X.K bR3):=by
 intro pins s σ H xs us Q I r h;obtain ⟨ws,h,A,μ,k,R,rw',q,c⟩:=h;unfold bR3 at q;split at q
 ·rename_i w h0 k0;obtain ⟨v,rfl,rv⟩:=cR rw';split at q
  ·rename_i ys ey;obtain ⟨p,vs,rfl,sq,rr⟩:=bX R rv ey;exact hZ pins s σ H _ us Q I r ⟨p,vs,rfl,.inl sq,by rw [rr.length];exact c _ _ _ _ _ _ q .refl R kY⟩
  ·rename_i ys ey;obtain ⟨p,vs,rfl,sq,rr⟩:=bF rv ey;exact hZ pins s σ H _ us Q I r ⟨p,vs,rfl,.inr sq.sq,by rw [rr.length];exact c _ _ _ _ _ _ q .refl R kY⟩
  ·exact q.elim
 ·exact q.elim
noncomputable def uJ:DC
 | [w],h,Q=>match ref h w with
  | some (.list xs)=>Q (.d (.tuple xs)) h
  | some (.tuple xs)=>Q (.d (.tuple xs)) h
  | _=>False
 | _,_,_=>False
theorem rQ:cN X (.type "tuple") (upC X.K uJ):=by
 intro pins s σ H xs us Q I r h;obtain ⟨ws,h,A,μ,k,R,rw',q,c⟩:=h;unfold uJ at q;split at q
 ·rename_i w h0 k0;obtain ⟨v,rfl,rv⟩:=cR rw';split at q
  ·rename_i ys ey;obtain ⟨p,vs,rfl,sq,rr⟩:=bX R rv ey;exact gO pins s σ H _ us Q I r ⟨p,vs,rfl,.inl ⟨sq,fun l hl=>c _ _ _ _ _ _ q (bI hl) (R.fresh hl) (dJ R hl rr)⟩⟩
  ·rename_i ys ey;obtain ⟨p,vs,rfl,sq,rr⟩:=bF rv ey;refine gO pins s σ H _ us Q I r ⟨p,vs,rfl,.inr ⟨sq.sq,c _ _ _ _ _ _ q .refl R ?_⟩⟩;show Rep X.K A H (.tuple ys) (.ref p);rw [Rep];exact ⟨p,vs,rfl,sq,rr⟩
  ·exact q.elim
 ·exact q.elim
def bR4 (t:DTA):DTF:=fun δ h Q=>t δ h fun ws h1=>match ws with
 | [w]=>(match ref h1 w with
  | some (.list xs)=>Q xs h1
  | some (.tuple xs)=>Q xs h1
  | _=>False)
 | _=>False
theorem aU8 (hm:X.mg "list"=none) (ha:DA X (e::es) t) (hg:Gl X "list":=by rfl)
  (he:starEach (e::es) X.env=(false,eval e X.env)::starEach es X.env:=by rfl) (hpl:(backTo pos (starEach es X.env)).any (·.1)=false:=by rfl):DF X (.Call (.Name "list" p) (e::es) [] pos) (bR4 t) :=
 aH (nD oY hg hm rfl ha (by decide) (by decide) he hpl) fun σ H Q q=>by
  obtain ⟨δ,h,A,μ,k,R,q,c⟩:=q;refine ⟨δ,h,A,μ,_,R,q,fun ws h1 vs H1 A1 μ1 q1 x1 R1 r1=>?_⟩;obtain ⟨ν,e1,_⟩:=x1.pre;split at q1
  ·rename_i w;obtain ⟨v,rfl,rv⟩:=cR r1;split at q1
   ·rename_i ys ey;obtain ⟨p,vs,rfl,sq,rr⟩:=bX R1 rv ey;exact ⟨p,vs,rfl,.inl sq,fun l hl=>c _ _ _ _ _ _ q1 (x1.trans (bQ hl)) ⟨ν,e1⟩ (x1.back hl) (cP R1 hl rr)⟩
   ·rename_i ys ey;obtain ⟨p,vs,rfl,sq,rr⟩:=bF rv ey;exact ⟨p,vs,rfl,.inr sq.sq,fun l hl=>c _ _ _ _ _ _ q1 (x1.trans (bQ hl)) ⟨ν,e1⟩ (x1.back hl) (cP R1 hl rr)⟩
   ·exact q1.elim
  ·exact q1.elim
end
abbrev DSp:=List W->aA->(PyData->aA->Prop)->Prop
noncomputable def lB (K:Frag) (d:DSp):Sp:=fun vs H Q _=>∃ (ws:List W) (h:aA) (A μ:List Addr) (k:PyData->aA->Prop),HeapRep K A μ h H/\RepWs K A μ H ws vs/\d ws h k /\
 ∀ z h' v H' A',k z h'->Ext A A' μ μ H H'->HeapRep K A' μ h' H'->Rep K A' H' z v->Q v H'
def bF4 (d:DSp) (t:DTA):DTE:=fun δ h Q=>t δ h fun ws h1=>d ws h1 fun z h2=>Q (.d z) h2
theorem aU9 {K:Frag} {d:DSp} {t:DTA} {σ:L2.St} {H:Hp} {Q:VK} (q:up K (bF4 d t) σ H Q):aD2 (lB K d) [] E0 (upA K t) σ H Q:=by
 obtain ⟨δ,h,A,μ,k,R,q,c⟩:=q;refine ⟨δ,h,A,μ,_,R,q,fun ws h1 vs H1 A1 μ1 q1 x1 R1 r1=>?_⟩;show lB K d (vs++[]) H1 Q E0;rw [List.append_nil];exact ⟨ws,h1,A1,μ1,_,R1,r1,q1,fun z h2 v H2 A2 q2 x2 R2 r2=>c _ h2 v H2 A2 μ1 q2 (x1.trans x2) R2 r2⟩
structure DFn (P:Program) (w:World) (K:Frag) (mg:Str->Option Value) (base:Heap) (k:Nat) (x:Str) (d:DSp):Prop where
 ok:∃ (f:Addr) (fd:FuncData) (ps:List Str),FnOk P w K mg base CX0 k f fd ps (lB K d)/\mg x=some (.ref f)/\PySem.W.keepIn K (.ref f)=true/\Binds K fd ps []
theorem DFn.mono {P:Program} {w:World} {K:Frag} {mg:Str->Option Value} {base:Heap} {j k:Nat} {x:Str} {d:DSp} (F:DFn P w K mg base j x d) (h:j<=k):DFn P w K mg base k x d:=by
 obtain ⟨f,fd,ps,h1,h2⟩:=F.ok;exact ⟨f,fd,ps,h1.mono h,h2⟩
theorem DFn.imp {P:Program} {w:World} {K:Frag} {mg:Str->Option Value} {base:Heap} {k:Nat} {x:Str} {d d':DSp} (F:DFn P w K mg base k x d) (h:∀ ws h k,d' ws h k->d ws h k):DFn P w K mg base k x d':=by
 obtain ⟨f,fd,ps,h1,h2⟩:=F.ok;exact ⟨f,fd,ps,h1.imp fun vs H Q E ⟨ws,h0,A,μ,k,R,r,q,c⟩=>⟨ws,h0,A,μ,k,R,r,h _ _ _ q,c⟩,h2⟩
section
variable {X:Cx} {x:Str} {p pos:Pos} {e:Expr} {es:List Expr} {t:DTA} {d:DSp} {k:Nat}
theorem aV0 (F:DFn X.prog X.w X.K X.mg X.base k x d) (hr:Room k X.A) (ha:DA X (e::es) t) (hg:Gl X x:=by rfl) (hdb:(x==("__debug__":Str))=false:=by decide)
  (he:starEach (e::es) X.env=(false,eval e X.env)::starEach es X.env:=by rfl) (hpl:(backTo pos (starEach es X.env)).any (·.1)=false:=by rfl):DE X (.Call (.Name x p) (e::es) [] pos) (bF4 d t):=by
 obtain ⟨f,fd,ps,h1,h2,h3,h4⟩:=F.ok;exact aH (vZ h1 hr hg h2 h3 h4 .nil wD ha hdb he hpl) fun _ _ _ q=>aU9 q
end
structure DEnds where
 nx:DSt->aA->Prop
 rt:DK
 bk:DSt->aA->Prop:=fun _ _=>False
 ct:DSt->aA->Prop:=fun _ _=>False
abbrev DTS:=DEnds->DSt->aA->Prop
structure Lnk (K:Frag) (A μ:List Addr) (H:Hp) (E:DEnds) (D:Ends):Prop where
 nx:∀ δ' h' σ' H' A' μ',E.nx δ' h'->Ext A A' μ μ' H H'->Ab K A' μ' δ' h' σ' H'->D.nx σ' H'
 bk:∀ δ' h' σ' H' A' μ',E.bk δ' h'->Ext A A' μ μ' H H'->Ab K A' μ' δ' h' σ' H'->D.bk σ' H'
 ct:∀ δ' h' σ' H' A' μ',E.ct δ' h'->Ext A A' μ μ' H H'->Ab K A' μ' δ' h' σ' H'->D.ct σ' H'
 rt:∀ w h' v H' A' μ',E.rt w h'->Ext A A' μ μ' H H'->HeapRep K A' μ' h' H'->RepW K A' μ' H' w v->D.rt v H'
theorem Lnk.ext {K:Frag} {A A1 μ μ1:List Addr} {H H1:Hp} {E:DEnds} {D:Ends} (L:Lnk K A μ H E D) (x:Ext A A1 μ μ1 H H1):Lnk K A1 μ1 H1 E D :=
 ⟨fun δ h σ H' A' μ' q y=>L.nx δ h σ H' A' μ' q (x.trans y),fun δ h σ H' A' μ' q y=>L.bk δ h σ H' A' μ' q (x.trans y),fun δ h σ H' A' μ' q y=>L.ct δ h σ H' A' μ' q (x.trans y),fun w h v H' A' μ' q y=>L.rt w h v H' A' μ' q (x.trans y)⟩
def upS (K:Frag) (t:DTS):TS:=fun D σ H=>∃ (δ:DSt) (h:aA) (A μ:List Addr) (E:DEnds),Ab K A μ δ h σ H/\t E δ h/\Lnk K A μ H E D
def DS (X:Cx) (st:Stmt) (t:DTS):Prop:=PS X st (upS X.K t)
def DSs (X:Cx) (st:List Stmt) (t:DTS):Prop:=PSs X st (upS X.K t)
def bF5:DTS:=fun E δ h=>E.nx δ h
def cZ9 (t u:DTS):DTS:=fun E δ h=>t { E with nx:=u E } δ h
def dA0 (te:DTE):DTS:=fun E δ h=>te δ h E.rt
def cJ5 (te:DTE):DTS:=fun E δ h=>te δ h fun _ h1=>E.nx δ h1
def dA1 (c:DTT) (t u:DTS):DTS:=fun E δ h=>c δ h fun b h1=>if b=true then t E δ h1 else u E δ h1
abbrev DTG:=W->DSt->aA->(DSt->aA->Prop)->Prop
abbrev rR:=List PyData->DSt->aA->(DSt->aA->Prop)->Prop
def upG (K:Frag) (t:DTG):TG:=fun v σ H Q=>∃ (w:W) (δ:DSt) (h:aA) (A μ:List Addr) (k:DSt->aA->Prop),Ab K A μ δ h σ H/\RepW K A μ H w v/\t w δ h k /\
 ∀ δ' h' σ' H' A' μ',k δ' h'->Ext A A' μ μ' H H'->Ab K A' μ' δ' h' σ' H'->Q σ' H'
noncomputable def dA2 (K:Frag) (t:rR):TGs:=fun vs σ H Q=>∃ (xs:List PyData) (δ:DSt) (h:aA) (A μ:List Addr) (k:DSt->aA->Prop),Ab K A μ δ h σ H/\Reps K A H xs vs/\t xs δ h k /\
 ∀ δ' h' σ' H' A' μ',k δ' h'->Ext A A' μ μ' H H'->Ab K A' μ' δ' h' σ' H'->Q σ' H'
def DG (X:Cx) (tg:Expr) (t:DTG):Prop:=PG X tg (upG X.K t)
def DGs (X:Cx) (tg:List Expr) (t:rR):Prop:=PGs X tg (dA2 X.K t)
theorem kJ {X:Cx} {e:Expr} {t t':TG} (h:PG X e t) (m:∀ v σ H Q,t' v σ H Q->t v σ H Q):PG X e t':=fun pins s σ H v u Q I r q=>h pins s σ H v u Q I r (m v σ H Q q)
theorem iC {X:Cx} {e:List Expr} {t t':TGs} (h:PGs X e t) (m:∀ v σ H Q,t' v σ H Q->t v σ H Q):PGs X e t':=fun pins s σ H v u Q I r q=>h pins s σ H v u Q I r (m v σ H Q q)
def nL (i:Nat):DTG:=fun w δ h Q=>Q (δ.set i (some w)) h
noncomputable def cJ6:rR:=fun xs δ h Q=>xs=[]/\Q δ h
noncomputable def bR5 (t:DTG) (u:rR):rR:=fun xs δ h Q=>match xs with
 | x::r=>t (.d x) δ h fun δ1 h1=>u r δ1 h1 Q
 | []=>False
def aF0 (n:Nat) (t:rR):DTG:=fun w δ h Q=>match w with
 | .d (.tuple xs)=>xs.length=n/\t xs δ h Q
 | _=>False
def yK (te:DTE) (g:DTG):DTS:=fun E δ h=>te δ h fun w h1=>g w δ h1 E.nx
section
variable {X:Cx} {st:Stmt} {rest:List Stmt} {t u:DTS} {e tg:Expr} {te:DTE} {tc:DTT} {g:DTG} {pos:Pos}
theorem aV1:DSs X [] bF5:=kW aQ9 fun D σ H q=>by
 obtain ⟨δ,h,A,μ,E,R,q,L⟩:=q;exact L.nx δ h σ H A μ q .refl R
theorem aF1 (h1:DS X st t) (h2:DSs X rest u):DSs X (st::rest) (cZ9 t u):=kW (aC2 h1 h2) fun D σ H q=>by
 obtain ⟨δ,h,A,μ,E,R,q,L⟩:=q;exact ⟨δ,h,A,μ,_,R,q,⟨fun δ' h' σ' H' A' μ' q' x R'=>⟨δ',h',A',μ',E,R',q',L.ext x⟩,L.bk,L.ct,L.rt⟩⟩
theorem aV2:DS X (.Pass pos) bF5:=bN aR0 fun D σ H q=>by
 obtain ⟨δ,h,A,μ,E,R,q,L⟩:=q;exact L.nx δ h σ H A μ q .refl R
theorem bR6 (he:DE X e te):DS X (.Return (some e) pos) (dA0 te):=bN (bM1 he) fun D σ H q=>by
 obtain ⟨δ,h,A,μ,E,R,q,L⟩:=q;exact ⟨δ,h,A,μ,_,R,q,fun w h' v H' A' μ' q' x R' r'=>L.rt w h' v H' A' μ' q' x R' r'⟩
theorem aV3 (he:DE X e te) (hs:swapsWith e none pos.line X.env=pure false:=by rfl):DS X (.Expr e pos) (cJ5 te):=bN (aR1 he hs) fun D σ H q=>by
 obtain ⟨δ,h,A,μ,E,R,q,L⟩:=q;exact ⟨δ,h,A,μ,_,R,q,fun w h' v H' A' μ' q' x R' _=>L.nx δ h' σ H' A' μ' q' x ⟨R',R.2.ext x R.1.sub⟩⟩
theorem cJ7 {c:Expr} {a b:List Stmt} (hc:DT X c tc) (ha:DSs X a t) (hb:DSs X b u):DS X (.If c a b pos) (dA1 tc t u):=bN (cG8 hc ha hb) fun D σ H q=>by
 obtain ⟨δ,h,A,μ,E,R,q,L⟩:=q;refine ⟨δ,h,A,μ,_,R,q,fun b h1 H1 A1 μ1 q1 x1 R1=>?_⟩;cases b with
 | true=>exact ⟨δ,h1,A1,μ1,E,⟨R1,R.2.ext x1 R.1.sub⟩,q1,L.ext x1⟩
 | false=>exact ⟨δ,h1,A1,μ1,E,⟨R1,R.2.ext x1 R.1.sub⟩,q1,L.ext x1⟩
theorem aV4 {i:Nat} {x:Str} (hN:X.N.Nodup) (hi:X.N[i]?=some x:=by rfl) (hx:Loc X.env.scope x:=by first | exact Or.inl rfl | exact Or.inr rfl) (hf:X.fn x=true\/X.env.scope.names.lookup x=some .local:=by first | exact .inl rfl | exact .inr rfl):DG X (.Name x pos) (nL i) :=
 kJ (aR2 hN hi hx hf) fun v σ H Q q=>by
  obtain ⟨w,δ,h,A,μ,k,R,r,q,c⟩:=q;exact c _ h _ H A μ q .refl ⟨R.1,R.2.set i r⟩
theorem aV5:DGs X [] cJ6:=iC aR3 fun v σ H Q q=>by
 obtain ⟨xs,δ,h,A,μ,k,R,r,⟨e,q⟩,c⟩:=q;subst e;rw [Reps] at r;exact ⟨r,c δ h σ H A μ q .refl R⟩
theorem aF2 {es:List Expr} {tu:rR} (h1:DG X e g) (h2:DGs X es tu) (hs:(assignEach (e::es) X.env).map (·.2)=assign e X.env::(assignEach es X.env).map (·.2):=by rfl):DGs X (e::es) (bR5 g tu) :=
 iC (aC4 h1 h2 hs) fun v σ H Q q=>by
  obtain ⟨xs,δ,h,A,μ,k,R,r,q,c⟩:=q;cases xs with
  | nil=>exact q.elim
  | cons x xs =>
   rw [Reps] at r;obtain ⟨v1,vr,rfl,r1,r2⟩:=r;refine ⟨v1,vr,rfl,.d x,δ,h,A,μ,_,R,r1,q,fun δ1 h1 σ1 H1 A1 μ1 q1 x1 R1=>?_⟩;exact ⟨xs,δ1,h1,A1,μ1,k,R1,r2.ext x1 R.1.sub,q1,fun δ2 h2 σ2 H2 A2 μ2 q2 x2 R2=>c δ2 h2 σ2 H2 A2 μ2 q2 (x1.trans x2) R2⟩
theorem bR7 {es:List Expr} {kk:Nat} {tu:rR} {n:Nat} (hc:X.calm=true) (h:DGs X es tu) (hn:(assignEach es X.env).length=n:=by rfl) (hst:(assignEach es X.env).findIdx? (·.1)=none:=by rfl):DG X (.Tuple es kk pos) (aF0 n tu) :=
 kJ (bM4 hc h hn hst) fun v σ H Q q=>by
  obtain ⟨w,δ,h,A,μ,k,R,r,q,c⟩:=q;unfold aF0 at q;split at q
  ·rename_i xs;obtain ⟨p,vs,rfl,sq,rr⟩:=bF (h:=h) r rfl;exact ⟨p,vs,rfl,sq.sq,by rw [rr.length];exact q.1,xs,δ,h,A,μ,k,R,rr,q.2,c⟩
  ·exact q.elim
theorem bR8 (he:DE X e te) (hg:DG X tg g) (hs:swapsWithSole [tg] e pos.line X.env=pure false:=by rfl) (hw:swappedStores [tg] e X.env=pure none:=by rfl)
  (h1:(assignEach [tg] X.env).map (·.2)=[assign tg X.env]:=by rfl):DS X (.Assign [tg] e pos) (yK te g):=bN (bM6 he hg hs hw h1) fun D σ H q=>by
 obtain ⟨δ,h,A,μ,E,R,q,L⟩:=q;refine ⟨δ,h,A,μ,_,R,q,fun w h1 v H1 A1 μ1 q1 x1 R1 r1=>?_⟩;exact ⟨w,δ,h1,A1,μ1,E.nx,⟨R1,R.2.ext x1 R.1.sub⟩,r1,q1,fun δ2 h2 σ2 H2 A2 μ2 q2 x2 R2=>L.nx δ2 h2 σ2 H2 A2 μ2 q2 (x1.trans x2) R2⟩
theorem bR9 {i:Nat} {x:Str} {pos':Pos} (hN:X.N.Nodup) (he:DE X e te) (hi:X.N[i]?=some x:=by rfl) (hx:Loc X.env.scope x:=by first | exact Or.inl rfl | exact Or.inr rfl) (hs:swapsWith e (some (.Name x pos')) pos.line X.env=pure false:=by rfl)
  (hf:X.fn x=true\/X.env.scope.names.lookup x=some .local:=by first | exact .inl rfl | exact .inr rfl):DS X (.Assign [.Name x pos'] e pos) (yK te (nL i)):=bN (tS hN hi hx he hs hf) fun D σ H q=>by
 obtain ⟨δ,h,A,μ,E,R,q,L⟩:=q;refine ⟨δ,h,A,μ,_,R,q,fun w h1 v H1 A1 μ1 q1 x1 R1 r1=>?_⟩;exact L.nx _ h1 _ H1 A1 μ1 q1 x1 ⟨R1,(R.2.ext x1 R.1.sub).set i r1⟩
def DFS (X:Cx) (i:Nat) (st:Stmt) (tf:DTF):Prop:=PS X st (aR4 (upF X.K tf) (vW i))
theorem aF3 {tf:DTF} {i:Nat} {x:Str} {pos':Pos} (hN:X.N.Nodup) (he:DF X e tf) (hi:X.N[i]?=some x:=by rfl) (hx:Loc X.env.scope x:=by first | exact Or.inl rfl | exact Or.inr rfl) (hs:swapsWith e (some (.Name x pos')) pos.line X.env=pure false:=by rfl)
  (hf:X.fn x=true\/X.env.scope.names.lookup x=some .local:=by first | exact .inl rfl | exact .inr rfl):DFS X i (.Assign [.Name x pos'] e pos) tf:=tS hN hi hx he hs hf
theorem bS0 {tf:DTF} {i:Nat} (h:DFS X i st tf):DS X st (yK (bP3 tf) (nL i)):=bN h fun D σ H q=>by
 obtain ⟨δ,h,A,μ,E,R,q,L⟩:=q;refine ⟨δ,h,A,μ,_,R,q,fun xs h' p H' A' μ' kk x hm hp R'=>?_⟩;obtain ⟨R1,r1⟩:=fU R'.1 R'.2;have x1:=gW R.1 hp x hm;exact L.nx _ h' _ H' _ μ' kk x1 ⟨R1,(R.2.ext x1 R.1.sub).set i r1⟩
theorem aF4 {tf:DTF} {i:Nat} (h:DFS X i st tf):DS X st (yK (bP4 tf) (nL i)):=bN h fun D σ H q=>by
 obtain ⟨δ,h,A,μ,E,R,q,L⟩:=q;refine ⟨δ,h,A,μ,_,R,q,fun xs h' p H' A' μ' kk x hm hp R'=>?_⟩;have hl:μ'.length=h'.length:=by simpa using R'.1.len
 exact L.nx _ _ _ H' A' (μ'++[p]) kk x ⟨R'.1,(R.2.ext x R.1.sub).set i ⟨p,by rw [<- hl];simp,rfl⟩⟩
def dA3 (to:DTE) (t:DTA):DTE:=fun δ h Q=>to δ h fun o h1=>match o with
 | .c j=>(match h1[j]? with
  | some (.l _)=>t δ h1 fun ws h2=>(match ws,h2[j]? with
   | [.d x],some (.l xs)=>xs.length < sizeLine/\Q (.d .none) (h2.set j (.l (xs++[x])))
   | _,_=>False)
  | _=>False)
 | _=>False
theorem bS1 {o e0:Expr} {es:List Expr} {to:DTE} {t:DTA} {apos cpos:Pos} (ho:DE X o to) (ha:DA X (e0::es) t)
  (hbase:attributeBase o "append" X.env (eval o X.env)=eval o X.env:=by rfl)
  (hfew:((backTo cpos (starEach (e0::es) X.env)).all (fun x=>!x.1)&&(backToKw cpos (keywordEach [] X.env)).all (fun x=>x.1.isSome)
   && decide ((e0::es).length+([]:List Keyword).length+(if ([]:List Keyword).isEmpty then 0 else 1) < 30))=true:=by rfl)
  (hline:(apos.endLine==cpos.line)=true:=by rfl) (hs:starEach (e0::es) X.env=(false,eval e0 X.env)::starEach es X.env:=by rfl) (hplain:(backTo cpos (starEach es X.env)).any (·.1)=false:=by rfl) :
  DE X (.Call (.Attribute o "append" apos) (e0::es) [] cpos) (dA3 to t):=aH (aD8 PySem.F.plainAttrs_list PySem.F.slot_list_append PySem.F.type_list_append nG ho ha hbase hfew hline hs hplain) fun σ H Q q=>by
 obtain ⟨δ,h,A,μ,k,R,q,c⟩:=q;refine ⟨δ,h,A,μ,_,R,q,fun o h1 vo H1 A1 μ1 q1 x1 R1 r1=>?_⟩;split at q1
 ·rename_i j;obtain ⟨a,ea,rfl⟩:=r1;split at q1
  rotate_left
  ·exact q1.elim
  rename_i xs1 ex1;obtain ⟨vs1,hv1,_⟩:=R1.val j a xs1 ea ex1;refine ⟨.inl ⟨rfl,_,SqL.of hv1⟩,δ,h1,A1,μ1,_,⟨R1,R.2.ext x1 R.1.sub⟩,q1,fun ws h2 vs H2 A2 μ2 q2 x2 R2 r2=>?_⟩;split at q2
  ·rename_i x xs ex;obtain ⟨v,rfl,rv⟩:=cR r2;have ea2:μ2[j]?=some a:=by
    obtain ⟨ν,e1,_⟩:=x2.pre;rw [e1,List.getElem?_append_left (List.getElem?_eq_some_iff.mp ea).1];exact ea
   obtain ⟨vs,hv,rr⟩:=R2.val j a xs ea2 ex;refine ⟨a,vs,v,rfl,rfl,hv,by rw [rr.length];exact q2.1,?_⟩;have hm:=List.mem_of_getElem? ea2;exact c _ _ _ _ A2 μ2 q2.2 ((x1.trans x2).trans (dL hm hv)) (fD R2 ea2 ((Reps.one rv).append rr)) (by show Rep _ _ _ _ _;rw [Rep])
  ·exact q2.elim
 ·exact q1.elim
end
def cond (c:Option Nat) (xs:List PyData) (h:aA):Prop:=match c with
 | none=>True
 | some i=>h[i]?=some (.l xs)
abbrev DTI:=DSt->aA->(List PyData->Option Nat->aA->Prop)->Prop
def aV6 (K:Frag) (A μ:List Addr) (H:Hp) (J:It) (xs:List PyData) (c:Option Nat):Prop:=∀ A' μ' H' h',Ext A A' μ μ' H H'->HeapRep K A' μ' h' H'->cond c xs h' ->
 (∀ i x,xs[i]?=some x->J.go i H'/\∀ v H2,J.yld i H' v H2->Ext A' A' μ' μ' H' H2/\HeapRep K A' μ' h' H2/\Rep K A' H2 x v)/\∀ i,xs.length<=i->J.stop i H'
def upI (K:Frag) (t:DTI):TI:=fun σ H R=>∃ (δ:DSt) (h:aA) (A μ:List Addr) (k:List PyData->Option Nat->aA->Prop),Ab K A μ δ h σ H/\t δ h k /\
 ∀ xs c h' J H' A' μ',k xs c h'->Ext A A' μ μ' H H'->HeapRep K A' μ' h' H'->xs.length<=sizeLine->cond c xs h'->aV6 K A' μ' H' J xs c->R J H'
def DI (X:Cx) (tg iter:Expr) (t:DTI):Prop:=PI X tg iter (upI X.K t)
theorem gF {X:Cx} {tg e:Expr} {t t':TI} (h:PI X tg e t) (m:∀ σ H R,t' σ H R->t σ H R):PI X tg e t':=fun pins s σ H R I q=>h pins s σ H R I (m σ H R q)
def cJ8 (te:DTE):DTI:=fun δ h Q=>te δ h fun w h1=>match w with
 | .d (.list xs)=>Q xs none h1
 | .d (.tuple xs)=>Q xs none h1
 | .c i=>(match h1[i]? with
  | some (.l xs)=>Q xs (some i) h1
  | _=>False)
 | _=>False
def dA4 (K:Frag) (tl:TE):TI:=fun σ H R=>tl σ H fun x H1=>∃ a,x=.ref a/\((∃ xs,SqL K H1 a xs/\(xs.length<=sizeLine->R (Itl K a) H1))\/∃ xs,SqT K H1 a xs/\(xs.length<=sizeLine->R (Itt K a) H1))
theorem bS2 {X:Cx} {tg l:Expr} {tl:TE} (hl:PE X l tl):PI X tg l (dA4 X.K tl):=by
 intro pins s σ H R I h;refine thn (hl pins s σ H _ I h) fun v s1 ⟨x,H1,I1,r1,q1⟩=>?_;obtain ⟨a,e,q⟩:=q1;subst e;cases r1;rcases q with ⟨xs,hq,q⟩ | ⟨xs,hq,q⟩
 ·obtain ⟨its,rv,p,hz⟩:=I1.list hq;refine wpAny_pyIter_list p.isList ⟨s1.heap.objs.size,[s1.heap.objs.size],_,_,H1,rfl,I1.kept (t':=s1.toks) fun b o e=>Heap.get?_push_of_some _ e,xS a _,⟨_,Heap.get?_push_size _ rfl,rfl,rfl⟩,fun b hb=>?_,q hz⟩;rw [List.mem_singleton.mp hb];exact I1.fpOk (Nat.le_refl _) (I1.hok.fresh (Nat.le_refl _))
 ·obtain ⟨its,rv,p,hz⟩:=I1.tuple hq;refine wpAny_pyIter_tuple (show s1.heap.IsTuple a its.toArray from p) ⟨s1.heap.objs.size,[s1.heap.objs.size],_,_,H1,rfl,I1.kept (t':=s1.toks) fun b o e=>Heap.get?_push_of_some _ e,tT a _,⟨_,Heap.get?_push_size _ rfl,rfl,rfl⟩,fun b hb=>?_,q hz⟩;rw [List.mem_singleton.mp hb];exact I1.fpOk (Nat.le_refl _) (I1.hok.fresh (Nat.le_refl _))
theorem aV7 {X:Cx} {tg e:Expr} {te:DTE} (he:DE X e te):DI X tg e (cJ8 te):=gF (bS2 he) fun σ H R q=>by
 obtain ⟨δ,h,A,μ,k,Rr,q,c⟩:=q;refine ⟨δ,h,A,μ,_,Rr,q,fun w h1 v H1 A1 μ1 q1 x1 R1 r1=>?_⟩;have listCase:∀ {xs:List PyData} {cc:Option Nat} {p:Addr} {vs:List V},cond cc xs h1->SqL X.K H1 p vs->Reps X.K A1 H1 xs vs ->
   (∀ A' μ' H' h',Ext A1 A' μ1 μ' H1 H'->HeapRep X.K A' μ' h' H'->cond cc xs h'->∃ ws,SqL X.K H' p ws/\Reps X.K A' H' xs ws)->k xs cc h1->vs.length<=sizeLine->R (Itl X.K p) H1:=fun {xs cc p vs} hc sq rr st kk hz=>by
  refine c xs cc h1 _ H1 A1 μ1 kk x1 R1 (by rw [<- rr.length];exact hz) hc fun A' μ' H' h' y R' hc'=>?_;obtain ⟨ws,sq',rr'⟩:=st A' μ' H' h' y R' hc';refine ⟨fun i x ex=>?_,fun i hi=>⟨ws,sq',by rw [rr'.length];exact hi⟩⟩;obtain ⟨z,ez,rz⟩:=rr'.get ex;refine ⟨⟨ws,z,sq',ez⟩,fun v H2 hy=>?_⟩;obtain ⟨e2,hy⟩:=hy;subst e2;have:=hy ws sq';rw [ez] at this;cases this;exact ⟨.refl,R',rz⟩
 split at q1
 ·rename_i xs;have z:Rep X.K A1 H1 (.list xs) v:=r1;rw [Rep] at z;obtain ⟨p,vs,rfl,la,rr⟩:=z;refine ⟨p,rfl,.inl ⟨vs,la.sq,fun hz=>listCase (cc:=none) trivial la.sq rr (fun A' μ' H' h' y R' _=>?_) q1 hz⟩⟩;have z:Rep X.K A' H' (.list xs) (.ref p):=Rep.ext y R1.sub (by rw [Rep];exact ⟨p,vs,rfl,la,rr⟩);rw [Rep] at z;obtain ⟨p',ws,e,la',rr'⟩:=z;cases e;exact ⟨ws,la'.sq,rr'⟩
 ·rename_i xs;obtain ⟨p,vs,rfl,ta,rr⟩:=bF (h:=h1) r1 rfl;refine ⟨p,rfl,.inr ⟨vs,ta.sq,fun hz=>?_⟩⟩;refine c xs none h1 _ H1 A1 μ1 q1 x1 R1 (by rw [<- rr.length];exact hz) trivial fun A' μ' H' h' y R' _=>?_;obtain ⟨p',ws,e,ta',rr'⟩:=bF (h:=h1) (r1.ext y R1.sub) rfl;cases e;refine ⟨fun i x ex=>?_,fun i hi=>⟨ws,ta'.sq,by rw [rr'.length];exact hi⟩⟩;obtain ⟨z,ez,rz⟩:=rr'.get ex;refine ⟨⟨ws,z,ta'.sq,ez⟩,fun v H2 hy=>?_⟩;obtain ⟨e2,hy⟩:=hy;subst e2;have:=hy ws ta'.sq;rw [ez] at this;cases this;exact ⟨.refl,R',rz⟩
 ·rename_i i;split at q1
  ·rename_i xs ex;obtain ⟨p,ep,rfl⟩:=r1;obtain ⟨vs,hv,rr⟩:=R1.val i p xs ep ex;refine ⟨p,rfl,.inl ⟨vs,.of hv,fun hz=>listCase (cc:=some i) ex (.of hv) rr (fun A' μ' H' h' y R' hc'=>?_) q1 hz⟩⟩;have ep':μ'[i]?=some p:=by
    obtain ⟨ν,e1,_⟩:=y.pre;rw [e1,List.getElem?_append_left (List.getElem?_eq_some_iff.mp ep).1];exact ep
   obtain ⟨ws,hw,rr'⟩:=R'.val i p xs ep' hc';exact ⟨ws,.of hw,rr'⟩
  ·exact q1.elim
 ·exact q1.elim
noncomputable def rng (lo:Int) (n:Nat):List PyData:=(List.range n).map fun (i:Nat)=>.int (lo+(i:Int))
def aV8 (t:DTA):DTI:=fun δ h Q=>t δ h fun ws h1=>match ws with
 | [.d (.int j)]=>(j<=16000000/\-(2^62)<=j)/\Q (rng 0 j.toNat) none h1
 | _=>False
def aV9 (t:DTA):DTI:=fun δ h Q=>t δ h fun ws h1=>match ws with
 | [.d (.int i),.d (.int j)]=>(j - i<=16000000/\-(2^62)<=i/\i < 2^62/\-(2^62)<=j/\j < 2^62)/\Q (rng i (j - i).toNat) none h1
 | _=>False
theorem rng_len (lo:Int) (n:Nat):(rng lo n).length=n:=by unfold rng;simp
theorem aF5 {K:Frag} {A μ:List Addr} {H:Hp} (lo:Int) (n:Nat):aV6 K A μ H (Itr lo n) (rng lo n) none:=fun A' μ' H' h' y R' _=>by
 refine ⟨fun i x ex=>?_,fun i hi=>by rw [rng_len] at hi;exact hi⟩;have hi:i < n:=by rw [<- rng_len lo n];exact (List.getElem?_eq_some_iff.mp ex).1
 refine ⟨hi,fun v H2 hy=>?_⟩;obtain ⟨e,hv⟩:=hy;subst e hv;unfold rng at ex;rw [List.getElem?_map,List.getElem?_range hi] at ex;cases ex;exact ⟨.refl,R',iB⟩
theorem yL {X:Cx} {tg a:Expr} {t:DTA} {p pos:Pos} (hm:X.mg "range"=none) (ha:DA X [a] t) (hg:Gl X "range":=by rfl) (hs:starEach [a] X.env=[(false,eval a X.env)]:=by rfl):DI X tg (.Call (.Name "range" p) [a] [] pos) (aV8 t) :=
 gF (xT hg hm ha hs) fun σ H R q=>by
  obtain ⟨δ,h,A,μ,k,Rr,q,c⟩:=q;refine ⟨δ,h,A,μ,_,Rr,q,fun ws h1 vs H1 A1 μ1 q1 x1 R1 r1=>?_⟩;split at q1
  ·rename_i j;obtain ⟨v,rfl,rv⟩:=cR r1;have e:=bG rv;subst e;obtain ⟨⟨z1,z2⟩,q1⟩:=q1;refine ⟨j,rfl,z2,by omega,c _ _ h1 _ H1 A1 μ1 q1 x1 R1 ?_ trivial (aF5 0 j.toNat)⟩;rw [rng_len];show j.toNat<=2^24;omega
  ·exact q1.elim
theorem yM {X:Cx} {tg a b:Expr} {t:DTA} {p pos:Pos} (hm:X.mg "range"=none) (ha:DA X [a,b] t) (hg:Gl X "range":=by rfl) (hs:starEach [a,b] X.env=[(false,eval a X.env),(false,eval b X.env)]:=by rfl) (hs2:starEach [b] X.env=[(false,eval b X.env)]:=by rfl) :
  DI X tg (.Call (.Name "range" p) [a,b] [] pos) (aV9 t) :=
 gF (xU hg hm ha hs hs2) fun σ H R q=>by
  obtain ⟨δ,h,A,μ,k,Rr,q,c⟩:=q;refine ⟨δ,h,A,μ,_,Rr,q,fun ws h1 vs H1 A1 μ1 q1 x1 R1 r1=>?_⟩;split at q1
  ·rename_i i j;obtain ⟨v,r,rfl,rv,r2⟩:=r1;obtain ⟨v',rfl,rv'⟩:=cR r2;have e:=bG rv;have e':=bG rv';subst e e';obtain ⟨⟨z1,z2⟩,q1⟩:=q1;refine ⟨i,j,rfl,z2,c _ _ h1 _ H1 A1 μ1 q1 x1 R1 ?_ trivial (aF5 i (j - i).toNat)⟩;rw [rng_len];show (j - i).toNat<=2^24;omega
  ·exact q1.elim
noncomputable def yN (g:DTG) (tb:DTS) (c:Option Nat) (all:List PyData):List PyData->DTS
 | [],E,δ,h=>cond c all h/\E.nx δ h
 | x::r,E,δ,h=>cond c all h/\g (.d x) δ h fun δ2 h2=>tb { nx:=yN g tb c all r E,ct:=yN g tb c all r E,bk:=E.nx,rt:=E.rt } δ2 h2
def dA5 (ti:DTI) (g:DTG) (tb:DTS):DTS:=fun E δ h=>ti δ h fun xs c h1=>yN g tb c xs xs E δ h1
noncomputable def rS (g:DTG) (tt:DTT) (te:DTE) (c:Option Nat) (all:List PyData):List PyData->DSt->aA->List PyData->(List PyData->aA->Prop)->Prop
 | [],_,h,ac,Q=>cond c all h/\Q ac h
 | x::r,δ,h,ac,Q=>cond c all h/\g (.d x) δ h fun δ2 h2=>tt δ2 h2 fun b h3 =>
  if b=true then te δ2 h3 fun w h4=>(match w with
   | .d y=>rS g tt te c all r δ2 h4 (ac++[y]) Q
   | .c _=>False
   | .v _=>False)
  else rS g tt te c all r δ2 h3 ac Q
noncomputable def aW (ixs:List (Option Nat)) (δ:DSt):DSt:=ixs.map fun o=>o.bind fun i=>(δ[i]?).bind id
def aF6 (ixs:List (Option Nat)) (ti:DTI) (g:DTG) (tt:DTT) (te:DTE):DTF:=fun δ h Q=>ti δ h fun xs c h1=>rS g tt te c xs xs (aW ixs δ) h1 [] Q
def DIf (X:Cx) (ifs:List Expr) (t:DTT):Prop:=PIf X ifs (upT X.K t)
def dA6:DTT:=fun _ h Q=>Q true h
section
variable {K:Frag} {A A' μ μ':List Addr} {H H':Hp} {h h':aA}
theorem nM {δ:DSt} {σ:L2.St} {ixs:List (Option Nat)} (r:EnvRep K A μ H δ σ):EnvRep K A μ H (aW ixs δ) (mN ixs σ):=by
 refine ⟨by unfold aW mN;rw [List.length_map,List.length_map],fun j w e=>?_⟩;unfold aW at e;rw [List.getElem?_map] at e;cases q:ixs[j]? with
 | none=>rw [q] at e;cases e
 | some o =>
  rw [q] at e;cases o with
  | none=>cases e
  | some i =>
   have e':(δ[i]?).bind id=some w:=Option.some.inj e;cases q2:δ[i]? with
   | none=>rw [q2] at e';cases e'
   | some z =>
    rw [q2] at e';have e3:z=some w:=e';subst e3;obtain ⟨v,e4,r4⟩:=r.val i w q2;refine ⟨v,?_,r4⟩;unfold mN;rw [List.getElem?_map,q];show some ((σ[i]?).bind id)=_;rw [e4];rfl
theorem dS {p:Addr} {o:HO} (hp:H p=none):Ext A (p::A) μ μ H (upd H p o) :=
 ⟨fun _ z=>List.mem_cons_of_mem _ z,fun a z=>(List.mem_cons.mp z).elim (fun e=>.inr (by rw [e];exact hp)) .inl,⟨[],by simp,fun _ z=>(nomatch z)⟩,
  fun a o' _ q=>by rw [aJ (aN q hp)];exact q,fun a o' q=>⟨o',by rw [aJ (aN q hp)];exact q⟩⟩
theorem jO {p:Addr} {o:HO} (R:HeapRep K A μ h H) (hp:H p=none):HeapRep K (p::A) μ h (upd H p o):=by
 refine ⟨R.len,R.nd,fun a z=>List.mem_cons_of_mem _ (R.sub a z),fun a z=>?_,fun i a xs e1 e2=>?_⟩
 ·rcases List.mem_cons.mp z with e | z
  ·subst e;exact ⟨_,aR⟩
  ·obtain ⟨o',q⟩:=R.trk a z;exact ⟨o',by rw [aJ (aN q hp)];exact q⟩
 ·have k:=R.cel i a xs e1 e2;obtain ⟨o',q⟩:=k.some;exact k.ext (dS (μ:=μ) hp) R.sub (aJ (aN q hp))
theorem iD {p:Addr} {o:HO} (x:Ext A A' μ μ' H H') (h1:H p=some o) (h2:p∈A) (h3:p∉μ):H' p=some o/\p∈A'/\p∉μ':=by
 refine ⟨x.keep p o h3 h1,x.sub p h2,fun z=>?_⟩;obtain ⟨ν,e,n⟩:=x.pre;rw [e] at z;rcases List.mem_append.mp z with z | z
 ·exact h3 z
 ·rw [n p z] at h1;cases h1
theorem RepW.upd {p:Addr} {o:HO} (hp:p∈A) {w:W} {v:V} (r:RepW K A μ H w v):RepW K A μ (L2.upd H p o) w v:=by
 cases w with
 | d x=>exact Rep.upd hp r
 | c i=>exact r
 | v u=>exact r
theorem EnvRep.upd {p:Addr} {o:HO} (hp:p∈A) {δ:DSt} {σ:L2.St} (r:EnvRep K A μ H δ σ):EnvRep K A μ (L2.upd H p o) δ σ:=⟨r.len,fun i w e=>by
 obtain ⟨v,e1,r1⟩:=r.val i w e;exact ⟨v,e1,r1.upd hp⟩⟩
theorem Ext.aside {p:Addr} {o:HO} (x:Ext A A' μ μ' H H') (hp:H p=none):Ext A A' μ μ' H (upd H' p o) :=
 ⟨x.sub,x.new,x.pre,fun a o' ha q=>by rw [aJ (aN q hp)];exact x.keep a o' ha q,fun a o' q=>by rw [aJ (aN q hp)];exact x.trk a o' q⟩
theorem Ext.addc {p:Addr} (x:Ext A A' μ μ' H H') (hp:H p=none):Ext A A' μ (μ'++[p]) H H':=by
 obtain ⟨ν,e,n⟩:=x.pre;exact ⟨x.sub,x.new,⟨ν++[p],by rw [e,List.append_assoc],fun a z=>(List.mem_append.mp z).elim (n a) fun z=>by rw [List.mem_singleton.mp z];exact hp⟩,x.keep,x.trk⟩
theorem yO {p:Addr} {xs:List PyData} {vs:List V} (R:HeapRep K A μ h H) (h1:H p=some (.lst vs)) (h2:p∈A) (h3:p∉μ) (r:Reps K A H xs vs):HeapRep K A (μ++[p]) (h++[(.l xs)]) H/\aE1 h:=by
 refine ⟨?_,R.refs⟩;refine ⟨by rw [List.length_append,List.length_append,R.len];rfl,?_,fun a z=>?_,R.trk,fun i a ys e1 e2=>?_⟩
 ·rw [List.nodup_append];refine ⟨R.nd,(by simp),fun a ha b hb=>?_⟩;rw [List.mem_singleton.mp hb];rintro rfl;exact h3 ha
 ·rcases List.mem_append.mp z with z | z
  ·exact R.sub a z
  ·rw [List.mem_singleton.mp z];exact h2
 ·by_cases hi:i < μ.length
  ·rw [List.getElem?_append_left hi] at e1;rw [List.getElem?_append_left (by rw [<- R.len];exact hi)] at e2;exact (R.cel i a ys e1 e2).anti (fun _ z=>z) fun j _ b eb=>by rw [List.getElem?_append_left (List.getElem?_eq_some_iff.mp eb).1];exact eb
  ·have hle:μ.length<=i:=Nat.le_of_not_lt hi;rw [List.getElem?_append_right hle] at e1;rw [List.getElem?_append_right (by rw [<- R.len];exact hle),<- R.len] at e2;have hz:i - μ.length=0:=by
    have:=(List.getElem?_eq_some_iff.mp e1).1;simp at this;omega
   rw [hz] at e1 e2;simp at e1 e2;subst e1 e2;exact ⟨vs,h1,r⟩
end
section
variable {X:Cx} {tg iter elt:Expr} {ifs:List Expr} {sc S:Scope} {N':List Str} {ixs:List (Option Nat)} {body:List Stmt} {ti:DTI} {g:DTG} {tb:DTS} {tt:DTT} {te:DTE} {pos:Pos}
theorem aW0:DIf X [] dA6:=fun pins s σ H Q I q=>by
 obtain ⟨δ,h,A,μ,k,R,q,c⟩:=q;exact aT4 pins s σ H Q I (c true h H A μ q .refl R.1)
theorem aW1 {c:Expr} (h:DT X c tt):DIf X [c] tt:=aT5 h
theorem bS3 (hxe:X.xe=fun _ _=>False) (hc:X.calm=true) (hi:DI X tg iter ti) (hg:DG X tg g) (hb:DSs X body tb) (hs:∀ x,foldedSetIterable iter X.env x=pure x:=by intro _;rfl):DS X (.For tg iter body [] pos) (dA5 ti g tb) :=
 bN (bM7 (by rw [hxe];exact PassesOwn.never) hc hi hg hb hs) fun D σ H q=>by
  obtain ⟨δ,h,A,μ,E,R,q,L⟩:=q;refine ⟨δ,h,A,μ,_,R,q,fun xs c h1 J H1 A1 μ1 q1 x1 R1 hz hcd it=>?_⟩;refine ⟨fun i m σ' H'=>∃ δ' h' A' μ',m=xs.length - i/\i<=xs.length/\Ext A1 A' μ1 μ' H1 H'/\Ab X.K A' μ' δ' h' σ' H'/\yN g tb c xs (xs.drop i) E δ' h',⟨_,δ,h1,A1,μ1,rfl,Nat.zero_le _,.refl,⟨R1,R.2.ext x1 R.1.sub⟩,by simpa using q1⟩,?_⟩;rintro i m σ' H' ⟨δ',h',A',μ',rfl,hi,y,R',q'⟩
  by_cases hlt:i < xs.length
  ·rw [List.drop_eq_getElem_cons hlt] at q';obtain ⟨hcond,q'⟩:=q';obtain ⟨it1,_⟩:=it A' μ' H' h' y R'.1 hcond;obtain ⟨go,yl⟩:=it1 i xs[i] (by simp [hlt]);refine .inr ⟨go,fun σ2 H2=>∃ δ2 h2 A2 μ2,Ext A1 A2 μ1 μ2 H1 H2/\Ab X.K A2 μ2 δ2 h2 σ2 H2/\yN g tb c xs (xs.drop (i+1)) E δ2 h2,fun σ2 H2 ⟨δ2,h2,A2,μ2,z1,z2,z3⟩=>⟨xs.length - (i+1),by omega,δ2,h2,A2,μ2,rfl,hlt,z1,z2,z3⟩,fun v H2 hy=>?_⟩;obtain ⟨y2,R2,r2⟩:=yl v H2 hy;refine ⟨.d xs[i],δ',h',A',μ',_,⟨R2,R'.2.ext y2 R'.1.sub⟩,r2,q',fun δ3 h3 σ3 H3 A3 μ3 q3 x3 R3=>?_⟩;have y3:=(y.trans y2).trans x3;refine ⟨δ3,h3,A3,μ3,_,R3,q3,⟨fun δ4 h4 σ4 H4 A4 μ4 q4 x4 R4=>⟨δ4,h4,A4,μ4,y3.trans x4,R4,q4⟩,fun δ4 h4 σ4 H4 A4 μ4 q4 x4 R4=>L.nx δ4 h4 σ4 H4 A4 μ4 q4 (x1.trans (y3.trans x4)) R4,
    fun δ4 h4 σ4 H4 A4 μ4 q4 x4 R4=>⟨δ4,h4,A4,μ4,y3.trans x4,R4,q4⟩,fun w h4 v H4 A4 μ4 q4 x4 R4 r4=>L.rt w h4 v H4 A4 μ4 q4 (x1.trans (y3.trans x4)) R4 r4⟩⟩
  ·have e:i=xs.length:=by omega
   subst e;rw [List.drop_length] at q';obtain ⟨hcond,q'⟩:=q';obtain ⟨_,it2⟩:=it A' μ' H' h' y R'.1 hcond;exact .inl ⟨it2 _ (Nat.le_refl _),L.nx δ' h' σ' H' A' μ' q' (x1.trans y) R'⟩
theorem wH {σ:L2.St} {H:Hp} {Q:VK} (q:upF X.K (aF6 ixs ti g tt te) σ H Q):wF ixs (upI X.K ti) (upG X.K g) (upT X.K tt) (up X.K te) σ H Q:=by
 obtain ⟨δ,h,A,μ,k,R,q,c⟩:=q;refine ⟨δ,h,A,μ,_,R,q,fun xs cc h1 J H2 A1 μ1 q1 x1 R1 hz hcd it=>?_⟩;intro acc hacc;have nA:=R1.notA hacc;have E1:=nM (ixs:=ixs) (R.2.ext x1 R.1.sub);refine ⟨fun i m ys σ' H'=>∃ δ' h' A' μ' ac,m=xs.length - i/\i<=xs.length/\H' acc=some (.lst ys)/\acc∈A'/\acc∉μ'/\Ext A1 A' μ1 μ' H2 H'/\Ab X.K A' μ' δ' h' σ' H'/\Reps X.K A' H' ac ys/\ys.length<=i/\rS g tt te cc xs (xs.drop i) δ' h' ac k,
  ⟨_,aW ixs δ,h1,acc::A1,μ1,[],rfl,Nat.zero_le _,aR,List.mem_cons_self,fun z=>nA (R1.sub _ z),dS hacc,⟨jO R1 hacc,E1.ext (dS hacc) R1.sub⟩,.nil,Nat.le_refl _,by simpa using q1⟩,?_⟩
 rintro i m ys σ' H' ⟨δ',h',A',μ',ac,rfl,hi,a1,a2,a3,y,R',rr,hyl,q'⟩
 by_cases hlt:i < xs.length
 ·rw [List.drop_eq_getElem_cons hlt] at q';obtain ⟨hcond,q'⟩:=q';obtain ⟨it1,_⟩:=it A' μ' H' h' y R'.1 hcond;obtain ⟨go,yl⟩:=it1 i xs[i] (by simp [hlt]);refine .inr ⟨go,fun v H3 hy=>?_⟩;obtain ⟨y2,R2,r2⟩:=yl v H3 hy;refine ⟨.d xs[i],δ',h',A',μ',_,⟨R2,R'.2.ext y2 R'.1.sub⟩,r2,q',fun δ4 h4 σ4 H4 A4 μ4 q4 x4 R4=>?_⟩;refine ⟨δ4,h4,A4,μ4,_,R4,q4,fun b h5 H5 A5 μ5 q5 x5 R5=>?_⟩;have z5:=(y2.trans x4).trans x5;obtain ⟨b1,b2,b3⟩:=iD z5 a1 a2 a3;dsimp only at q5 ⊢;cases b with
  | false =>
   rw [if_neg Bool.false_ne_true] at q5;rw [if_neg Bool.false_ne_true];exact ⟨xs.length - (i+1),by omega,δ4,h5,A5,μ5,ac,rfl,hlt,b1,b2,b3,y.trans z5,⟨R5,R4.2.ext x5 R4.1.sub⟩,rr.ext z5 R'.1.sub,by omega,q5⟩
  | true =>
   rw [if_pos rfl] at q5;rw [if_pos rfl];refine ⟨δ4,h5,A5,μ5,_,⟨R5,R4.2.ext x5 R4.1.sub⟩,q5,fun w h6 v6 H6 A6 μ6 q6 x6 R6 r6=>?_⟩;have z6:=z5.trans x6;obtain ⟨c1,c2,c3⟩:=iD z6 a1 a2 a3;cases w with
   | c j=>exact q6.elim
   | v u=>exact q6.elim
   | d d6 =>
    have hl6:ys.length < sizeLine:=by omega
    refine ⟨c1,hl6,xs.length - (i+1),by omega,δ4,h6,A6,μ6,ac++[d6],rfl,hlt,aR,c2,c3,(y.trans z6).aside hacc,⟨kU R6 c2 c3,((R4.2.ext x5 R4.1.sub).ext x6 R5.sub).upd c2⟩,?_,?_,q6⟩
    ·exact ((Reps.one r6).append (rr.ext z6 R'.1.sub)).upd c2
    ·rw [List.length_append,List.length_singleton];omega
 ·have e:i=xs.length:=by omega
  subst e;rw [List.drop_length] at q';obtain ⟨hcond,q'⟩:=q';obtain ⟨_,it2⟩:=it A' μ' H' h' y R'.1 hcond;have x2:=x1.trans y;obtain ⟨ν,e1,_⟩:=x2.pre;exact .inl ⟨it2 _ (Nat.le_refl _),a1,c _ h' acc H' A' μ' q' (x2.addc (x1.back hacc)) ⟨ν,e1⟩ (x1.back hacc) (yO R'.1 a1 a2 a3 rr)⟩
theorem aW2 {N:List Str} (hxe:X.xe=fun _ _=>False) (hc:X.calm=true) (hS:X.env.scope=S) (hXN:X.N=N) (SC:CompSc N N' ixs S sc) (hi:DI X tg iter ti)
  (hg:∀ cl C s H fp,DG (blk X N' sc cl C s H fp) tg g) (ht:∀ cl C s H fp,DIf (blk X N' sc cl C s H fp) ifs tt) (he:∀ cl C s H fp,DE (blk X N' sc cl C s H fp) elt te)
  (hs:∀ x,foldedSetIterable iter X.env x=pure x:=by intro _;rfl):DF X (.ListComp elt [⟨tg,iter,ifs,0⟩] sc pos) (aF6 ixs ti g tt te) :=
 aH (wG (N':=N') (ixs:=ixs) (g:=upG X.K g) (tt:=upT X.K tt) (te:=up X.K te) hxe hc hS (by rw [hXN];exact SC) hi hg ht he hs) fun _ _ _ q=>wH q
theorem aF7 {y:Str} {i:Nat} {py spos:Pos} {N:List Str} (hN:X.N.Nodup) (hxe:X.xe=fun _ _=>False) (hc:X.calm=true) (hS:X.env.scope=S) (hXN:X.N=N) (SC:CompSc N N' ixs S sc) (hi:DI X tg iter ti)
  (hg:∀ cl C s H fp,DG (blk X N' sc cl C s H fp) tg g) (ht:∀ cl C s H fp,DIf (blk X N' sc cl C s H fp) ifs tt) (he:∀ cl C s H fp,DE (blk X N' sc cl C s H fp) elt te)
  (hiN:X.N[i]?=some y:=by rfl) (hy:X.env.scope.names.lookup y=some .local:=by rfl) (hsw:swapsWith (.ListComp elt [⟨tg,iter,ifs,0⟩] sc pos) (some (.Name y py)) spos.line X.env=pure true:=by rfl)
  (hs:∀ x,foldedSetIterable iter X.env x=pure x:=by intro _;rfl):DFS X i (.Assign [.Name y py] (.ListComp elt [⟨tg,iter,ifs,0⟩] sc pos) spos) (aF6 ixs ti g tt te) :=
 bN (uH (N':=N') (ixs:=ixs) (g:=upG X.K g) (tt:=upT X.K tt) (te:=up X.K te) hxe hc hS (by rw [hXN];exact SC) hi hg ht he hN hiN hy hsw hs) fun _ _ _ q=>wH q
end
noncomputable def fF (N:List Str) (ws:List W):DSt:=ws.map some++List.replicate (N.length - ws.length) none
noncomputable def bF6 (h0:aA) (k:PyData->aA->Prop):DEnds where
 nx:=fun _ h=>okP h0 h/\k .none (h.take h0.length)
 rt:=fun w h=>okP h0 h/\(match w with
  | .d x=>k x (h.take h0.length)
  | .c i=>(match h[i]? with
   | some (.l xs)=>h0.length<=i/\k (.list xs) (h.take h0.length)
   | some (.k kvs)=>h0.length<=i/\k (.dict kvs) (h.take h0.length)
   | _=>False)
  | .v _=>False)
theorem gG {K:Frag} {A μ:List Addr} {H:Hp}:∀ {ws:List W} {vs:List V},RepWs K A μ H ws vs->vs.length=ws.length
 | [],_,h=>by have e:_=[]:=h;subst e;rfl
 | w::ws,_,h=>by
  obtain ⟨v,r,rfl,_,h⟩:=h;rw [List.length_cons,List.length_cons,gG h]
theorem nN {K:Frag} {A μ:List Addr} {H:Hp}:∀ {ws:List W} {vs:List V} {i:Nat} {w:W},RepWs K A μ H ws vs->ws[i]?=some w->∃ v,vs[i]?=some v/\RepW K A μ H w v
 | [],_,_,_,_,e=>by simp at e
 | y::ws,_,0,w,h,e=>by
  obtain ⟨v,r,rfl,hv,_⟩:=h;simp at e;subst e;exact ⟨v,rfl,hv⟩
 | y::ws,_,i+1,w,h,e=>by
  obtain ⟨v,r,rfl,_,h⟩:=h;obtain ⟨u,e1,e2⟩:=nN (i:=i) h (by simpa using e);exact ⟨u,by simpa using e1,e2⟩
theorem nO {K:Frag} {A μ:List Addr} {H:Hp} {N:List Str} {ws:List W} {vs:List V} (r:RepWs K A μ H ws vs):EnvRep K A μ H (fF N ws) (L2.start N vs):=by
 have hl:=gG r;refine ⟨by unfold fF L2.start;simp [hl],fun i w e=>?_⟩;unfold fF at e
 by_cases hi:i < ws.length
 ·rw [List.getElem?_append_left (by simpa using hi),List.getElem?_map] at e;cases q:ws[i]? with
  | none=>rw [q] at e;cases e
  | some w' =>
   rw [q] at e;cases e;obtain ⟨v,e1,r1⟩:=nN r q;refine ⟨v,?_,r1⟩;unfold L2.start;rw [List.getElem?_append_left (by simp;omega),List.getElem?_map,e1];rfl
 ·rw [List.getElem?_append_right (by simpa using hi),List.getElem?_replicate] at e;split at e<;>cases e
theorem nP {K:Frag} {A A1 μ μ1:List Addr} {h h1:aA} {H H1:Hp} (R:HeapRep K A μ h H) (R1:HeapRep K A1 μ1 h1 H1) (x:Ext A A1 μ μ1 H H1) (ok:okP h h1):Ext A A μ μ H H1/\HeapRep K A μ (h1.take h.length) H1:=by
 obtain ⟨ν,e,n⟩:=x.pre;have hle:μ.length<=h1.length:=by
  rw [<- R1.len,e,List.length_append];omega
 refine ⟨⟨fun _ z=>z,fun _ z=>.inl z,⟨[],by simp,fun _ z=>(nomatch z)⟩,x.keep,x.trk⟩,⟨by rw [List.length_take,<- R.len];omega,R.nd,R.sub,fun a z=>?_,fun i a xs e1 e2=>?_⟩⟩
 ·obtain ⟨o,q⟩:=R.trk a z;exact x.trk a o q
 ·have hi:i < μ.length:=(List.getElem?_eq_some_iff.mp e1).1;have e3:h1[i]?=some xs:=by rw [<- R.len] at e2;rw [List.getElem?_take_of_lt hi] at e2;exact e2
  refine (R1.cel i a xs (by rw [e,List.getElem?_append_left hi];exact e1) e3).anti x.sub fun j hj b eb=>?_;have hlt:j < μ.length:=by
   rcases ok i xs (by rw [<- R.len];exact hi) e3 with z | z
   ·rw [R.len];exact z j hj
   ·exact (R.cel i a xs e1 z).lt j hj
  rw [e,List.getElem?_append_left hlt] at eb;exact eb
section
variable {P:Program} {w:World} {K:Frag} {mg:Str->Option Value} {base:Heap}
theorem cJ9 {x qual:Str} {st:Stmt} {f:Addr} {fd:FuncData} {N ps:List Str} {k:Nat} {sp:Sp} (F:Fun K x qual st f fd) (S:FnScope N ps (aE st)) (len:∀ vs H Q E,sp vs H Q E->vs.length=ps.length)
  (hbody:∀ (cdv:Value) (A:Around) (outer:List Env) (s:Shared) (H:Hp) (vs:List V) (Q:VK) (E:XK),fd.code=cdv->Room k (A.deeper (envOfC qual (aE st) s.heap.objs.size f cdv))->sp vs H Q E ->
   ∃ t,PSs (mL CX0 P w K mg base N qual (aE st) f cdv A outer s H E).nox (aX st) t/\t { nx:=fun _ H'=>Q .non H',rt:=Q } (start N vs) H):FnOk P w K mg base CX0 (k+1) f fd ps sp:=by
 obtain ⟨oc,od,kV,doc,pm,an,cdv,ct,osl,rfl,lk,hcd⟩:=F.ex;refine bE8 lk hcd S len fun A outer s H vs Q E hr hsp=>?_;obtain ⟨t,h,q⟩:=hbody cdv A outer s H vs Q E rfl hr hsp;exact ⟨t,h.nox,q⟩
theorem dfn {x qual:Str} {st:Stmt} {f:Addr} {fd:FuncData} {N ps:List Str} {k:Nat} {d:DSp} (F:Fun K x qual st f fd) (S:FnScope N ps (aE st)) (len:∀ ws h k,d ws h k->ws.length=ps.length)
  (hbody:∀ (cdv:Value) (A:Around) (outer:List Env) (s:Shared) (H:Hp) (E:XK),fd.code=cdv->Room k (A.deeper (envOfC qual (aE st) s.heap.objs.size f cdv)) ->
   ∃ t,DSs (mL CX0 P w K mg base N qual (aE st) f cdv A outer s H E).nox (aX st) t/\∀ ws h kk,d ws h kk->t (bF6 h kk) (fF N ws) h):FnOk P w K mg base CX0 (k+1) f fd ps (lB K d):=by
 refine cJ9 F S (fun vs H Q E ⟨ws,h,A,μ,kk,R,r,q,c⟩=>by rw [gG r];exact len _ _ _ q) fun cdv A outer s H vs Q E hcd hr hsp=>?_;obtain ⟨ws,h,B,μ,kk,R,r,q,c⟩:=hsp;obtain ⟨t,ht,hq⟩:=hbody cdv A outer s H E hcd hr;refine ⟨_,ht,fF N ws,h,B,μ,bF6 h kk,⟨R,nO r⟩,hq ws h kk q,⟨fun δ' h' σ' H' A' μ' q' x' R'=>?_,fun δ' h' σ' H' A' μ' q' x' R'=>q'.elim,fun δ' h' σ' H' A' μ' q' x' R'=>q'.elim,fun z h' v H' A' μ' q' x' R' r'=>?_⟩⟩
 ·obtain ⟨y,R2⟩:=nP R R'.1 x' q'.1;exact c _ _ _ _ B q'.2 y R2 (by rw [Rep])
 ·obtain ⟨ok,q'⟩:=q';obtain ⟨y,R2⟩:=nP R R' x' ok;cases z with
  | d z=>exact c _ _ _ _ B q' y R2 (Rep.anti x'.sub r')
  | v u=>exact q'.elim
  | c i =>
   obtain ⟨a,ea,rfl⟩:=r';have q2:(match h'[i]? with | some (.l xs)=>h.length<=i/\kk (.list xs) (h'.take h.length) | some (.k kvs)=>h.length<=i/\kk (.dict kvs) (h'.take h.length) | _=>False):=q';cases e:h'[i]? with
   | none=>rw [e] at q2;exact q2.elim
   | some cc =>
    cases cc with
    | t _ _ _=>rw [e] at q2;exact q2.elim
    | o _ _=>rw [e] at q2;exact q2.elim
    | r _=>rw [e] at q2;exact q2.elim
    | l xs =>
     rw [e] at q2;obtain ⟨hi,q3⟩:=q2;obtain ⟨vs,hv,rr⟩:=R'.val i a xs ea e;refine c _ _ _ _ B q3 y R2 ?_;rw [Rep];refine ⟨a,vs,rfl,.inl ⟨fun z=>?_,.inl hv⟩,rr.anti x'.sub⟩;obtain ⟨ν,e1,n⟩:=x'.pre;rw [e1,List.getElem?_append_right (by rw [R.len];exact hi)] at ea;have:=n a (List.mem_of_getElem? ea);obtain ⟨o,q⟩:=R.trk a z;rw [this] at q;cases q
    | k kvs =>
     rw [e] at q2;obtain ⟨hi,q3⟩:=q2;obtain ⟨vs,hv,rr⟩:=R'.vad i a kvs ea e;refine c _ _ _ _ B q3 y R2 ?_;rw [Rep];refine ⟨a,vs,rfl,⟨fun z=>?_,.inl hv⟩,rr.anti x'.sub⟩;obtain ⟨ν,e1,n⟩:=x'.pre;rw [e1,List.getElem?_append_right (by rw [R.len];exact hi)] at ea;have:=n a (List.mem_of_getElem? ea);obtain ⟨o,q⟩:=R.trk a z;rw [this] at q;cases q
theorem bS4 {x qual:Str} {st:Stmt} {f:Addr} {fd:FuncData} {ps:List Str} {k:Nat} {d:DSp} (h:FnOk P w K mg base CX0 k f fd ps (lB K d)) (hm:mg x=some (.ref f)) (F:Fun K x qual st f fd) (b:Binds K fd ps []):DFn P w K mg base k x d:=⟨f,fd,ps,h,hm,F.kp,b⟩
end
section
variable {X:Cx} {a b e:Expr} {es:List Expr} {ta tb te:DTE} {t:DTA} {pos p p2:Pos} {x:Str}
theorem wI:OpR X (binaryOp .Add) (fun x y H Q=>∃ a b xs ys,x=.ref a/\y=.ref b/\SqL X.K H a xs/\SqL X.K H b ys/\xs.length+ys.length<=sizeLine/\∀ p,H p=none->Q (.ref p) (upd H p (.lst (xs++ys)))):=by
 intro pins s σ H x y v u Q I rx ry h;obtain ⟨a,b,xs,ys,rfl,rfl,ha,hb,hz,q⟩:=h;cases rx;cases ry;obtain ⟨its,r1,p1,_⟩:=I.list ha;obtain ⟨its2,r2,p2,_⟩:=I.list hb;obtain ⟨⟨cls,dd,data,sl⟩,n,ho,hc,_,hd⟩:=id p1;obtain ⟨⟨cls2,dd2,data2,sl2⟩,n2,ho2,hc2,_,hd2⟩:=id p2;simp only at hc hd hc2 hd2;subst hc hd hc2 hd2;have l1:=r1.length;have l2:=r2.length;have ea:its.toArray++its2.toArray=(its++its2).toArray:=by simp
 refine concat_meets ⟨_,ho,rfl⟩ ⟨_,ho2,rfl⟩ noFill_list_add seq_list_add PySem.F.slot_list_add PySem.F.entry_list_add (PySem.F.args_list_add_2 _ _) (list_addW a b its.toArray its2.toArray n n2 dd dd2 sl sl2 (by rw [List.size_toArray,List.size_toArray];omega)) ⟨ho,ho2,?_⟩;rw [ea];exact ⟨.ref _,_,I.lnew (t':=s.toks) (r1.append r2) (by rw [List.length_append];exact hz),rfl,q _ I.fresh⟩
noncomputable def eE:List PyData->Option (List Bool)
 | []=>some []
 | .bool b::r=>(eE r).map (b::·)
 | _::_=>none
theorem lC {K:Frag} {A:List Addr} {H:Hp}:∀ {xs:List PyData} {bs:List Bool} {vs:List V},eE xs=some bs->Reps K A H xs vs->vs=bs.map V.bl
 | [],_,_,e,h=>by rw [Reps] at h;cases e;exact h
 | x::r,bs,vs,e,h=>by
  rw [Reps] at h;obtain ⟨v,rr,rfl,hv,h⟩:=h;cases x with
  | bool b =>
   unfold eE at e;cases q:eE r with
   | none=>rw [q] at e;cases e
   | some cs =>
    rw [q] at e;have e':b::cs=bs:=Option.some.inj e;subst e';rw [Rep] at hv;rw [hv,lC q h];rfl
  | _=>cases e
theorem yP {f:Nat->Bool} (bs:List Bool) (h:∀ i b,bs[i]?=some b->f i=b):(List.range bs.length).all f=bs.all id:=by
 rw [Bool.eq_iff_iff,List.all_eq_true,List.all_eq_true];constructor
 ·intro z b hb;obtain ⟨i,hi,e⟩:=List.mem_iff_getElem.mp hb;have:=z i (by simpa using hi);rw [h i b (by simp [hi,e])] at this;exact this
 ·intro z i hi;have hi':i < bs.length:=by simpa using hi
  rw [h i bs[i] (by simp [hi'])];exact z _ (List.getElem_mem hi')
theorem yQ (hc:X.calm=true):cN X (.builtin "all") (fun xs H Q=>∃ (p:Addr) (bs:List Bool),xs=[.ref p]/\SqL X.K H p (bs.map V.bl)/\Q (.bl (bs.all id)) H):=by
 intro pins s σ H xs us Q I r h;obtain ⟨p,bs,rfl,sq,q⟩:=h;obtain ⟨u,rfl,ru⟩:=jK r;cases ru;obtain ⟨its,rv,pl,hz⟩:=I.list sq;have hl:=rv.length;rw [List.length_map] at hl;have hlt:p < s.heap.objs.size:=by obtain ⟨o,n,e,_⟩:=pl;exact Heap.lt_size e
 refine call_all_walk (wpAny_pyIter_list pl.isList ?_);refine ⟨s.heap.objs.size,_,_,its.toArray.size,_,_,fun i=>(bs[i]?).getD true,rfl,Walks.list (A:=X.A.in1) (I.ok.hd hc) s.heap.objs.size p (Nat.ne_of_lt hlt) its.toArray,⟨⟨_,Heap.get?_push_size _ rfl,rfl,rfl⟩,?_⟩,fun i v s' Q' E' hP hQ=>?_,fun h' tk hk=>?_⟩
 ·obtain ⟨o,ho,r⟩:=pl.isList;exact ⟨o,Heap.get?_push_of_some _ ho,r⟩
 ·have hi:i < its.length:=by
   have:=(Array.getElem?_eq_some_iff.mp hP).1
   simpa using this
  have eb:bs[i]?=some (bs[i]'(by omega)):=by simp
  obtain ⟨u',e1,e2⟩:=rv.get (i:=i) (x:=V.bl (bs[i]'(by omega))) (by rw [List.getElem?_map,eb];rfl);have e3:v=u':=by
   have hP':its[i]?=some v:=by simpa using hP
   rw [hP'] at e1;exact Option.some.inj e1
  subst e3;cases e2;dsimp only at hQ;rw [eb] at hQ;exact wpAny_truthy_bool hQ
 ·have e:(List.range its.toArray.size).all (fun i=>(bs[i]?).getD true)=bs.all id:=by
   have:=yP (f:=fun i=>(bs[i]?).getD true) bs (fun i b e=>by simp [e]);rw [List.size_toArray,<- hl];exact this
  refine ⟨.bl (bs.all id),H,I.kept fun b o eo=>hk b o ?_ (Heap.get?_push_of_some _ eo),by rw [e];rfl,q⟩;intro z;rw [List.mem_singleton.mp z] at eo;exact absurd (Heap.lt_size eo) (Nat.lt_irrefl _)
noncomputable def bS5:DC
 | [w],h,Q=>match ref h w with
  | some (.list xs)=>(match eE xs with
   | some bs=>Q (.d (.bool (bs.all id))) h
   | none=>False)
  | _=>False
 | _,_,_=>False
theorem yR (hc:X.calm=true):cN X (.builtin "all") (upC X.K bS5):=by
 intro pins s σ H xs us Q I r h;obtain ⟨ws,h,A,μ,k,R,rw',q,c⟩:=h;unfold bS5 at q;split at q
 ·rename_i w h0 k0;obtain ⟨v,rfl,rv⟩:=cR rw';split at q
  ·rename_i ys ey;split at q
   ·rename_i bs eb;obtain ⟨p,vs,rfl,sq,rr⟩:=bX R rv ey;have ev:=lC eb rr;subst ev;exact yQ hc pins s σ H _ us Q I r ⟨p,bs,rfl,sq,c _ _ _ _ _ _ q .refl R bA⟩
   ·exact q.elim
  ·exact q.elim
 ·exact q.elim
noncomputable def iE:PyData->String
 | .none=>"NoneType"
 | .bool _=>"bool"
 | .int _=>"int"
 | .str _=>"str"
 | .list _=>"list"
 | .tuple _=>"tuple"
 | .dict _=>"dict"
noncomputable def isi (d:PyData) (T:String):Bool:=iE d==T||(iE d=="bool"&&T=="int")
def jP (T:String):Prop:=∀ (K:Frag) (d:PyData),PySem.W.kitOne K (.type (iE d)) (.type T)=some (isi d T)
theorem aW3:jP "int":=fun K d=>by cases d<;>kernel_rfl
theorem aF8:jP "bool":=fun K d=>by cases d<;>kernel_rfl
theorem aW4:jP "str":=fun K d=>by cases d<;>kernel_rfl
theorem yS:jP "tuple":=fun K d=>by cases d<;>kernel_rfl
theorem aF9:jP "list":=fun K d=>by cases d<;>kernel_rfl
def dA7 (T:String) (te:DTE):DTE:=fun δ h Q=>te δ h fun w h1=>match ref h1 w with
 | some d=>Q (.d (.bool (isi d T))) h1
 | none=>False
theorem aG0 {pins:List (Addr×Obj)} {σ:L2.St} {H:Hp} {s:Shared} {A μ:List Addr} {h:aA} {w:W} {d:PyData} {v:V} {u:Value} {T:String} {Q:Value->Shared->Prop} {Ar:Around} {E:Value->Shared->Prop}
  (I:Inv X pins σ H s) (R:HeapRep X.K A μ h H) (r:RepW X.K A μ H w v) (e:ref h w=some d) (rv:RelV v u) (hk:jP T) (q:∀ tk,Q (.bool (isi d T)) { s with toks:=tk }) :
  wpAny (model X.prog X.w) Ar (call (.builtin "isinstance") [u,.type T]) Q E s:=by
 have ek:=hk X.K d;cases d with
 | none =>
  have z:=bH R r e;rw [See] at z;subst z;cases rv;exact PySem.W.kia_one PySem.W.kitx_none I.kIn True.intro ek (fun z=>nomatch z) q
 | bool b =>
  have z:=bH R r e;rw [See] at z;subst z;cases rv;exact PySem.W.kia_one PySem.W.kitx_bool I.kIn True.intro ek (fun z=>nomatch z) q
 | int b =>
  have z:=bH R r e;rw [See] at z;subst z;obtain ⟨t,rfl⟩:=rv;exact PySem.W.kia_one PySem.W.kitx_int I.kIn True.intro ek (fun z=>nomatch z) q
 | str b =>
  have z:=bH R r e;rw [See] at z;subst z;obtain ⟨t,rfl⟩:=rv;exact PySem.W.kia_one PySem.W.kitx_str I.kIn True.intro ek (fun z=>nomatch z) q
 | list xs =>
  obtain ⟨p,vs,rfl,sq,_⟩:=bX R r e;cases rv;obtain ⟨its,_,⟨o,n,ho,hc,_⟩,_⟩:=I.list sq;exact PySem.W.kia_one PySem.W.kitx_list I.kIn ⟨o,ho,hc⟩ ek (fun z=>nomatch z) q
 | tuple xs =>
  obtain ⟨p,vs,rfl,sq,_⟩:=bF r e;cases rv;obtain ⟨its,_,⟨o,ho,hc,_⟩,_⟩:=I.tuple sq.sq;exact PySem.W.kia_one PySem.W.kitx_tuple I.kIn ⟨o,ho,hc⟩ ek (fun z=>nomatch z) q
 | dict kvs =>
  cases w with
  | v u=>cases e
  | c i =>
   obtain ⟨p,ep,rfl⟩:=r;dsimp only [DL.ref] at e;cases q0:h[i]? with
   | none=>rw [q0] at e;cases e
   | some cc =>
    cases cc with
    | t _ _ _=>rw [q0] at e;cases e
    | o _ _=>rw [q0] at e;cases e
    | r _=>rw [q0] at e;cases e
    | l ys=>rw [q0] at e;cases e
    | k ys =>
     obtain ⟨rr,hp,_⟩:=R.vad i p ys ep q0;cases rv;obtain ⟨_,_,vs,_,o,es,ep',h1,h2,_⟩:=kS I.hok (.inl hp);exact PySem.W.kia_one PySem.W.kitx_dict I.kIn ⟨o,h1,h2.1⟩ ek (fun z=>nomatch z) q
  | d y =>
   cases e;have z:Rep X.K A H (.dict kvs) v:=r;rw [Rep] at z;obtain ⟨p,kv',rfl,⟨_,hp⟩,_⟩:=z;cases rv;obtain ⟨_,_,vs,_,o,es,ep,h1,h2,_⟩:=kS I.hok hp;exact PySem.W.kia_one PySem.W.kitx_dict I.kIn ⟨o,h1,h2.1⟩ ek (fun z=>nomatch z) q
theorem bS6 {T:Str} {Ts:String} (hk:jP Ts) (hm:X.mg "isinstance"=none) (hT:X.mg T=none) (he:DE X e te) (hv:bootBuiltins T=some (.type Ts):=by rfl) (hg:Gl X "isinstance":=by rfl) (hgT:Gl X T:=by rfl) (hTn:T≠"__name__":=by decide) (hTd:(T==("__debug__":Str))=false:=by decide)
  (hs:starEach (e::[.Name T p2]) X.env=(false,eval e X.env)::starEach [.Name T p2] X.env:=by rfl) (hs2:starEach ([.Name T p2]:List Expr) X.env=(false,eval (.Name T p2) X.env)::starEach [] X.env:=by rfl)
  (hpl:(backTo pos (starEach ([.Name T p2]:List Expr) X.env)).any (·.1)=false:=by rfl):DE X (.Call (.Name "isinstance" p) [e,.Name T p2] [] pos) (dA7 Ts te):=by
 have hT':PE X (.Name T p2) (tC (.ty Ts)):=aQ7 hgT hT hv rfl hTn hTd;have ha:PA X [e,.Name T p2] (aD1 (up X.K te) (aD1 (tC (.ty Ts)) cH7)):=kG he (kG hT' uC hs2) hs;have hc:cN X (.builtin "isinstance") (fun xs H Q=>∃ x h A μ w d,xs=[x,.ty Ts]/\HeapRep X.K A μ h H/\RepW X.K A μ H w x/\ref h w=some d/\Q (.bl (isi d Ts)) H):=by
  intro pins s σ H xs us Q I r h;obtain ⟨x,h,A,μ,w,d,rfl,R,rx,e,q⟩:=h;cases r with
  | cons r1 r2 =>
   cases r2 with
   | cons r3 r4 =>
    cases r4;cases r3;exact aG0 I R rx e r1 hk fun tk=>⟨.bl _,H,I.tok tk,rfl,q⟩
 refine aH (rC hc hg hm (by rfl) ha (by decide) (by decide) hs hpl) fun σ H Q q=>?_;obtain ⟨δ,h,A,μ,k,R,q,c⟩:=q;refine ⟨δ,h,A,μ,_,R,q,fun w h1 v H1 A1 μ1 q1 x1 R1 r1=>?_⟩;split at q1
 ·rename_i d ed;exact ⟨v,h1,A1,μ1,w,d,rfl,R1,r1,ed,c _ h1 _ H1 A1 μ1 q1 x1 R1 bA⟩
 ·exact q1.elim
end
end DL
namespace SJ
open PySem
inductive One where
 | read (k:Nat) | write (k:Nat) (v:Int) | add (k:Nat) (n:Int) | swap (k:Nat) (o n:Int)
inductive Call where
 | one (c:One) | span (lo hi:Nat) | deal (cs:List One)
inductive Stp where
 | call (c:Call) | look (c:Call) | lay (ps:List (Nat×Int))
noncomputable def One.dat:One->PyData
 | .read k=>.tuple [.str "read",.int k]
 | .write k v=>.tuple [.str "write",.int k,.int v]
 | .add k n=>.tuple [.str "add",.int k,.int n]
 | .swap k o n=>.tuple [.str "swap",.int k,.int o,.int n]
noncomputable def One.key:One->Nat
 | .read k=>k | .write k _=>k | .add k _=>k | .swap k _ _=>k
noncomputable def Call.dat:Call->PyData
 | .one c=>c.dat
 | .span lo hi=>.tuple [.str "span",.int lo,.int hi]
 | .deal cs=>.tuple [.str "deal",.tuple (cs.map One.dat)]
noncomputable def Stp.dat:Stp->PyData
 | .call c=>c.dat
 | .look c=>.tuple [.str "look",c.dat]
 | .lay ps=>.tuple [.str "lay",.tuple (ps.map fun p=>.tuple [.int p.1,.int p.2])]
def One.ok (c:One):Prop:=c.key < 8
noncomputable def Call.ok:Call->Prop
 | .one c=>c.ok
 | .span lo hi=>lo < hi/\hi<=8
 | .deal cs=>cs.length<=4/\1<=cs.length/\∀ c∈cs,c.ok
noncomputable def Stp.ok:Stp->Prop
 | .call c=>c.ok
 | .look c=>c.ok
 | .lay ps=>ps.length<=8/\∀ p∈ps,p.1 < 8
noncomputable def dA8 (st:List Int):List PyData:=st.map .int
noncomputable abbrev stD (st:List Int):PyData:=.tuple (dA8 st)
noncomputable def got (v:Int):PyData:=.tuple [.str "got",.int v]
noncomputable def dn:PyData:=.tuple [.str "done"]
noncomputable def yes:PyData:=.tuple [.str "yes"]
noncomputable def no:PyData:=.tuple [.str "no"]
end SJ
namespace DL
open PySem PySem.Spec PyProof.Rows L2
@[simp] theorem dA9 (i:Int):SeqAt.shaped (.int i)=true:=by simp [SeqAt.shaped,PyData.canLay0,PyData.depth]
@[simp] theorem cU5 (i:Bool):SeqAt.shaped (.bool i)=true:=by simp [SeqAt.shaped,PyData.canLay0,PyData.depth]
@[simp] theorem cU6:SeqAt.shaped .none=true:=by simp [SeqAt.shaped,PyData.canLay0,PyData.depth]
@[simp] theorem dB0 (i j:Int):PyData.eqv (.int i) (.int j)=decide (i=j):=by rw [PyData.eqv];exact Bool.beq_eq_decide_eq i j
@[simp] theorem dB1 (i j:Str):PyData.eqv (.str i) (.str j)=(i==j):=by rw [PyData.eqv]
@[simp] theorem aW5:((Str.ofString "read")==(Str.ofString "write"))=false:=by decide +kernel
@[simp] theorem bS7:((Str.ofString "read")==(Str.ofString "add"))=false:=by decide +kernel
@[simp] theorem bF7:((Str.ofString "read")==(Str.ofString "swap"))=false:=by decide +kernel
@[simp] theorem bF8:((Str.ofString "read")==(Str.ofString "span"))=false:=by decide +kernel
@[simp] theorem bF9:((Str.ofString "read")==(Str.ofString "deal"))=false:=by decide +kernel
@[simp] theorem bG0:((Str.ofString "read")==(Str.ofString "look"))=false:=by decide +kernel
@[simp] theorem bS8:((Str.ofString "read")==(Str.ofString "lay"))=false:=by decide +kernel
@[simp] theorem aW6:((Str.ofString "write")==(Str.ofString "read"))=false:=by decide +kernel
@[simp] theorem bG1:((Str.ofString "write")==(Str.ofString "add"))=false:=by decide +kernel
@[simp] theorem aW7:((Str.ofString "write")==(Str.ofString "swap"))=false:=by decide +kernel
@[simp] theorem aW8:((Str.ofString "write")==(Str.ofString "span"))=false:=by decide +kernel
@[simp] theorem aW9:((Str.ofString "write")==(Str.ofString "deal"))=false:=by decide +kernel
@[simp] theorem aX0:((Str.ofString "write")==(Str.ofString "look"))=false:=by decide +kernel
@[simp] theorem bG2:((Str.ofString "write")==(Str.ofString "lay"))=false:=by decide +kernel
@[simp] theorem bS9:((Str.ofString "add")==(Str.ofString "read"))=false:=by decide +kernel
@[simp] theorem bG3:((Str.ofString "add")==(Str.ofString "write"))=false:=by decide +kernel
@[simp] theorem bT0:((Str.ofString "add")==(Str.ofString "swap"))=false:=by decide +kernel
@[simp] theorem bT1:((Str.ofString "add")==(Str.ofString "span"))=false:=by decide +kernel
@[simp] theorem bT2:((Str.ofString "add")==(Str.ofString "deal"))=false:=by decide +kernel
@[simp] theorem bT3:((Str.ofString "add")==(Str.ofString "look"))=false:=by decide +kernel
@[simp] theorem cE5:((Str.ofString "add")==(Str.ofString "lay"))=false:=by decide +kernel
@[simp] theorem bG4:((Str.ofString "swap")==(Str.ofString "read"))=false:=by decide +kernel
@[simp] theorem aX1:((Str.ofString "swap")==(Str.ofString "write"))=false:=by decide +kernel
@[simp] theorem bT4:((Str.ofString "swap")==(Str.ofString "add"))=false:=by decide +kernel
@[simp] theorem bG5:((Str.ofString "swap")==(Str.ofString "span"))=false:=by decide +kernel
@[simp] theorem bG6:((Str.ofString "swap")==(Str.ofString "deal"))=false:=by decide +kernel
@[simp] theorem bG7:((Str.ofString "swap")==(Str.ofString "look"))=false:=by decide +kernel
@[simp] theorem bT5:((Str.ofString "swap")==(Str.ofString "lay"))=false:=by decide +kernel
@[simp] theorem bG8:((Str.ofString "span")==(Str.ofString "read"))=false:=by decide +kernel
@[simp] theorem aX2:((Str.ofString "span")==(Str.ofString "write"))=false:=by decide +kernel
@[simp] theorem bT6:((Str.ofString "span")==(Str.ofString "add"))=false:=by decide +kernel
@[simp] theorem bG9:((Str.ofString "span")==(Str.ofString "swap"))=false:=by decide +kernel
@[simp] theorem bH0:((Str.ofString "span")==(Str.ofString "deal"))=false:=by decide +kernel
@[simp] theorem bH1:((Str.ofString "span")==(Str.ofString "look"))=false:=by decide +kernel
@[simp] theorem bT7:((Str.ofString "span")==(Str.ofString "lay"))=false:=by decide +kernel
@[simp] theorem bH2:((Str.ofString "deal")==(Str.ofString "read"))=false:=by decide +kernel
@[simp] theorem aX3:((Str.ofString "deal")==(Str.ofString "write"))=false:=by decide +kernel
@[simp] theorem bT8:((Str.ofString "deal")==(Str.ofString "add"))=false:=by decide +kernel
@[simp] theorem bH3:((Str.ofString "deal")==(Str.ofString "swap"))=false:=by decide +kernel
@[simp] theorem bH4:((Str.ofString "deal")==(Str.ofString "span"))=false:=by decide +kernel
@[simp] theorem bH5:((Str.ofString "deal")==(Str.ofString "look"))=false:=by decide +kernel
@[simp] theorem bT9:((Str.ofString "deal")==(Str.ofString "lay"))=false:=by decide +kernel
@[simp] theorem bH6:((Str.ofString "look")==(Str.ofString "read"))=false:=by decide +kernel
@[simp] theorem aX4:((Str.ofString "look")==(Str.ofString "write"))=false:=by decide +kernel
@[simp] theorem bU0:((Str.ofString "look")==(Str.ofString "add"))=false:=by decide +kernel
@[simp] theorem bH7:((Str.ofString "look")==(Str.ofString "swap"))=false:=by decide +kernel
@[simp] theorem bH8:((Str.ofString "look")==(Str.ofString "span"))=false:=by decide +kernel
@[simp] theorem bH9:((Str.ofString "look")==(Str.ofString "deal"))=false:=by decide +kernel
@[simp] theorem bU1:((Str.ofString "look")==(Str.ofString "lay"))=false:=by decide +kernel
@[simp] theorem bU2:((Str.ofString "lay")==(Str.ofString "read"))=false:=by decide +kernel
@[simp] theorem bI0:((Str.ofString "lay")==(Str.ofString "write"))=false:=by decide +kernel
@[simp] theorem cE6:((Str.ofString "lay")==(Str.ofString "add"))=false:=by decide +kernel
@[simp] theorem bU3:((Str.ofString "lay")==(Str.ofString "swap"))=false:=by decide +kernel
@[simp] theorem bU4:((Str.ofString "lay")==(Str.ofString "span"))=false:=by decide +kernel
@[simp] theorem bU5:((Str.ofString "lay")==(Str.ofString "deal"))=false:=by decide +kernel
@[simp] theorem bU6:((Str.ofString "lay")==(Str.ofString "look"))=false:=by decide +kernel
@[simp] theorem at0 {a:PyData} {r:List PyData}:atI (a::r) 0=some a:=by simp [atI,ixN]
@[simp] theorem at1 {a b:PyData} {r:List PyData}:atI (a::b::r) 1=some b:=by
 have:(1:Int) < (r.length:Int)+1+1:=by omega
 simp [atI,ixN,this]
@[simp] theorem at2 {a b c:PyData} {r:List PyData}:atI (a::b::c::r) 2=some c:=by
 have:(2:Int) < (r.length:Int)+1+1+1:=by omega
 simp [atI,ixN,this]
@[simp] theorem at3 {a b c d:PyData} {r:List PyData}:atI (a::b::c::d::r) 3=some d:=by
 have:(3:Int) < (r.length:Int)+1+1+1+1:=by omega
 simp [atI,ixN,this]
@[simp] theorem ix0 (n:Nat):ixN (n+1) 0=some 0:=by
 have:(0:Int) < ((n+1:Nat):Int):=by omega
 simp only [ixN,this,Int.le_refl,if_true];rfl
theorem bU7 {n i:Nat} (h:i < n):ixN n (i:Int)=some i:=by
 have h1:(i:Int) < (n:Int):=by omega
 have h2:(0:Int)<=(i:Int):=by omega
 simp [ixN,h1,h2]
@[simp] theorem cK0 (h:aA) (i:Nat) (a:Cell):(h.set i a).take h.length=h.set i a:=by
 rw [List.take_of_length_le (by simp)]
@[simp] theorem dH9:ixN 3 2=some 2:=rfl
@[simp] theorem dI0:ixN 3 0=some 0:=rfl
theorem szl:sizeLine=16777216:=rfl
section
variable {X:Cx} {a b c e tg:Expr} {st:Stmt} {ta tb tc te:DTE} {pos:Pos}
def dNo:DTE:=fun _ _ _=>False
def dB2:DTF:=fun _ _ _=>False
def dB3:DTI:=fun _ _ _=>False
def dB4:DTS:=fun _ _ _=>False
theorem eT:DE X e dNo:=fun pins s σ H Q I ⟨_,_,_,_,_,_,q,_⟩=>q.elim
theorem bI1:DF X e dB2:=fun pins s σ H Q I ⟨_,_,_,_,_,_,q,_⟩=>q.elim
theorem cK1:DI X tg e dB3:=fun pins s σ H R I ⟨_,_,_,_,_,_,q,_⟩=>q.elim
theorem cK2:DS X st dB4:=fun pins s σ H D I ⟨_,_,_,_,_,_,q,_⟩=>q.elim
def yT (neg:Bool):D2:=fun x y h Q=>match ref h x,ref h y with
 | some d,some (.list xs)=>SeqAt.shaped (.list xs)=true/\SeqAt.shaped d=true/\Q (.d (.bool (neg ^^ xs.any fun z=>PyData.eqv z d))) h
 | some d,some (.tuple xs)=>SeqAt.shaped (.tuple xs)=true/\SeqAt.shaped d=true/\Q (.d (.bool (neg ^^ xs.any fun z=>PyData.eqv z d))) h
 | _,_=>False
theorem Room.units65 {k:Nat} {A:Around} (r:Room k A):A.units+65 < cLine:=by have:=r.un;omega
theorem bU8 {n:Nat} (hr:Room n X.A):OpR X (compareOp .In) (upR X.K (yT false)):=by
 intro pins s σ H x y v u Q I rx ry h;obtain ⟨a,b,h,A,μ,k,R,ra,rb,q,c⟩:=h;unfold yT at q;split at q
 ·rename_i d xs ea eb;obtain ⟨as,z1⟩:=(bH R ra ea).reads I (SeqAt.canLay_of_shaped q.2.1) rx;obtain ⟨bs,z2⟩:=(bH R rb eb).reads I (SeqAt.canLay_of_shaped q.1) ry;exact SeqAt.in_list_reads z2 z1 (SeqAt.canLay_of_shaped q.1) (SeqAt.canLay_of_shaped q.2.1) (room_in_shaped q.2.1 (Room.units65 hr)) ⟨.bl _,H,I,rfl,c _ _ _ _ _ _ q.2.2 .refl R (by simpa using bA)⟩
 ·rename_i d xs ea eb;obtain ⟨as,z1⟩:=(bH R ra ea).reads I (SeqAt.canLay_of_shaped q.2.1) rx;obtain ⟨bs,z2⟩:=(bH R rb eb).reads I (SeqAt.canLay_of_shaped q.1) ry;exact SeqAt.in_tuple_reads z2 z1 (SeqAt.canLay_of_shaped q.1) (SeqAt.canLay_of_shaped q.2.1) (room_in_shaped q.2.1 (Room.units65 hr)) ⟨.bl _,H,I,rfl,c _ _ _ _ _ _ q.2.2 .refl R (by simpa using bA)⟩
 ·exact q.elim
theorem yU {n:Nat} (hr:Room n X.A):OpR X (compareOp .NotIn) (upR X.K (yT true)):=by
 intro pins s σ H x y v u Q I rx ry h;obtain ⟨a,b,h,A,μ,k,R,ra,rb,q,c⟩:=h;unfold yT at q;split at q
 ·rename_i d xs ea eb;obtain ⟨as,z1⟩:=(bH R ra ea).reads I (SeqAt.canLay_of_shaped q.2.1) rx;obtain ⟨bs,z2⟩:=(bH R rb eb).reads I (SeqAt.canLay_of_shaped q.1) ry;exact SeqAt.notIn_list_reads z2 z1 (SeqAt.canLay_of_shaped q.1) (SeqAt.canLay_of_shaped q.2.1) (room_in_shaped q.2.1 (Room.units65 hr)) ⟨.bl _,H,I,rfl,c _ _ _ _ _ _ q.2.2 .refl R (by simpa using bA)⟩
 ·rename_i d xs ea eb;obtain ⟨as,z1⟩:=(bH R ra ea).reads I (SeqAt.canLay_of_shaped q.2.1) rx;obtain ⟨bs,z2⟩:=(bH R rb eb).reads I (SeqAt.canLay_of_shaped q.1) ry;exact SeqAt.notIn_tuple_reads z2 z1 (SeqAt.canLay_of_shaped q.1) (SeqAt.canLay_of_shaped q.2.1) (room_in_shaped q.2.1 (Room.units65 hr)) ⟨.bl _,H,I,rfl,c _ _ _ _ _ _ q.2.2 .refl R (by simpa using bA)⟩
 ·exact q.elim
def iU (r r':D2) (ta tb tc:DTE):DTE:=fun δ h Q=>ta δ h fun x h1=>tb δ h1 fun y h2=>r x y h2 fun z h3=>match z with
 | .d (.bool k)=>if k=true then tc δ h3 fun u h4=>r' y u h4 Q else Q (.d (.bool false)) h3
 | _=>False
theorem rT {K:Frag} {r r':D2} {σ:L2.St} {H:Hp} {Q:VK} (q:up K (iU r r' ta tb tc) σ H Q):tW (upR K r) (upR K r') (up K ta) (up K tb) (up K tc) σ H Q:=by
 obtain ⟨δ,h,A,μ,k,R,q,c⟩:=q;refine ⟨δ,h,A,μ,_,R,q,fun u h1 v H1 A1 μ1 q1 x1 R1 r1=>?_⟩;refine ⟨δ,h1,A1,μ1,_,⟨R1,R.2.ext x1 R.1.sub⟩,q1,fun w h2 v2 H2 A2 μ2 q2 x2 R2 r2=>?_⟩;refine ⟨u,w,h2,A2,μ2,_,R2,r1.ext x2 R1.sub,r2,q2,fun z h3 v3 H3 A3 μ3 q3 x3 R3 r3=>?_⟩;have x13:=(x1.trans x2).trans x3;split at q3
 ·rename_i kk;refine ⟨kk,dM r3,?_⟩;cases kk with
  | true =>
   rw [if_pos rfl] at q3 ⊢;refine ⟨δ,h3,A3,μ3,_,⟨R3,R.2.ext x13 R.1.sub⟩,q3,fun u4 h4 v4 H4 A4 μ4 q4 x4 R4 r4=>?_⟩;exact ⟨w,u4,h4,A4,μ4,k,R4,(r2.ext x3 R2.sub).ext x4 R3.sub,r4,q4,fun z h5 v5 H5 A5 μ5 q5 x5 R5 r5=>c z h5 v5 H5 A5 μ5 q5 ((x13.trans x4).trans x5) R5 r5⟩
  | false =>
   rw [if_neg Bool.false_ne_true] at q3 ⊢;exact c _ h3 _ H3 A3 μ3 q3 x13 R3 bA
 ·exact q3.elim
theorem aG1 {op op':CmpOp} {r r':D2} (ho:OpR X (compareOp op) (upR X.K r)) (ho':OpR X (compareOp op') (upR X.K r')) (ha:DE X a ta) (hb:DE X b tb) (hc:DE X c tc)
  (hm:lastMarks [op,op'] [b,c]=false:=by with_unfolding_all rfl):DE X (.Compare a [op,op'] [b,c] pos) (iU r r' ta tb tc):=aH (aC7 ho ho' ha hb hc hm) fun _ _ _ q=>rT q
theorem aG2 {op op':CmpOp} {r r':D2} (ho:OpR X (compareOp op) (upR X.K r)) (ho':OpR X (compareOp op') (upR X.K r')) (ha:DE X a ta) (hb:DE X b tb) (hc:DE X c tc)
  (hm:lastMarks [op,op'] [b,c]=false:=by with_unfolding_all rfl):DT X (.Compare a [op,op'] [b,c] pos) (dB (iU r r' ta tb tc)):=gE (aC8 ho ho' ha hb hc hm) fun σ H Q q=>by
  obtain ⟨δ,h,A,μ,k,R,q1,c⟩:=kH q;exact rT ⟨δ,h,A,μ,k,R,q1,c⟩
def dB5 (ta:DTE):DTE:=fun δ h Q=>ta δ h fun w h1=>match w with
 | .d (.int i)=>Q (.d (.int (-i))) h1
 | _=>False
theorem bU9 (ha:DE X a ta):DE X (.UnaryOp .USub a pos) (dB5 ta):=aH (cH2 bN7 ha) fun σ H Q q=>by
 obtain ⟨δ,h,A,μ,k,R,q,c⟩:=q;refine ⟨δ,h,A,μ,_,R,q,fun w h1 v H1 A1 μ1 q1 x1 R1 r1=>?_⟩;split at q1
 ·exact ⟨_,bG r1,c _ h1 _ H1 A1 μ1 q1 x1 R1 kY⟩
 ·exact q1.elim
noncomputable def cK3:D2
 | .d (.int i),.d (.int j),h,Q=>0<=j/\Q (.d (.int (i / 2^j.toNat))) h
 | _,_,_,_=>False
noncomputable def bI2:D2
 | .d (.int i),.d (.int j),h,Q=>Q (.d (.int (Builtin.bitAnd i j))) h
 | _,_,_,_=>False
theorem aX5:OpR X (binaryOp .RShift) (upR X.K cK3):=dR (f:=fun i j=>.int (i / 2^j.toNat)) bN5 (fun _ _ _ _=>iB) fun u w h k q=>by
 unfold cK3 at q;split at q
 ·exact ⟨_,_,rfl,rfl,q.1,q.2⟩
 ·exact q.elim
theorem aG3:OpR X (binaryOp .BitAnd) (upR X.K bI2):=dR (f:=fun i j=>.int (Builtin.bitAnd i j)) (OpR.i0 bN6) (fun _ _ _ _=>iB) fun u w h k q=>by
 unfold bI2 at q;split at q
 ·exact ⟨_,_,rfl,rfl,trivial,q⟩
 ·exact q.elim
end
noncomputable def oIs:Option Str->Value->Bool
 | some x,v=>Value.isStrOf x v
 | none,.none=>true
 | none,_=>false
theorem oIs_shape {k:Option Str} {v:Value} (h:oIs k v=true):(∃ x t,k=some x/\v=.str x t)\/(k=none/\v=.none):=by
 cases k with
 | some x =>
  obtain ⟨t,e⟩:=Value.isStrOf_shape (x:=x) (v:=v) h;exact .inl ⟨x,t,rfl,e⟩
 | none=>cases v<;>first | exact .inr ⟨rfl,rfl⟩ | cases h
theorem pE (x:Str) (t:Tok):oIs (some x) (.str x t)=true:=by simp [oIs,Value.isStrOf]
noncomputable def cK4 (w:World):Option Str->Int
 | some x=>hashStr w x
 | none=>reduceHash 0xFCA86420
noncomputable def cK5 (prog:Program) (w:World):PySem.KeyKind prog w (Option Str) where
 is:=oIs
 hash:=cK4 w
 inj:=fun v a b ha hb=>by
  rcases oIs_shape ha with ⟨x,t,rfl,rfl⟩ | ⟨rfl,rfl⟩
  ·rcases oIs_shape hb with ⟨y,u,rfl,e⟩ | ⟨rfl,e⟩
   ·injection e with e1 _;rw [e1]
   ·exact nomatch e
  ·rcases oIs_shape hb with ⟨y,u,rfl,e⟩ | ⟨rfl,e⟩
   ·exact nomatch e
   ·rfl
 byValue:=fun k v h=>by
  rcases oIs_shape h with ⟨x,t,rfl,rfl⟩ | ⟨rfl,rfl⟩<;>rfl
 pyHash:=fun {A E s k v Q} hv h=>by
  rcases oIs_shape hv with ⟨x,t,rfl,rfl⟩ | ⟨rfl,rfl⟩
  ·exact wpAny_pyHash_str h
  ·exact PySem.W.pyHash_slot (T:="NoneType") rfl PySem.F.slot_NoneType_hash PySem.F.entry_NoneType_hash (PySem.F.args_NoneType_hash_1 _) (by decide) (.inl rfl) (wpAny_bind (wpAny_pure (wpAny_bind (wpAny_mkInt (wpAny_pure ⟨_,_,rfl,h⟩)))))
 eqBool:=fun {A E s a b u v Q} hu hv h=>by
  rcases oIs_shape hu with ⟨x,t,rfl,rfl⟩ | ⟨rfl,rfl⟩
  ·rcases oIs_shape hv with ⟨y,u,rfl,rfl⟩ | ⟨rfl,rfl⟩
   ·refine wpAny_eqBool_str ?_;have e:decide (some x=some y)=decide (x=y):=by simp
    rwa [e] at h
   ·exact SeqAt.EqAt.str_none x t _ _ _ _ (by simpa using h)
  ·rcases oIs_shape hv with ⟨y,u,rfl,rfl⟩ | ⟨rfl,rfl⟩
   ·exact SeqAt.EqAt.none_str y u _ _ _ _ (by simpa using h)
   ·exact SeqAt.EqAt.same _ _ _ _ _ (by simpa using h)
 «strs»:=fun k x t v h=>by
  rcases oIs_shape h with ⟨y,u,rfl,e⟩ | ⟨rfl,e⟩
  ·injection e with e1 _
   subst e1;cases v<;>rfl
  ·exact nomatch e
structure TabK (w:World) (K:Frag) (p:Addr) (f:Str->Option Int):Prop where
 lk:∃ es n,K.lookup p=some ⟨.type "dict",none,.dict es n,#[]⟩/\PySem.W.KeysLit w.params es.toList/\(∀ x i,f x=some i->∃ t,findBy Value.isStrOf es x=some (.int i t))/\∀ x,f x=none->findBy Value.isStrOf es x=none
 sm:(p==sysModules)=false
theorem TabK.map {w:World} {K:Frag} {p:Addr} {f:Str->Option Int} {prog:Program} {h:Heap} (T:TabK w K p f) (X:K.In h):∃ g:Option Str->Option Value,h.MapOf (cK5 prog w) p g/\g none=none/\(∀ x i,f x=some i->∃ t,g (some x)=some (.int i t))/\∀ x,f x=none->g (some x)=none:=by
 obtain ⟨es,n,l,hk,h1,h2⟩:=T.lk;refine ⟨fun k=>findBy oIs es k,⟨_,es,n,X _ _ l,⟨rfl,rfl,rfl⟩,rfl,fun e he=>?_,fun _=>rfl⟩,?_,h1,h2⟩
 ·obtain ⟨x,t,e1,e2⟩:=hk.all e (Array.mem_toList_iff.mpr he);exact ⟨some x,by rw [e1];exact pE x t,e2⟩
 ·unfold findBy;have e:es.find? (fun e=>oIs none e.key)=none:=by
   rw [Array.find?_eq_none];intro e he;obtain ⟨x,t,e1,_⟩:=hk.all e (Array.mem_toList_iff.mpr he);rw [e1];exact Bool.false_ne_true
  show Option.map _ (es.find? fun e=>oIs none e.key)=none;rw [e];rfl
section
variable {X:Cx} {a b c d e:Expr} {ta tb tc td:DTE} {pos:Pos}
theorem nQ {p:Addr} {f:Str->Option Int} (T:TabK X.w X.K p f):OpR X (compareOp .NotIn) (fun x y H Q=>y=.ref p/\((∃ s,x=.str s/\Q (.bl (!(f s).isSome)) H)\/(x=.non/\Q (.bl true) H))):=by
 intro pins s σ H x y v u Q I rx ry h;obtain ⟨rfl,h⟩:=h;cases ry;obtain ⟨g,m,g0,g1,g2⟩:=T.map (prog:=X.prog) I.kIn;rcases h with ⟨z,rfl,q⟩ | ⟨rfl,q⟩
 ·obtain ⟨t,rfl⟩:=rx;refine wpAny_notIn_of (k:=some z) (pE z t) T.sm m ⟨.bl _,H,I.tok _,?_,q⟩;cases e:f z with
  | none=>rw [g2 z e];rfl
  | some i=>obtain ⟨t',e'⟩:=g1 z i e;rw [e'];rfl
 ·cases rx;exact wpAny_notIn_of (k:=none) rfl T.sm m ⟨.bl _,H,I.tok _,by rw [g0];rfl,q⟩
theorem dB6 {p:Addr} {f:Str->Option Int} (T:TabK X.w X.K p f):IxR X (fun x y H Q=>x=.ref p/\∃ s i,y=.str s/\f s=some i/\Q (.int i) H):=by
 intro value slice pins s σ H x y v u Q I rx ry h hs;obtain ⟨rfl,z,i,rfl,e,q⟩:=h;cases rx;obtain ⟨t,rfl⟩:=ry;obtain ⟨g,m,g0,g1,g2⟩:=T.map (prog:=X.prog) I.kIn;obtain ⟨t',e'⟩:=g1 z i e;exact tail_any m.typeIs slot_dict_getitem.lookup (wpAny_getItem_of (k:=some z) (pE z t) m e' ⟨.int i,H,I.tok _,⟨t',rfl⟩,q⟩) hs
def pG (f:Str->Option Int) (ta:DTE):DTE:=fun δ h Q=>ta δ h fun w h1=>match w with
 | .d (.str s)=>Q (.d (.bool (!(f s).isSome))) h1
 | .d .none=>Q (.d (.bool true)) h1
 | _=>False
theorem rV {K:Frag} {A μ:List Addr} {H:Hp} {x:Str} {v:V} (r:RepW K A μ H (.d (.str x)) v):v=.str x:=by
 have z:Rep K A H (.str x) v:=r;rw [Rep] at z;exact z.1
theorem aG4 {K:Frag} {A μ:List Addr} {H:Hp} {v:V} (r:RepW K A μ H (.d .none) v):v=.non:=by
 have z:Rep K A H .none v:=r;rw [Rep] at z;exact z
theorem nR {p:Addr} {f:Str->Option Int} {σ:L2.St} {H:Hp} {Q:VK} (q:up X.K (pG f ta) σ H Q) :
  tOp (fun x y H Q=>y=.ref p/\((∃ s,x=.str s/\Q (.bl (!(f s).isSome)) H)\/(x=.non/\Q (.bl true) H))) (up X.K ta) (tC (.ref p)) σ H Q:=by
 obtain ⟨δ,h,A,μ,k,R,q,c⟩:=q;refine ⟨δ,h,A,μ,_,R,q,fun w h1 v H1 A1 μ1 q1 x1 R1 r1=>?_⟩;show _/\_;refine ⟨rfl,?_⟩;split at q1
 ·exact .inl ⟨_,rV r1,c _ h1 _ H1 A1 μ1 q1 x1 R1 bA⟩
 ·exact .inr ⟨aG4 r1,c _ h1 _ H1 A1 μ1 q1 x1 R1 bA⟩
 ·exact q1.elim
theorem yV {p:Addr} {f:Str->Option Int} {x:Str} {pos':Pos} (T:TabK X.w X.K p f) (hm:X.mg x=some (.ref p)) (ha:DE X a ta) (hg:Gl X x:=by rfl) (hd:(x==("__debug__":Str))=false:=by decide) (hb:behindInMarks .NotIn (.Name x pos')=false:=by rfl) :
  DE X (.Compare a [.NotIn] [.Name x pos'] pos) (pG f ta):=aH (vX (nQ T) ha (kF (v:=.ref p) hg hm rfl hd) hb) fun _ _ _ q=>nR q
theorem yW {p:Addr} {f:Str->Option Int} {x:Str} {pos':Pos} (T:TabK X.w X.K p f) (hm:X.mg x=some (.ref p)) (ha:DE X a ta) (hg:Gl X x:=by rfl) (hd:(x==("__debug__":Str))=false:=by decide) (hb:behindInMarks .NotIn (.Name x pos')=false:=by rfl) :
  DT X (.Compare a [.NotIn] [.Name x pos'] pos) (dB (pG f ta)):=gE (vY (nQ T) ha (kF (v:=.ref p) hg hm rfl hd) hb) fun σ H Q q=>by
  obtain ⟨δ,h,A,μ,k,R,q1,c⟩:=kH q;exact nR ⟨δ,h,A,μ,k,R,q1,c⟩
def dB7 (f:Str->Option Int) (ta:DTE):DTE:=fun δ h Q=>ta δ h fun w h1=>match w with
 | .d (.str s)=>(match f s with
  | some i=>Q (.d (.int i)) h1
  | none=>False)
 | _=>False
theorem bV0 {p:Addr} {f:Str->Option Int} {x:Str} {pos':Pos} (T:TabK X.w X.K p f) (hm:X.mg x=some (.ref p)) (ha:DE X a ta) (hg:Gl X x:=by rfl) (hd:(x==("__debug__":Str))=false:=by decide) (hs:hX a:=by intro _ _;rfl) :
  DE X (.Subscript (.Name x pos') a pos) (dB7 f ta):=aH (aD6 (dB6 T) (kF (v:=.ref p) hg hm rfl hd) ha hs) fun σ H Q q=>by
 obtain ⟨δ,h,A,μ,k,R,q,c⟩:=q;show up X.K ta σ H _;refine ⟨δ,h,A,μ,_,R,q,fun w h1 v H1 A1 μ1 q1 x1 R1 r1=>?_⟩;refine ⟨rfl,?_⟩;split at q1
 ·split at q1
  ·rename_i e;exact ⟨_,_,rV r1,e,c _ h1 _ H1 A1 μ1 q1 x1 R1 kY⟩
  ·exact q1.elim
 ·exact q1.elim
def kK (r r' r'':D2) (ta tb tc td:DTE):DTE:=fun δ h Q=>ta δ h fun x h1=>tb δ h1 fun y h2=>r x y h2 fun z h3=>match z with
 | .d (.bool k)=>if k=true then tc δ h3 fun u h4=>r' y u h4 fun z' h5=>(match z' with
   | .d (.bool k')=>if k'=true then td δ h5 fun u' h6=>r'' u u' h6 Q else Q (.d (.bool false)) h5
   | _=>False) else Q (.d (.bool false)) h3
 | _=>False
def aX6 (r r' r'':R2) (ta tb tc td:TE):TE:=fun σ H Q=>ta σ H fun x H1=>tb σ H1 fun y H2=>r x y H2 fun z H3=>∃ k,z=.bl k /\
 (if k=true then tc σ H3 fun u H4=>r' y u H4 fun z' H5=>∃ k',z'=.bl k'/\(if k'=true then td σ H5 fun u' H6=>r'' u u' H6 Q else Q (.bl false) H5) else Q (.bl false) H3)
theorem yX {ta tb tc td:TE} {op op' op'':CmpOp} {r r' r'':R2} (ho:OpR X (compareOp op) r) (ho':OpR X (compareOp op') r') (ho'':OpR X (compareOp op'') r'') (ha:PE X a ta) (hb:PE X b tb) (hc:PE X c tc) (hd:PE X d td)
  (hm:lastMarks [op,op',op''] [b,c,d]=false:=by with_unfolding_all rfl):PE X (.Compare a [op,op',op''] [b,c,d] pos) (aX6 r r' r'' ta tb tc td):=by
 intro pins s σ H Q I h;refine Compare_chain (thn (ha pins s σ H _ I h) fun v s1 ⟨x,H1,I1,r1,q1⟩=>chain_link (thn (hb pins s1 σ H1 _ I1 q1) fun u s2 ⟨y,H2,I2,r2,q2⟩ =>
  thn (ho pins s2 σ H2 x y v u _ I2 r1 r2 q2) fun d' s3 ⟨z,H3,I3,r3,k,e,q3⟩=>?_)) hm
 subst e;cases r3;refine wpAny_truthy_bool ?_;cases k with
 | false=>exact ite_ff ⟨.bl false,H3,I3,rfl,q3⟩
 | true =>
  refine ite_tt (chain_link (thn (hc pins s3 σ H3 _ I3 q3) fun w' s4 ⟨z',H4,I4,r4,q4⟩=>thn (ho' pins s4 σ H4 y z' u w' _ I4 r2 r4 q4) fun d2 s5 ⟨z2,H5,I5,r5,k2,e2,q5⟩=>?_));subst e2;cases r5;refine wpAny_truthy_bool ?_;cases k2 with
  | false=>exact ite_ff ⟨.bl false,H5,I5,rfl,q5⟩
  | true=>exact ite_tt (chain_last (thn (hd pins s5 σ H5 _ I5 q5) fun w6 s6 ⟨z6,H6,I6,r6,q6⟩=>ho'' pins s6 σ H6 z' z6 w' w6 Q I6 r4 r6 q6))
theorem yY {op op' op'':CmpOp} {r r' r'':D2} (ho:OpR X (compareOp op) (upR X.K r)) (ho':OpR X (compareOp op') (upR X.K r')) (ho'':OpR X (compareOp op'') (upR X.K r'')) (ha:DE X a ta) (hb:DE X b tb) (hc:DE X c tc) (hd:DE X d td)
  (hm:lastMarks [op,op',op''] [b,c,d]=false:=by with_unfolding_all rfl):DE X (.Compare a [op,op',op''] [b,c,d] pos) (kK r r' r'' ta tb tc td):=aH (yX ho ho' ho'' ha hb hc hd hm) fun σ H Q q=>by
 obtain ⟨δ,h,A,μ,k,R,q,c⟩:=q;refine ⟨δ,h,A,μ,_,R,q,fun u h1 v H1 A1 μ1 q1 x1 R1 r1=>?_⟩;refine ⟨δ,h1,A1,μ1,_,⟨R1,R.2.ext x1 R.1.sub⟩,q1,fun w h2 v2 H2 A2 μ2 q2 x2 R2 r2=>?_⟩;refine ⟨u,w,h2,A2,μ2,_,R2,r1.ext x2 R1.sub,r2,q2,fun z h3 v3 H3 A3 μ3 q3 x3 R3 r3=>?_⟩;have x13:=(x1.trans x2).trans x3;split at q3
 ·rename_i kk;refine ⟨kk,dM r3,?_⟩;cases kk with
  | true =>
   rw [if_pos rfl] at q3 ⊢;refine ⟨δ,h3,A3,μ3,_,⟨R3,R.2.ext x13 R.1.sub⟩,q3,fun u4 h4 v4 H4 A4 μ4 q4 x4 R4 r4=>?_⟩;refine ⟨w,u4,h4,A4,μ4,_,R4,(r2.ext x3 R2.sub).ext x4 R3.sub,r4,q4,fun z h5 v5 H5 A5 μ5 q5 x5 R5 r5=>?_⟩;have x15:=(x13.trans x4).trans x5;split at q5
   ·rename_i k5;refine ⟨k5,dM r5,?_⟩;cases k5 with
    | true =>
     rw [if_pos rfl] at q5 ⊢;refine ⟨δ,h5,A5,μ5,_,⟨R5,R.2.ext x15 R.1.sub⟩,q5,fun u6 h6 v6 H6 A6 μ6 q6 x6 R6 r6=>?_⟩;exact ⟨u4,u6,h6,A6,μ6,k,R6,(r4.ext x5 R4.sub).ext x6 R5.sub,r6,q6,fun z h7 v7 H7 A7 μ7 q7 x7 R7 r7=>c z h7 v7 H7 A7 μ7 q7 ((x15.trans x6).trans x7) R7 r7⟩
    | false =>
     rw [if_neg Bool.false_ne_true] at q5 ⊢;exact c _ h5 _ H5 A5 μ5 q5 x15 R5 bA
   ·exact q5.elim
  | false =>
   rw [if_neg Bool.false_ne_true] at q3 ⊢;exact c _ h3 _ H3 A3 μ3 q3 x13 R3 bA
 ·exact q3.elim
end
end DL
namespace SJ
open PySem
mutual
noncomputable def sok:PyData->Bool
 | .str x=>PyData.strOk x
 | .list xs=>decide (xs.length<=1000)&&soks xs
 | .tuple xs=>decide (xs.length<=1000)&&soks xs
 | _=>true
noncomputable def soks:List PyData->Bool
 | []=>true
 | x::r=>sok x&&soks r
end
theorem nS {x:PyData} {xs:List PyData}:soks (x::xs)=true ↔ sok x=true/\soks xs=true:=by rw [soks,Bool.and_eq_true]
noncomputable def fX:PyData->Bool
 | .int _=>true
 | _=>false
noncomputable def gH (x:PyData) (lo hi:Int):Bool:=match x with
 | .int i=>decide (lo<=i)&&decide (i<=hi)
 | _=>false
noncomputable def iF (x:PyData):Bool:=gH x 0 7
noncomputable def gP:PyData->Int->Bool
 | .tuple xs,n=>decide ((xs.length:Int)=n)
 | _,_=>false
noncomputable def fG:PyData->PyData
 | .tuple (.str s::_)=>.str s
 | _=>.none
noncomputable def aG (x:PyData) (s:Str) (n:Int):Bool:=match x with
 | .tuple (.str t::r)=>(t==s)&&decide ((r.length:Int)+1=n)
 | _=>false
noncomputable def nb (s:Str):Option Int:=if s=Str.ofString "read" then some 0 else if s=Str.ofString "write" then some 1 else if s=Str.ofString "add" then some 1 else if s=Str.ofString "swap" then some 2 else none
noncomputable def bC:PyData->Bool
 | .tuple (.str s::r)=>match nb s with
  | some n=>(decide ((r.length:Int)+1=2+n))&&(match r with
   | k::vs=>iF k&&vs.all fX
   | []=>false)
  | none=>false
 | _=>false
noncomputable def dU:PyData->Bool
 | .tuple [.str s,.int a,.int b]=>(s==Str.ofString "span")&&decide (0<=a)&&decide (a < b)&&decide (b<=8)
 | _=>false
noncomputable def dD:PyData->Bool
 | .tuple [.str s,.tuple ps]=>(s==Str.ofString "deal")&&decide (1<=ps.length)&&decide (ps.length<=4)&&ps.all bC
 | _=>false
noncomputable def bP (x:PyData):Bool:=bC x||dU x||dD x
noncomputable def fY:PyData->Bool
 | .tuple [.str s,c]=>(s==Str.ofString "look")&&bP c
 | _=>false
noncomputable def dE:PyData->Bool
 | .tuple [k,v]=>iF k&&fX v
 | _=>false
noncomputable def pH:PyData->Int
 | .int i=>i
 | _=>0
noncomputable def nT:PyData->PyData
 | .tuple (k::_)=>k
 | _=>.none
noncomputable def aX7 (ns:List Int):Bool:=(List.range (ns.length - 1)).all fun k=>decide (ns.getD k 0 < ns.getD (k+1) 0)
noncomputable def iG:PyData->Bool
 | .tuple [.str s,.tuple ps]=>(s==Str.ofString "lay")&&!ps.isEmpty&&ps.all dE&&aX7 (ps.map fun p=>pH (nT p))
 | _=>false
noncomputable def dW (x:PyData):Bool:=bP x||fY x||iG x
end SJ
namespace SJ
open PySem PySem.Spec PyProof.Rows L2 DL
structure Bad (x:PyData):Prop where
 so:sok x=true
 si:bC x=false
 ca:bP x=false
 st:dW x=false
theorem Bad.of {x:PyData} (h0:sok x=true) (h1:bC x=false) (h2:dU x=false) (h3:dD x=false) (h4:fY x=false) (h5:iG x=false):Bad x :=
 have hc:bP x=false:=by simp [bP,h1,h2,h3]
 ⟨h0,h1,hc,by simp [dW,hc,h4,h5]⟩
theorem aX8:nb "read"=some 0:=by decide +kernel
theorem aG5:nb "write"=some 1:=by decide +kernel
theorem bV1:nb "add"=some 1:=by decide +kernel
theorem aX9:nb "swap"=some 2:=by decide +kernel
theorem aY0:nb "look"=none:=by decide +kernel
theorem bV2:nb "lay"=none:=by decide +kernel
theorem aY1:PyData.strOk "read"=true:=by decide +kernel
theorem aG6:PyData.strOk "write"=true:=by decide +kernel
theorem bV3:PyData.strOk "add"=true:=by decide +kernel
theorem aY2:PyData.strOk "swap"=true:=by decide +kernel
theorem aY3:PyData.strOk "span"=true:=by decide +kernel
theorem aY4:PyData.strOk "deal"=true:=by decide +kernel
theorem aY5:PyData.strOk "look"=true:=by decide +kernel
theorem bV4:PyData.strOk "lay"=true:=by decide +kernel
theorem aG7 {k:Nat} (h:k < 8):iF (.int k)=true:=by
 simp [iF,gH];omega
theorem lD {o:One} (h:o.ok):bC o.dat=true/\sok o.dat=true:=by
 have h':o.key < 8:=h;cases o<;>simp [One.key] at h'<;>simp [One.dat,bC,aX8,aG5,bV1,aX9,aG7 h',fX,sok,soks,aY1,aG6,bV3,aY2]
theorem rW:∀ {cs:List One},(∀ c∈cs,c.ok)->(cs.map One.dat).all bC=true/\soks (cs.map One.dat)=true
 | [],_=>⟨rfl,rfl⟩
 | c::r,h=>by
  obtain ⟨h1,h2⟩:=lD (h c List.mem_cons_self);obtain ⟨h3,h4⟩:=rW fun z hz=>h z (List.mem_cons_of_mem _ hz);rw [List.map_cons,List.all_cons,h1,h3,nS];exact ⟨rfl,h2,h4⟩
theorem eU {o:SJ.Call} (h:o.ok):bP o.dat=true/\dW o.dat=true/\sok o.dat=true:=by
 have hc:bP o.dat=true/\sok o.dat=true:=by
  cases o with
  | one c =>
   obtain ⟨h1,h2⟩:=lD (o:=c) h;exact ⟨by simp [bP,Call.dat,h1],h2⟩
  | span lo hi =>
   obtain ⟨h1,h2⟩:=h;refine ⟨?_,by simp [Call.dat,sok,soks,aY3]⟩;have e1:(0:Int)<=lo:=by omega
   have e2:(lo:Int) < hi:=by omega
   have e3:(hi:Int)<=8:=by omega
   simp [bP,Call.dat,dU,e2,e3]
  | deal cs =>
   obtain ⟨h1,h2,h3⟩:=h;obtain ⟨h4,h5⟩:=rW h3;refine ⟨?_,by simp [Call.dat,sok,soks,aY4,h5];omega⟩;simp only [bP,Call.dat,dD,h4,List.length_map];simp [h1,h2]
 exact ⟨hc.1,by simp [dW,hc.1],hc.2⟩
theorem gI {o:SJ.Call} (h:o.ok):bP (.tuple [.str "look",o.dat])=false/\dW (.tuple [.str "look",o.dat])=true/\sok (.tuple [.str "look",o.dat])=true:=by
 obtain ⟨h1,h2,h3⟩:=eU h;have hs:dU (.tuple [.str "look",o.dat])=false:=by
  unfold dU;split
  ·simp_all
  ·rfl
 have hd:dD (.tuple [.str "look",o.dat])=false:=by
  unfold dD;split
  ·rename_i e;injection e with e
   injection e with e1 e2
   injection e1 with e1
   subst e1;simp
  ·rfl
 have hi:bC (.tuple [.str "look",o.dat])=false:=by simp [bC,aY0]
 have hc:bP (.tuple [.str "look",o.dat])=false:=by simp [bP,hs,hd,hi]
 refine ⟨hc,?_,by simp [sok,soks,aY5,h3]⟩;simp only [dW,hc,fY,h1];simp
noncomputable def prP (p:Nat×Int):PyData:=.tuple [.int p.1,.int p.2]
theorem iV:∀ {ps:List (Nat×Int)},(∀ p∈ps,p.1 < 8)->(ps.map prP).all dE=true/\soks (ps.map prP)=true/\((ps.map prP).map fun p=>pH (nT p))=ps.map fun p=>(p.1:Int)
 | [],_=>⟨rfl,rfl,rfl⟩
 | p::r,h=>by
  obtain ⟨h3,h4,h5⟩:=iV fun z hz=>h z (List.mem_cons_of_mem _ hz);have hk:=aG7 (h p List.mem_cons_self);rw [List.map_cons,List.all_cons,h3,nS,List.map_cons,h5];refine ⟨by simp [prP,dE,hk,fX],⟨by simp [prP,sok,soks],h4⟩,?_⟩;rfl
theorem wJ {ks:List Nat} (h:ks.Pairwise (· < ·)):aX7 (ks.map fun (k:Nat)=>(k:Int))=true:=by
 unfold aX7;rw [List.all_eq_true];intro i hi;have hi':i+1 < ks.length:=by
  have:=List.mem_range.mp hi;simp at this;omega
 have:=List.pairwise_iff_getElem.mp h i (i+1) (by omega) hi' (by omega);simp [List.getD,hi',show i < ks.length by omega];omega
theorem aG8 {ps:List (Nat×Int)} (h0:ps≠[]) (h1:(ps.map (·.1)).Pairwise (· < ·)) (h2:∀ p∈ps,p.1 < 8) (h3:ps.length<=8) :
  bP (.tuple [.str "lay",.tuple (ps.map prP)])=false/\dW (.tuple [.str "lay",.tuple (ps.map prP)])=true/\sok (.tuple [.str "lay",.tuple (ps.map prP)])=true:=by
 obtain ⟨q1,q2,q3⟩:=iV h2;have hd:dD (.tuple [.str "lay",.tuple (ps.map prP)])=false:=by
  unfold dD;simp
 have hc:bP (.tuple [.str "lay",.tuple (ps.map prP)])=false:=by simp [bP,hd,bC,bV2,dU]
 refine ⟨hc,?_,by simp [sok,soks,bV4,q2];omega⟩;have hr:=wJ h1;rw [List.map_map] at hr;have he:(ps.map prP).isEmpty=false:=by simpa using h0
 simp only [dW,hc,iG,q1,q3,he];have e:(List.map (fun p:Nat×Int=>(p.1:Int)) ps)=List.map ((fun k:Nat=>(k:Int)) ∘ fun x=>x.1) ps:=rfl;rw [e,hr];simp
end SJ
namespace SJ
open PySem
inductive An1 where
 | got (v:Int) | dn | yes | no
noncomputable def An1.dat:An1->PyData
 | .got v=>.tuple [.str "got",.int v]
 | .dn=>.tuple [.str "done"]
 | .yes=>.tuple [.str "yes"]
 | .no=>.tuple [.str "no"]
noncomputable def An1.fits:One->An1->Prop
 | .read _,.got _=>True
 | .add _ _,.got _=>True
 | .write _ _,.dn=>True
 | .swap _ _ _,.yes=>True
 | .swap _ _ _,.no=>True
 | _,_=>False
inductive Ans where
 | one (a:An1) | all (ns:List Int) | each (as:List An1)
noncomputable def Ans.dat:Ans->PyData
 | .one a=>a.dat
 | .all ns=>.tuple [.str "all",.tuple (ns.map .int)]
 | .each as=>.tuple [.str "each",.tuple (as.map An1.dat)]
inductive Fit2:List One->List An1->Prop
 | nil:Fit2 [] []
 | cons {o:One} {a:An1} {os:List One} {as:List An1} (h:An1.fits o a) (t:Fit2 os as):Fit2 (o::os) (a::as)
noncomputable def Ans.fits:Call->Ans->Prop
 | .one o,.one a=>An1.fits o a
 | .span lo hi,.all ns=>ns.length=hi - lo
 | .deal cs,.each as=>Fit2 cs as
 | _,_=>False
noncomputable def cH (o:One) (t:PyData):Bool:=match o with
 | .read _=>(match t with
  | .tuple [.str s,v]=>(s==Str.ofString "got")&&fX v
  | _=>false)
 | .add _ _=>(match t with
  | .tuple [.str s,v]=>(s==Str.ofString "got")&&fX v
  | _=>false)
 | .write _ _=>aG t "done" 1
 | .swap _ _ _=>aG t "yes" 1||aG t "no" 1
noncomputable def eI:List One->List PyData->Bool
 | o::os,t::ts=>cH o t&&eI os ts
 | _,_=>true
noncomputable def bJ (c:Call) (t:PyData):Bool:=match c with
 | .one o=>cH o t
 | .span lo hi=>(match t with
  | .tuple [.str s,.tuple xs]=>(s==Str.ofString "all")&&decide ((xs.length:Int)=(hi:Int) - lo)&&xs.all fX
  | _=>false)
 | .deal cs=>(match t with
  | .tuple [.str s,.tuple xs]=>(s==Str.ofString "each")&&decide (xs.length=cs.length)&&eI cs xs
  | _=>false)
theorem Fit2.length:∀ {os:List One} {as:List An1},Fit2 os as->as.length=os.length
 | _,_,.nil=>rfl
 | _,_,.cons _ t=>by simp [t.length]
theorem rX {o:One} {a:An1} (h:An1.fits o a):cH o a.dat=true:=by
 cases o<;>cases a<;>simp [An1.fits] at h<;>simp [cH,An1.dat,fX,aG]
theorem nU:∀ {os:List One} {as:List An1},Fit2 os as->eI os (as.map An1.dat)=true
 | _,_,.nil=>rfl
 | _,_,.cons h t=>by simp [eI,rX h,nU t]
theorem yZ {c:Call} {a:Ans} (h:Ans.fits c a) (hc:c.ok):bJ c a.dat=true:=by
 cases c<;>cases a<;>simp only [Ans.fits] at h<;>first | exact h.elim | skip
 ·exact rX h
 ·rename_i lo hi ns;have:=hc.1;simp [bJ,Ans.dat,h,fX];omega
 ·rename_i cs as;simp [bJ,Ans.dat,nU h,h.length]
end SJ
namespace DL
open PySem PySem.Spec PyProof.Rows L2
section
variable {X:Cx} {a b c d e:Expr} {ta tb tc td te:DTE} {tl th:DTO} {pos:Pos}
theorem rY:PE X (.Dict [] [] pos) (fun _ H Q=>∀ p,H p=none->Q (.ref p) (upd H p (.dK []))):=by
 intro pins s σ H Q I q;refine wpAny_Dict_empty ?_;have hn:(s.heap.objs.size==sysModules)=false:=by
  have h:mainGlobals < s.heap.objs.size:=(I.mod.glob.keeps I.bk).lt;have:sysModules < s.heap.objs.size:=Nat.lt_trans (by decide) h;exact beq_eq_false_iff_ne.mpr (Nat.ne_of_gt this)
 refine ⟨.ref s.heap.objs.size,_,I.laid (t':=s.toks) (o:=.dK []) (fun b ob q=>Heap.get?_push_of_some _ q) (Nat.le_refl _) ?_,rfl,q _ (I.hok.fresh (Nat.le_refl _))⟩;exact ⟨Nat.zero_le _,hn,[],.nil,Heap.DictOf.new s.heap⟩
theorem aG9:DE X (.Dict [] [] pos) (dC (.dict [])):=aH rY fun σ H Q q=>by
 obtain ⟨δ,h,A,μ,k,R,q,c⟩:=q;intro p hp;refine c _ h _ _ A μ q (bI hp) (R.1.fresh hp) ?_;show Rep _ _ _ _ _;rw [Rep];exact ⟨p,[],rfl,⟨R.1.notA hp,.inl aR⟩,by rw [RepKs]⟩
theorem rZ {K:Frag} {A:List Addr} {H:Hp} {xs:List PyData} {vs:List V} (r:Reps K A H xs vs):∀ n:Nat,Reps K A H (List.replicate n xs).flatten (List.replicate n vs).flatten
 | 0=>.nil
 | n+1=>by
  rw [List.replicate_succ,List.replicate_succ,List.flatten_cons,List.flatten_cons];exact (rZ r n).append r
def cK6 (ta tb:DTE):DTF:=fun δ h Q=>ta δ h fun u h1=>tb δ h1 fun w h2=>match u,w with
 | .c i,.d (.int k)=>(match h2[i]? with
  | some (.l xs)=>(-(2^63)<=k/\k < 2^63/\xs.length*k.toNat<=sizeLine)/\Q (List.replicate k.toNat xs).flatten h2
  | _=>False)
 | _,_=>False
theorem bV5 (ha:DE X a ta) (hb:DE X b tb):DF X (.BinOp a .Mult b pos) (cK6 ta tb):=aH (aC6 bO6 ha hb) fun σ H Q q=>by
 obtain ⟨δ,h,A,μ,k,R,q,c⟩:=q;refine ⟨δ,h,A,μ,_,R,q,fun u h1 v H1 A1 μ1 q1 x1 R1 r1=>?_⟩;refine ⟨δ,h1,A1,μ1,_,⟨R1,R.2.ext x1 R.1.sub⟩,q1,fun w h2 v2 H2 A2 μ2 q2 x2 R2 r2=>?_⟩;split at q2
 ·rename_i i n;split at q2
  ·rename_i xs ex;obtain ⟨p,ep,rfl⟩:=r1.ext x2 R1.sub;obtain ⟨vs,hv,rr⟩:=R2.val i p xs ep ex;obtain ⟨⟨n1,n2,n3⟩,q2⟩:=q2;refine ⟨p,n,vs,rfl,bG r2,hv,n1,n2,by rw [rr.length];exact n3,fun l hl=>?_⟩;have x12:=x1.trans x2;obtain ⟨ν,e1,_⟩:=x12.pre;exact c _ _ _ _ _ _ q2 (x12.trans (bQ hl)) ⟨ν,e1⟩ (x12.back hl) (cP R2 hl (rZ rr _))
  ·exact q2.elim
 ·exact q2.elim
end
section
variable {X:Cx} {a b c d e:Expr} {ta tb tc td te:DTE} {pos:Pos}
end
section
variable {X:Cx} {a b c d e:Expr} {ta tb tc td te:DTE} {pos:Pos}
end
section
variable {X:Cx} {a b:Expr} {ta tb:DTE} {pos:Pos}
def cK7 (ta tb:DTE):DTF:=fun δ h Q=>ta δ h fun u h1=>tb δ h1 fun w h2=>match ref h2 u,ref h2 w with
 | some (.list xs),some (.list ys)=>xs.length+ys.length<=sizeLine/\Q (xs++ys) h2
 | _,_=>False
theorem aY6 (ha:DE X a ta) (hb:DE X b tb):DF X (.BinOp a .Add b pos) (cK7 ta tb):=aH (aC6 wI ha hb) fun σ H Q q=>by
 obtain ⟨δ,h,A,μ,k,R,q,c⟩:=q;refine ⟨δ,h,A,μ,_,R,q,fun u h1 v H1 A1 μ1 q1 x1 R1 r1=>?_⟩;refine ⟨δ,h1,A1,μ1,_,⟨R1,R.2.ext x1 R.1.sub⟩,q1,fun w h2 v2 H2 A2 μ2 q2 x2 R2 r2=>?_⟩;split at q2
 ·rename_i xs ys ex ey;obtain ⟨p,vs,rfl,s1,rr1⟩:=bX R2 (r1.ext x2 R1.sub) ex;obtain ⟨p',vs',rfl,s2,rr2⟩:=bX R2 r2 ey;refine ⟨p,p',vs,vs',rfl,rfl,s1,s2,by rw [rr1.length,rr2.length];exact q2.1,fun l hl=>?_⟩;have x12:=x1.trans x2;obtain ⟨ν,e1,_⟩:=x12.pre;exact c _ _ _ _ _ _ q2.2 (x12.trans (bQ hl)) ⟨ν,e1⟩ (x12.back hl) (cP R2 hl (rr2.append rr1))
 ·exact q2.elim
end
end DL
namespace L2
open PySem PySem.Spec PyProof.Rows
section
variable {prog:Program} {w:World} {A:Around} {R:Result->Shared->Prop} {I:Addr} {fp wr:List Addr} {n:Nat} {P:Nat->Value->Prop} {St:Nat->Heap->Prop}
end
section
variable {prog:Program} {w:World} {A:Around} {E:Value->Shared->Prop} {s:Shared}
end
end L2
namespace DL
open PySem PySem.Spec PyProof.Rows L2
noncomputable def pJ (kvs:List (PyData×PyData)) (k v:PyData):List (PyData×PyData) :=
 if (kvs.any fun p=>decide (aY p.1=aY k))=true then kvs.map (fun p=>if aY p.1=aY k then (p.1,v) else p) else kvs++[(k,v)]
section
variable {K:Frag} {A μ:List Addr} {H:Hp} {h:aA}
theorem repKs_cons {p:PyData×PyData} {kvs:List (PyData×PyData)} {r:List (Key×V)}:RepKs K A H (p::kvs) r ↔ ∃ q r',r=q::r'/\(aY p.1=some q.1/\Rep K A H p.2 q.2)/\RepKs K A H kvs r':=by
 obtain ⟨a,b⟩:=p;rw [RepKs];constructor
 ·rintro ⟨q,r',e,h1,h2⟩;rw [RepP] at h1;exact ⟨q,r',e,h1,h2⟩
 ·rintro ⟨q,r',e,h1,h2⟩;exact ⟨q,r',e,by rw [RepP];exact h1,h2⟩
theorem repKs_nil {r:List (Key×V)}:RepKs K A H [] r ↔ r=[]:=by rw [RepKs]
theorem nV {k:PyData} {q:Key} (hk:aY k=some q):∀ {kvs:List (PyData×PyData)} {r:List (Key×V)},RepKs K A H kvs r->(kvs.any fun p=>decide (aY p.1=aY k))=r.any fun kv=>decide (kv.1=q)
 | [],r,h=>by rw [repKs_nil.mp h];rfl
 | p::kvs,r,h=>by
  obtain ⟨q',r',rfl,⟨h1,h2⟩,h3⟩:=repKs_cons.mp h;rw [List.any_cons,List.any_cons,nV hk h3,h1,hk];simp
theorem nW:∀ {kvs more:List (PyData×PyData)} {r r2:List (Key×V)},RepKs K A H kvs r->RepKs K A H more r2->RepKs K A H (kvs++more) (r++r2)
 | [],_,r,r2,h,h2=>by rw [repKs_nil.mp h];exact h2
 | p::kvs,more,r,r2,h,h2=>by
  obtain ⟨q',r',rfl,h1,h3⟩:=repKs_cons.mp h;exact repKs_cons.mpr ⟨q',r'++r2,rfl,h1,nW h3 h2⟩
theorem lE {k:PyData} {q:Key} {x:PyData} {y:V} (hk:aY k=some q) (rx:Rep K A H x y):∀ {kvs:List (PyData×PyData)} {r:List (Key×V)},RepKs K A H kvs r ->
  RepKs K A H (kvs.map fun p=>if aY p.1=aY k then (p.1,x) else p) (r.map fun kv=>if kv.1=q then (kv.1,y) else kv)
 | [],r,h=>by rw [repKs_nil.mp h];exact repKs_nil.mpr rfl
 | p::kvs,r,h=>by
  obtain ⟨q',r',rfl,⟨h1,h2⟩,h3⟩:=repKs_cons.mp h;rw [List.map_cons,List.map_cons];refine repKs_cons.mpr ⟨_,_,rfl,?_,lE hk rx h3⟩;rw [h1,hk]
  by_cases e:q'.1=q
  ·rw [if_pos e,if_pos (by rw [e])];exact ⟨h1,rx⟩
  ·rw [if_neg e,if_neg (fun z=>e (Option.some.inj z))];exact ⟨h1,h2⟩
theorem zA {k:PyData} {q:Key} {x:PyData} {y:V} (hk:aY k=some q) (rx:Rep K A H x y) {kvs:List (PyData×PyData)} {r:List (Key×V)} (h:RepKs K A H kvs r):RepKs K A H (pJ kvs k x) (gT r q y):=by
 unfold pJ gT;rw [nV hk h];split
 ·exact lE hk rx h
 ·exact nW h (repKs_cons.mpr ⟨_,_,rfl,⟨hk,rx⟩,repKs_nil.mpr rfl⟩)
end
variable {X:Cx}
end DL
namespace PySem
open PyProof.Rows
section
variable {prog:Program} {w:World} {A:Around} {E:Value->Shared->Prop} {s:Shared}
theorem iH {it t:Addr} {i:Nat} {items:Array Value} {x:Value} {Q:Value->Shared->Prop} (hit:s.heap.IsTupleIter it t i) (hl:s.heap.IsTuple t items) (hx:items[i]?=some x)
  (hQ:∀ h',h'.IsTupleIter it t (i+1)->Heap.SameBut it s.heap h'->Q x { s with heap:=h' }):wpAny (model prog w) A (Builtin.SmallTypes.nextOf (.ref it)) Q E s:=by
 obtain ⟨o,ho,hc,hd⟩:=id hit;obtain ⟨ol,hol,hlc,nl,hdl⟩:=hl;unfold Builtin.SmallTypes.nextOf;refine wpAny_bind (wpAny_callSpecial?_slot (hit.typeIs) F.slot_tuple_iterator_next (wpAny_call_entry F.slot_tuple_iterator_next hit.typeIs F.entry_tuple_iterator_next ?_ (F.args_tuple_iterator_next_1 _)));refine wpAny_bind (wpAny_pure (a:=(Value.ref it,[])) ?_);refine wpAny_bind (wpAny_field ho hd rfl ?_);rw [if_neg (by exact Bool.false_ne_true)];refine wpAny_bind (wpAny_field ho hd rfl ?_);refine wpAny_bind (wpAny_seqItems hol hdl ?_);show wpAny _ _ (match items[((i:Int)).toNat]? with | some x=>_ | none=>_) _ _ _;rw [Int.toNat_natCast,hx];refine wpAny_bind (wpAny_setField ho hd (by simp) ?_);refine wpAny_pure ⟨x,rfl,wpAny_pure (hQ _ ⟨_,Heap.get?_update_self _ ho (Obj.isFreed_of_fields (Obj.data_mapFields hd _)),(Obj.cls_mapFields o _).trans hc,?_⟩ (Heap.SameBut.update _ _ _))⟩;rw [Obj.data_mapFields hd];rfl
theorem iW {it t:Addr} {i:Nat} {items:Array Value} {Q:Value->Shared->Prop} (hh:A.handled=none) (hit:s.heap.IsTupleIter it t i) (hl:s.heap.IsTuple t items) (hx:items[i]?=none)
  (hE:∀ h' e,Heap.ExtBut it s.heap h'->(∃ o,h'.get? e=some o/\o.cls=.type "StopIteration")->E (.ref e) { s with heap:=h' }):wpAny (model prog w) A (Builtin.SmallTypes.nextOf (.ref it)) Q E s:=by
 obtain ⟨o,ho,hc,hd⟩:=id hit;obtain ⟨ol,hol,hlc,nl,hdl⟩:=hl;unfold Builtin.SmallTypes.nextOf;refine wpAny_bind (wpAny_callSpecial?_slot (hit.typeIs) F.slot_tuple_iterator_next (wpAny_call_entry F.slot_tuple_iterator_next hit.typeIs F.entry_tuple_iterator_next ?_ (F.args_tuple_iterator_next_1 _)));refine wpAny_bind (wpAny_pure (a:=(Value.ref it,[])) ?_);refine wpAny_bind (wpAny_field ho hd rfl ?_);rw [if_neg (by exact Bool.false_ne_true)];refine wpAny_bind (wpAny_field ho hd rfl ?_);refine wpAny_bind (wpAny_seqItems hol hdl ?_);show wpAny _ _ (match items[((i:Int)).toNat]? with | some x=>_ | none=>_) _ _ _;rw [Int.toNat_natCast,hx];refine wpAny_bind (wpAny_rule ?_);refine wpAny_bind (wpAny_setField ho hd (by simp) ?_);unfold Builtin.SmallTypes.stopIteration newExc;refine wpAny_bind (wpAny_bind (wpAny_newObj_type ?_ (by show (([]:List Value).toArray.size<=sizeLine);simp)));refine wpAny_bind (wpAny_pure (a:=Value.none) ?_);refine wpAny_newObj_type ?_ (sizeOk_excFields ..);unfold raiseNew;refine wpAny_bind (wpAny_handled ?_);rw [show A.in1.handled=none from hh];refine wpAny_throw (hE _ _ (fun b o' hb e=>?_) ⟨_,Heap.get?_push_size _ rfl,rfl⟩);refine Heap.get?_push_of_some _ (Heap.get?_push_of_some _ ?_);rw [(Heap.SameBut.update s.heap it _).2 b hb];exact e
noncomputable def SqAt:Bool->Heap->Addr->Array Value->Prop
 | true,h,l,xs=>h.IsTuple l xs
 | false,h,l,xs=>h.IsList l xs
noncomputable def ItAt:Bool->Heap->Addr->Addr->Nat->Prop
 | true,h,it,l,k=>h.IsTupleIter it l k
 | false,h,it,l,k=>h.IsListIter it l k
noncomputable def iX (b:Bool) (l:Addr):Obj:={ cls:=.type (if b=true then "tuple_iterator" else "list_iterator"),data:=.fields #[.ref l,.int 0 0] }
theorem SqAt.keep {b:Bool} {h h':Heap} {l:Addr} {xs:Array Value} (x:SqAt b h l xs) (k:∀ o,h.get? l=some o->h'.get? l=some o):SqAt b h' l xs:=by
 cases b<;>exact let ⟨o,h1,h2⟩:=x;⟨o,k o h1,h2⟩
theorem ItAt.keep {b:Bool} {h h':Heap} {it l:Addr} {i:Nat} (x:ItAt b h it l i) (k:∀ o,h.get? it=some o->h'.get? it=some o):ItAt b h' it l i:=by
 cases b<;>exact let ⟨o,h1,h2⟩:=x;⟨o,k o h1,h2⟩
theorem ItAt.new {b:Bool} {h:Heap} {it l:Addr} (e:h.get? it=some (iX b l)):ItAt b h it l 0:=by
 cases b<;>exact ⟨_,e,rfl,rfl⟩
theorem eV {b:Bool} {l:Addr} {xs:Array Value} {Q:Value->Shared->Prop} (hl:SqAt b s.heap l xs) (h:Q (.ref s.heap.objs.size) { s with heap:=s.heap.push (iX b l) }):wpAny (model prog w) A (pyIter (.ref l)) Q E s:=by
 cases b
 ·exact wpAny_pyIter_list hl h
 ·exact wpAny_pyIter_tuple hl h
theorem eJ {b:Bool} {it l:Addr} {i:Nat} {items:Array Value} {x:Value} {Q:Value->Shared->Prop} (hit:ItAt b s.heap it l i) (hl:SqAt b s.heap l items) (hx:items[i]?=some x)
  (hQ:∀ h',ItAt b h' it l (i+1)->Heap.SameBut it s.heap h'->Q x { s with heap:=h' }):wpAny (model prog w) A (Builtin.SmallTypes.nextOf (.ref it)) Q E s:=by
 cases b
 ·exact wpAny_nextOf_list_item hit hl hx hQ
 ·exact iH hit hl hx hQ
theorem gX {b:Bool} {it l:Addr} {i:Nat} {items:Array Value} {Q:Value->Shared->Prop} (hh:A.handled=none) (hit:ItAt b s.heap it l i) (hl:SqAt b s.heap l items) (hx:items[i]?=none)
  (hE:∀ h' e,Heap.ExtBut it s.heap h'->(∃ o,h'.get? e=some o/\o.cls=.type "StopIteration")->E (.ref e) { s with heap:=h' }):wpAny (model prog w) A (Builtin.SmallTypes.nextOf (.ref it)) Q E s:=by
 cases b
 ·exact wpAny_nextOf_list_end hh hit hl hx hE
 ·exact iW hh hit hl hx hE
noncomputable abbrev zH1 (b:Bool) (h:Heap) (l1:Addr):Heap:=h.push (iX b l1)
noncomputable abbrev zH2 (b c:Bool) (h:Heap) (l1 l2:Addr):Heap:=(zH1 b h l1).push (iX c l2)
noncomputable abbrev zH3 (b c:Bool) (h:Heap) (l1 l2:Addr):Heap:=(zH2 b c h l1 l2).push { cls:=.type "tuple",data:=.seq #[.ref h.objs.size,.ref (zH1 b h l1).objs.size] }
noncomputable abbrev zH4 (b c:Bool) (h:Heap) (l1 l2:Addr):Heap:=(zH3 b c h l1 l2).push { cls:=.type "tuple",data:=.seq #[.none,.none] }
noncomputable abbrev zH5 (b c:Bool) (h:Heap) (l1 l2:Addr):Heap:=(zH4 b c h l1 l2).push { cls:=.type "zip",data:=.fields #[.none,.bool false,.bool false,.ref (zH2 b c h l1 l2).objs.size,.ref (zH3 b c h l1 l2).objs.size] }
theorem aY7 (b c:Bool) (l1 l2:Addr) (xs ys:Array Value):Meets (Builtin.«zip.__new__» { pos:=[.type "zip",.ref l1,.ref l2] }) fun _ R s=>SqAt b s.heap l1 xs/\SqAt c s.heap l2 ys /\
  R (.ok (.ret (.ref (zH4 b c s.heap l1 l2).objs.size))) { s with heap:=zH5 b c s.heap l1 l2 }:=by
 refine Meets.of_wp fun prog w A R s h=>?_;obtain ⟨h1,h2,h⟩:=h;unfold Builtin.«zip.__new__»;refine wpAny_bind (wpAny_pure (a:=(Value.type "zip",[Value.ref l1,Value.ref l2])) ?_);dsimp only;rw [if_neg (by decide)];refine wpAny_bind ?_;unfold Builtin.SmallTypes.iterAll;refine wpAny_bind ?_;rw [List.forIn_cons];refine wpAny_bind (wpAny_bind (wpAny_holding (eV h1 (wpAny_pure ?_))));dsimp only;rw [List.forIn_cons];refine wpAny_bind (wpAny_bind (wpAny_holding (eV (h2.keep fun o e=>Heap.get?_push_of_some _ e) (wpAny_pure ?_))));dsimp only;rw [List.forIn_nil];refine wpAny_pure (wpAny_pure ?_);refine wpAny_bind (wpAny_newObj_type ?_ (by show (_:Array Value).size<=sizeLine;simp [sizeLine_eq]));refine wpAny_bind (wpAny_newObj_type ?_ (by show (_:Array Value).size<=sizeLine;simp [sizeLine_eq]));refine wpAny_bind ?_;unfold Builtin.SmallTypes.newRecord;refine wpAny_newObj_type (wpAny_pure ⟨_,rfl,h⟩) ?_;simp [sizeOk,Builtin.SmallTypes.ownedTupleFields,sizeLine_eq]
theorem aH0 {b c:Bool} {l1 l2:Addr} {xs ys:Array Value} {Q:Value->Shared->Prop} (h1:SqAt b s.heap l1 xs) (h2:SqAt c s.heap l2 ys)
  (h:∀ h',IsZip h' (s.heap.objs.size+4) (s.heap.objs.size+2) (s.heap.objs.size+3) .none->IsPair h' (s.heap.objs.size+2) (.ref s.heap.objs.size) (.ref (s.heap.objs.size+1))->IsPair h' (s.heap.objs.size+3) .none .none ->
   ItAt b h' s.heap.objs.size l1 0->ItAt c h' (s.heap.objs.size+1) l2 0->h'.objs.size=s.heap.objs.size+5->(∀ a o,s.heap.get? a=some o->h'.get? a=some o)->Q (.ref (s.heap.objs.size+4)) { s with heap:=h' }) :
  wpAny (model prog w) A (call (.type "zip") [.ref l1,.ref l2]) Q E s:=by
 have z1:(zH1 b s.heap l1).objs.size=s.heap.objs.size+1:=Heap.size_push ..;have z2:(zH2 b c s.heap l1 l2).objs.size=s.heap.objs.size+2:=by rw [zH2,Heap.size_push,z1]
 have z3:(zH3 b c s.heap l1 l2).objs.size=s.heap.objs.size+3:=by rw [zH3,Heap.size_push,z2]
 have z4:(zH4 b c s.heap l1 l2).objs.size=s.heap.objs.size+4:=by rw [zH4,Heap.size_push,z3]
 have z5:(zH5 b c s.heap l1 l2).objs.size=s.heap.objs.size+5:=by rw [zH5,Heap.size_push,z4]
 have g5:(zH5 b c s.heap l1 l2).get? (zH4 b c s.heap l1 l2).objs.size=_:=Heap.get?_push_size _ rfl;have g4:(zH5 b c s.heap l1 l2).get? (zH3 b c s.heap l1 l2).objs.size=_:=Heap.get?_push_of_some _ (Heap.get?_push_size _ rfl);have g3:(zH5 b c s.heap l1 l2).get? (zH2 b c s.heap l1 l2).objs.size=_:=Heap.get?_push_of_some _ (Heap.get?_push_of_some _ (Heap.get?_push_size _ rfl));have g2:(zH5 b c s.heap l1 l2).get? (zH1 b s.heap l1).objs.size=_:=Heap.get?_push_of_some _ (Heap.get?_push_of_some _ (Heap.get?_push_of_some _ (Heap.get?_push_size _ rfl)));have g1:(zH5 b c s.heap l1 l2).get? s.heap.objs.size=_:=Heap.get?_push_of_some _ (Heap.get?_push_of_some _ (Heap.get?_push_of_some _ (Heap.get?_push_of_some _ (Heap.get?_push_size _ rfl))));refine callType_new F.called_zip (by decide) (F.typeCall_zip_2 _ _) (F.newCall_zip_2 _ _) (fun obj=>F.args_object_init_3 obj _ _) F.entry_zip_new (aY7 b c l1 l2 xs ys) ⟨h1,h2,?_⟩;have q:=h (zH5 b c s.heap l1 l2) (by rw [z4,z3,z2] at g5;exact g5) (by rw [z2,z1] at g3;exact g3) (by rw [z3] at g4;exact g4) (.new g1) (.new (by rw [z1] at g2;exact g2)) z5
  (fun a o e=>Heap.get?_push_of_some _ (Heap.get?_push_of_some _ (Heap.get?_push_of_some _ (Heap.get?_push_of_some _ (Heap.get?_push_of_some _ e)))))
 rw [<- z4] at q;exact ⟨⟨_,g5,rfl⟩,q⟩
theorem pK {h:Heap} {z TI TO:Addr} {f0 x:Value} (hz:IsZip h z TI TO f0):IsZip (h.update z (Obj.mapFields fun a=>a.setIfInBounds 0 x)) z TI TO x:=by
 refine (Heap.get?_update_self _ hz (Obj.isFreed_of_fields (Obj.data_mapFields rfl _))).trans ?_;rfl
theorem aH1 {h:Heap} {z TI TO:Addr} {f0:Value} (hz:IsZip h z TI TO f0):IsZip (h.update z (Obj.mapFields fun a=>a.setIfInBounds 1 (.bool false))) z TI TO f0:=by
 refine (Heap.get?_update_self _ hz (Obj.isFreed_of_fields (Obj.data_mapFields rfl _))).trans ?_;rfl
structure ZApart (z TI TO i1 i2:Addr):Prop where
 TIz:TI≠z
 TOz:TO≠z
 i1z:i1≠z
 i2z:i2≠z
 TITO:TI≠TO
 TOi1:TO≠i1
 TOi2:TO≠i2
 TIi1:TI≠i1
 TIi2:TI≠i2
 i12:i1≠i2
theorem zB {b c:Bool} {z TI TO i1 i2 l1 l2:Addr} {k:Nat} {xs ys:Array Value} {x y u v:Value} {Q:Value->Shared->Prop} (D:ZApart z TI TO i1 i2) (hz:IsZip s.heap z TI TO .none) (hTI:IsPair s.heap TI (.ref i1) (.ref i2)) (hTO:IsPair s.heap TO u v)
  (h1:ItAt b s.heap i1 l1 k) (h2:ItAt c s.heap i2 l2 k) (q1:SqAt b s.heap l1 xs) (q2:SqAt c s.heap l2 ys) (nz1:l1≠z) (nz2:l2≠z) (nT2:l2≠TO) (n21:l2≠i1) (hx:xs[k]?=some x) (hy:ys[k]?=some y)
  (hQ:∀ h',IsZip h' z TI TO (rawInt s.heap.objs.size)->IsPair h' TO x y->ItAt b h' i1 l1 (k+1)->ItAt c h' i2 l2 (k+1)->IsPair h' s.heap.objs.size x y->h'.objs.size=s.heap.objs.size+1 ->
   (∀ a o,a≠z->a≠TO->a≠i1->a≠i2->s.heap.get? a=some o->h'.get? a=some o)->Q (.ref s.heap.objs.size) { s with heap:=h' }) :
  wpAny (model prog w) A (Builtin.«zip.__next__» { pos:=[.ref z] }) (fun fin s'=>∃ v,fin=Fin.done (.ret v)/\Q v s') E s:=by
 unfold Builtin.«zip.__next__»;refine wpAny_bind (wpAny_pure (a:=(Value.ref z,[])) ?_);refine wpAny_bind (wpAny_field hz rfl rfl ?_);refine wpAny_bind (wpAny_field hz rfl rfl ?_);refine wpAny_bind (wpAny_seqItems hTI rfl ?_);dsimp only;rw [if_neg (by simp)];refine wpAny_bind ?_;unfold Builtin.SmallTypes.ownedTupleIsFree;refine wpAny_bind (wpAny_field hz rfl rfl ?_);refine wpAny_pure ?_;rw [if_pos rfl];refine wpAny_bind (wpAny_rule ?_);refine wpAny_bind (wpAny_field hz rfl rfl ?_);refine wpAny_bind (wpAny_setField hz rfl (by simp) ?_);have e1:=Heap.SameBut.update s.heap z (Obj.mapFields fun a=>a.setIfInBounds 0 Value.ellipsis);have hz1:=pK (x:=Value.ellipsis) hz;generalize s.heap.update z (Obj.mapFields fun a=>a.setIfInBounds 0 Value.ellipsis)=H1 at e1 hz1 ⊢;have h11:ItAt b H1 i1 l1 k:=h1.keep fun o e=>(e1.2 _ D.i1z).trans e;have q11:SqAt b H1 l1 xs:=q1.keep fun o e=>(e1.2 _ nz1).trans e;have hTO1:IsPair H1 TO u v:=(e1.2 _ D.TOz).trans hTO;refine wpAny_bind ?_;rw [show [Value.ref i1,Value.ref i2].zipIdx=[(Value.ref i1,0),(Value.ref i2,1)] from rfl,List.forIn_cons];refine wpAny_bind (wpAny_bind (wpAny_onRaise ?_))
 change wpAny _ _ (Builtin.SmallTypes.nextOf (Value.ref i1) >>= fun v=>pure (some v)) _ _ _
 refine wpAny_bind (eJ h11 q11 hx fun H2 h12 e2=>wpAny_pure ?_);have hz2:IsZip H2 z TI TO .ellipsis:=(e2.2 _ D.i1z.symm).trans hz1;have hTO2:IsPair H2 TO u v:=(e2.2 _ D.TOi1).trans hTO1;refine wpAny_bind (wpAny_seqItems hTO2 rfl (wpAny_bind (wpAny_updateSeq_pair hTO2 fun H3 hTO3 e3=>wpAny_bind (wpAny_letGo (wpAny_pure ?_)))));have hTO3:IsPair H3 TO x v:=hTO3;have hz3:IsZip H3 z TI TO .ellipsis:=(e3.2 _ D.TOz.symm).trans hz2;have h23:ItAt c H3 i2 l2 k:=h2.keep fun o e=>(e3.2 _ D.TOi2.symm).trans ((e2.2 _ D.i12.symm).trans ((e1.2 _ D.i2z).trans e));have q23:SqAt c H3 l2 ys:=q2.keep fun o e=>(e3.2 _ nT2).trans ((e2.2 _ n21).trans ((e1.2 _ nz2).trans e));dsimp only;rw [List.forIn_cons];refine wpAny_bind (wpAny_bind (wpAny_onRaise ?_))
 change wpAny _ _ (Builtin.SmallTypes.nextOf (Value.ref i2) >>= fun v=>pure (some v)) _ _ _
 refine wpAny_bind (eJ h23 q23 hy fun H4 h24 e4=>wpAny_pure ?_);have hz4:IsZip H4 z TI TO .ellipsis:=(e4.2 _ D.i2z.symm).trans hz3;have hTO4:IsPair H4 TO x v:=(e4.2 _ D.TOi2).trans hTO3;refine wpAny_bind (wpAny_seqItems hTO4 rfl (wpAny_bind (wpAny_updateSeq_pair hTO4 fun H5 hTO5 e5=>wpAny_bind (wpAny_letGo (wpAny_pure ?_)))));have hTO5:IsPair H5 TO x y:=hTO5;have hz5:IsZip H5 z TI TO .ellipsis:=(e5.2 _ D.TOz.symm).trans hz4;dsimp only;rw [List.forIn_nil];refine wpAny_pure ?_;refine wpAny_bind (wpAny_seqItems hTO5 rfl ?_);refine wpAny_bind (wpAny_newObj_type ?_ (by simp [sizeOk,sizeLine_eq]));have es:H5.objs.size=s.heap.objs.size:=by rw [e5.1,e4.1,e3.1,e2.1,e1.1]
 have g6:IsPair (H5.push { cls:=.type "tuple",data:=.seq #[x,y] }) H5.objs.size x y:=Heap.get?_push_size _ rfl;have k6:∀ a o,H5.get? a=some o->(H5.push { cls:=.type "tuple",data:=.seq #[x,y] }).get? a=some o:=fun a o e=>Heap.get?_push_of_some _ e;have s6:(H5.push { cls:=.type "tuple",data:=.seq #[x,y] }).objs.size=s.heap.objs.size+1:=by rw [Heap.size_push,es]
 have hz6:=k6 _ _ hz5;refine wpAny_bind ?_;unfold Builtin.SmallTypes.ownedTupleHandOut;refine wpAny_bind (wpAny_setField hz6 rfl (by simp) ?_);have hz7:=pK (x:=rawInt H5.objs.size) hz6;refine wpAny_setField hz7 rfl (by simp) ?_;have hz8:=aH1 hz7;have e7:=Heap.SameBut.update (H5.push { cls:=.type "tuple",data:=.seq #[x,y] }) z (Obj.mapFields fun a=>a.setIfInBounds 0 (rawInt H5.objs.size));have e8:=Heap.SameBut.update ((H5.push { cls:=.type "tuple",data:=.seq #[x,y] }).update z (Obj.mapFields fun a=>a.setIfInBounds 0 (rawInt H5.objs.size))) z (Obj.mapFields fun a=>a.setIfInBounds 1 (.bool false));have kk:∀ a o,a≠z->H5.get? a=some o->(((H5.push { cls:=.type "tuple",data:=.seq #[x,y] }).update z (Obj.mapFields fun a=>a.setIfInBounds 0 (rawInt H5.objs.size))).update z (Obj.mapFields fun a=>a.setIfInBounds 1 (.bool false))).get? a=some o :=
  fun a o n e=>(e8.2 a n).trans ((e7.2 a n).trans (k6 a o e))
 have nsz:H5.objs.size≠z:=fun e=>by
  have:=Heap.lt_size hz5;rw [<- e] at this;exact Nat.lt_irrefl _ this
 have g8:=(e8.2 _ nsz).trans ((e7.2 _ nsz).trans g6);have hs8:=e8.1.trans (e7.1.trans s6);have h15:ItAt b H5 i1 l1 (k+1):=h12.keep fun o e=>(e5.2 _ D.TOi1.symm).trans ((e4.2 _ D.i12).trans ((e3.2 _ D.TOi1.symm).trans e));have h25:ItAt c H5 i2 l2 (k+1):=h24.keep fun o e=>(e5.2 _ D.TOi2.symm).trans e;have q:=hQ _ (by rw [es] at hz8;rw [es];exact hz8) (kk _ _ D.TOz hTO5) (h15.keep fun o e=>kk _ _ D.i1z e) (h25.keep fun o e=>kk _ _ D.i2z e) (by rw [<- es];exact g8) hs8
  (fun a o n1 n2 n3 n4 e=>kk _ _ n1 ((e5.2 _ n2).trans ((e4.2 _ n4).trans ((e3.2 _ n2).trans ((e2.2 _ n3).trans ((e1.2 _ n1).trans e))))))
 refine wpAny_pure ⟨_,rfl,?_⟩;rw [<- es] at q;exact q
theorem aH2 {b c:Bool} {z TI TO i1 i2 l1 l2:Addr} {k:Nat} {xs ys:Array Value} {u v:Value} {Q:Fin->Shared->Prop} (hh:A.handled=none) (D:ZApart z TI TO i1 i2) (hz:IsZip s.heap z TI TO .none) (hTI:IsPair s.heap TI (.ref i1) (.ref i2)) (hTO:IsPair s.heap TO u v)
  (h1:ItAt b s.heap i1 l1 k) (h2:ItAt c s.heap i2 l2 k) (q1:SqAt b s.heap l1 xs) (q2:SqAt c s.heap l2 ys) (nz1:l1≠z) (nz2:l2≠z) (nT2:l2≠TO) (n21:l2≠i1) (hn:xs[k]?=none\/ys[k]?=none)
  (hE:∀ h' e,(∀ a o,a≠z->a≠TO->a≠i1->a≠i2->s.heap.get? a=some o->h'.get? a=some o)->(∃ o,h'.get? e=some o/\o.cls=.type "StopIteration")->E (.ref e) { s with heap:=h' }) :
  wpAny (model prog w) A (Builtin.«zip.__next__» { pos:=[.ref z] }) Q E s:=by
 unfold Builtin.«zip.__next__»;refine wpAny_bind (wpAny_pure (a:=(Value.ref z,[])) ?_);refine wpAny_bind (wpAny_field hz rfl rfl ?_);refine wpAny_bind (wpAny_field hz rfl rfl ?_);refine wpAny_bind (wpAny_seqItems hTI rfl ?_);dsimp only;rw [if_neg (by simp)];refine wpAny_bind ?_;unfold Builtin.SmallTypes.ownedTupleIsFree;refine wpAny_bind (wpAny_field hz rfl rfl ?_);refine wpAny_pure ?_;rw [if_pos rfl];refine wpAny_bind (wpAny_rule ?_);refine wpAny_bind (wpAny_field hz rfl rfl ?_);refine wpAny_bind (wpAny_setField hz rfl (by simp) ?_);have e1:=Heap.SameBut.update s.heap z (Obj.mapFields fun a=>a.setIfInBounds 0 Value.ellipsis);have hz1:=pK (x:=Value.ellipsis) hz;generalize s.heap.update z (Obj.mapFields fun a=>a.setIfInBounds 0 Value.ellipsis)=H1 at e1 hz1 ⊢;have h11:ItAt b H1 i1 l1 k:=h1.keep fun o e=>(e1.2 _ D.i1z).trans e;have q11:SqAt b H1 l1 xs:=q1.keep fun o e=>(e1.2 _ nz1).trans e;have hTO1:IsPair H1 TO u v:=(e1.2 _ D.TOz).trans hTO;have ends:∀ (H4 H5:Heap) (e:Addr),IsZip H5 z TI TO .ellipsis->(∀ a o,a≠z->a≠TO->a≠i1->a≠i2->s.heap.get? a=some o->H5.get? a=some o)->(∃ o,H5.get? e=some o/\o.cls=.type "StopIteration") ->
   wpAny (model prog w) A (setField (.ref z) 0 .none) (fun _ s''=>E (.ref e) s'') E { s with heap:=H5 }:=fun H4 H5 e hz5 kk ⟨o,ho,hc⟩=>by
  refine wpAny_setField hz5 rfl (by simp) ?_;have e6:=Heap.SameBut.update H5 z (Obj.mapFields fun a=>a.setIfInBounds 0 Value.none);refine hE _ e (fun a o n1 n2 n3 n4 g=>(e6.2 _ n1).trans (kk a o n1 n2 n3 n4 g)) ⟨o,(e6.2 _ fun z'=>?_).trans ho,hc⟩;rw [z'] at ho;have hz5:H5.get? z=_:=hz5;rw [ho] at hz5;cases hz5;simp at hc
 refine wpAny_bind ?_;rw [show [Value.ref i1,Value.ref i2].zipIdx=[(Value.ref i1,0),(Value.ref i2,1)] from rfl,List.forIn_cons];refine wpAny_bind (wpAny_bind (wpAny_onRaise ?_))
 change wpAny _ _ (Builtin.SmallTypes.nextOf (Value.ref i1) >>= fun v=>pure (some v)) _ _ _
 by_cases hx:xs[k]?=none
 ·refine wpAny_bind (gX hh h11 q11 hx fun H2 e g2 he=>ends H2 H2 e ?_ (fun a o n1 n2 n3 n4 g=>?_) he)
  ·exact g2 _ _ D.i1z.symm hz1
  ·exact g2 _ _ n3 ((e1.2 _ n1).trans g)
 obtain ⟨x,hx⟩:=Option.ne_none_iff_exists'.mp hx;have hy:ys[k]?=none:=hn.resolve_left (by rw [hx];simp);refine wpAny_bind (eJ h11 q11 hx fun H2 h12 e2=>wpAny_pure ?_);have hz2:IsZip H2 z TI TO .ellipsis:=(e2.2 _ D.i1z.symm).trans hz1;have hTO2:IsPair H2 TO u v:=(e2.2 _ D.TOi1).trans hTO1;refine wpAny_bind (wpAny_seqItems hTO2 rfl (wpAny_bind (wpAny_updateSeq_pair hTO2 fun H3 hTO3 e3=>wpAny_bind (wpAny_letGo (wpAny_pure ?_)))));have hz3:IsZip H3 z TI TO .ellipsis:=(e3.2 _ D.TOz.symm).trans hz2;have h23:ItAt c H3 i2 l2 k:=h2.keep fun o e=>(e3.2 _ D.TOi2.symm).trans ((e2.2 _ D.i12.symm).trans ((e1.2 _ D.i2z).trans e));have q23:SqAt c H3 l2 ys:=q2.keep fun o e=>(e3.2 _ nT2).trans ((e2.2 _ n21).trans ((e1.2 _ nz2).trans e));dsimp only;rw [List.forIn_cons];refine wpAny_bind (wpAny_bind (wpAny_onRaise ?_))
 change wpAny _ _ (Builtin.SmallTypes.nextOf (Value.ref i2) >>= fun v=>pure (some v)) _ _ _
 refine wpAny_bind (gX hh h23 q23 hy fun H4 e g4 he=>ends H4 H4 e ?_ (fun a o n1 n2 n3 n4 g=>?_) he)
 ·exact g4 _ _ D.i2z.symm hz3
 ·exact g4 _ _ n4 ((e3.2 _ n2).trans ((e2.2 _ n3).trans ((e1.2 _ n1).trans g)))
end
end PySem
namespace L2
open PySem PySem.Spec PyProof.Rows
section
variable {X:Cx} {pins:List (Addr×Obj)} {σ:List (Option V)} {H:Hp} {s:Shared} {h':Heap}
theorem Inv.turnedL {t':Nat} {ch:List Addr} (I:Inv X pins σ H s) (k:∀ b o,b∉ch->s.heap.get? b=some o->h'.get? b=some o) (hf:∀ b∈ch,gR X pins H b):Inv X pins σ H { s with heap:=h',toks:=t' }:=by
 have nit:∀ b u,H b=some u->b∉ch:=fun b u e z=>by rw [(hf b z).1] at e;cases e
 have hL:X.env.locals∉ch:=fun z=>(hf _ z).2.1 rfl;refine I.step (g':=s.gens) (d':=s.drawn) (ch:=ch) (fun b hb=>?_) (fun b o _ _ hc e _=>k b o hc e) (fun b o _ _ hc e _=>⟨o.slots,k b o hc e⟩) (fun _ _ _ _ n=>n)
  (fun b o hc e=>⟨o,k b o hc e⟩) (fun _ _ e=>e) (fun _ _ _ e=>e) (fun b ps e=>⟨#[],by rw [e];simp⟩) (fun m hm=>?_) (fun b u e=>?_) I.bare
 ·obtain ⟨_,f1,_,f3,f4,f5⟩:=hf b hb;exact ⟨f3,f1,f4,f5⟩
 ·obtain ⟨o,es,ep,ho,r⟩:=hm;exact ⟨o,es,ep,k _ o hL ho,r⟩
 ·refine (I.hok b u e).stay (fun c v hc q=>k c v ?_ q) (fun _ q=>q) fun _ _ q=>q;rcases hc with z | z
  ·rw [z];exact nit b u e
  ·exact nit c _ z
noncomputable def SqB (K:Frag):Bool->Hp->Addr->List V->Prop
 | true,H,a,xs=>SqT K H a xs
 | false,H,a,xs=>SqL K H a xs
theorem bI3 {a c:Addr} {u:HO} (h:Rd H a u) (f:H c=none):a≠c:=fun e=>by
 subst e;rcases h with h | ⟨o,h⟩<;>· rw [f] at h;cases h
theorem cK8 {a c:Addr} {o:Obj} (I:Inv X pins σ H s) (h:X.K.lookup a=some o) (f:gR X pins H c):a≠c:=fun e=>by
 subst e;have b:=I.ok.mod.kin a o h;rcases f.2.2.2.1 with z | z
 ·exact I.ok.noex _ _ b z
 ·exact absurd (Nat.lt_of_lt_of_le (Heap.lt_size (I.ok.bs _ _ b).1) z) (Nat.lt_irrefl _)
theorem Inv.sq_ne {b:Bool} {a c:Addr} {xs:List V} (I:Inv X pins σ H s) (h:SqB X.K b H a xs) (f:gR X pins H c):a≠c:=by
 cases b
 ·rcases h with h | ⟨o,its,n,hk,_⟩
  ·exact bI3 h f.1
  ·exact cK8 I hk f
 ·rcases h with h | ⟨o,its,n,hk,_⟩
  ·exact bI3 h f.1
  ·exact cK8 I hk f
theorem Inv.sqB {b:Bool} {a:Addr} {xs:List V} (I:Inv X pins σ H s) (h:SqB X.K b H a xs):∃ its:List Value,Vals xs its/\SqAt b s.heap a its.toArray/\xs.length<=sizeLine:=by
 cases b
 ·obtain ⟨its,rv,p,hz⟩:=I.list h;exact ⟨its,rv,p.isList,hz⟩
 ·obtain ⟨its,rv,p,hz⟩:=I.tuple h;exact ⟨its,rv,p,hz⟩
theorem Inv.sqB_inj {b:Bool} {a:Addr} {xs ys:List V} (I:Inv X pins σ H s) (h:SqB X.K b H a xs) (h':SqB X.K b H a ys):xs=ys:=by
 cases b
 ·exact I.list_inj h h'
 ·exact I.tuple_inj h h'
def Itz (K:Frag) (b c:Bool) (l1 l2:Addr):It :=
 ⟨fun i H=>∃ xs ys x y,SqB K b H l1 xs/\SqB K c H l2 ys/\xs[i]?=some x/\ys[i]?=some y,
  fun i H v H'=>∃ p x y,v=.ref p/\H p=none/\H'=upd H p (.tup [x,y])/\(∀ xs,SqB K b H l1 xs->xs[i]?=some x)/\(∀ ys,SqB K c H l2 ys->ys[i]?=some y),
  fun i H=>∃ xs ys,SqB K b H l1 xs/\SqB K c H l2 ys/\(xs.length<=i\/ys.length<=i)⟩
end
def ZSt (b c:Bool) (z TI TO i1 i2 l1 l2:Addr) (i:Nat) (h:Heap):Prop :=
 IsZip h z TI TO .none/\IsPair h TI (.ref i1) (.ref i2)/\(∃ u v,IsPair h TO u v)/\ItAt b h i1 l1 i/\ItAt c h i2 l2 i
theorem aH3 {P:Program} {w:World} {K:Frag} {elts:List Expr} {n:Nat} {pos:Pos} (b c:Bool) (z TI TO i1 i2 l1 l2:Addr) (D:ZApart z TI TO i1 i2) :
  Turn P w K (.Tuple elts n pos) (Itz K b c l1 l2) [z,TI,TO,i1,i2] z (ZSt b c z TI TO i1 i2 l1 l2) where
 mem:=by simp
 obj:=fun i h st a ha=>by
  obtain ⟨s1,s2,⟨u,v,s3⟩,s4,s5⟩:=st;have it:∀ {b:Bool} {i1 l1:Addr},ItAt b h i1 l1 i->∃ o,h.get? i1=some o/\∀ v,o.data≠.cell v:=fun {b i1 l1} q=>by
   cases b<;>· obtain ⟨o,e,_,d⟩:=q;exact ⟨o,e,fun v z=>by rw [d] at z;cases z⟩
  simp only [List.mem_cons,List.not_mem_nil,or_false] at ha;rcases ha with rfl | rfl | rfl | rfl | rfl
  ·exact ⟨_,s1,fun v z=>by cases z⟩
  ·exact ⟨_,s2,fun v z=>by cases z⟩
  ·exact ⟨_,s3,fun v z=>by cases z⟩
  ·exact it s4
  ·exact it s5
 keep:=fun i h h' st k=>by
  obtain ⟨s1,s2,⟨u,v,s3⟩,s4,s5⟩:=st;exact ⟨k z (by simp) _ s1,k TI (by simp) _ s2,⟨u,v,k TO (by simp) _ s3⟩,s4.keep fun o e=>k i1 (by simp) o e,s5.keep fun o e=>k i2 (by simp) o e⟩
 item:=by
  intro X hP hw hK hc i pins s σ H E I hf st hg;subst hP hw hK;obtain ⟨xs,ys,x,y,hq1,hq2,hx,hy⟩:=hg;obtain ⟨s1,s2,⟨u,v,s3⟩,s4,s5⟩:=st;obtain ⟨its1,rv1,p1,hz1⟩:=I.sqB hq1;obtain ⟨its2,rv2,p2,hz2⟩:=I.sqB hq2;obtain ⟨u1,hu1,ru1⟩:=rv1.get hx;obtain ⟨u2,hu2,ru2⟩:=rv2.get hy;have hT:s.TypeIs (.ref z) "zip":=⟨_,s1,rfl⟩;have fz:=hf z (by simp);have fTO:=hf TO (by simp);have fi1:=hf i1 (by simp);refine wpAny_bind (wpAny_attempt (wpAny_callSpecial?_slot hT F.slot_zip_next (wpAny_call_entry F.slot_zip_next hT F.entry_zip_next
   (zB D s1 s2 s3 s4 s5 p1 p2 (I.sq_ne hq1 fz) (I.sq_ne hq2 fz) (I.sq_ne hq2 fTO) (I.sq_ne hq2 fi1) (x:=u1) (y:=u2) (by simpa using hu1) (by simpa using hu2)
    fun h' a1 a2 a3 a4 a5 a6 a7=>wpAny_pure ?_) (F.args_zip_next_1 _))))
  refine ⟨_,rfl,wpAny_letOwnedTupleGo_zip (s:={ s with heap:=h' }) a1 fun h'' b1 b2=>?_⟩;have nz:∀ {a o},s.heap.get? a=some o->a≠s.heap.objs.size:=fun e z=>by
   have:=Heap.lt_size e;rw [z] at this;exact Nat.lt_irrefl _ this
  have I1:Inv X pins σ (upd H s.heap.objs.size (.tup [x,y])) { s with heap:=s.heap.push { cls:=.type "tuple",data:=.seq #[u1,u2] } } :=
   I.laid (t':=s.toks) (fun b o e=>Heap.get?_push_of_some _ e) (Nat.le_refl _) (show ObjOk X.prog X.w _ _ _ (.tup [x,y]) from ⟨by simp [sizeLine_eq],[u1,u2],.cons ru1 (.cons ru2 .nil),IsTupD.new _ _⟩)
  have obj:∀ a∈[z,TI,TO,i1,i2],∃ o,s.heap.get? a=some o:=fun a ha=>by
   have it:∀ {b:Bool} {i1 l1:Addr},ItAt b s.heap i1 l1 i->∃ o,s.heap.get? i1=some o:=fun {b i1 l1} q=>by
    cases b<;>· obtain ⟨o,e,_,d⟩:=q;exact ⟨o,e⟩
   simp only [List.mem_cons,List.not_mem_nil,or_false] at ha;rcases ha with rfl | rfl | rfl | rfl | rfl
   ·exact ⟨_,s1⟩
   ·exact ⟨_,s2⟩
   ·exact ⟨_,s3⟩
   ·exact it s4
   ·exact it s5
  have un:∀ a∈[z,TI,TO,i1,i2],upd H s.heap.objs.size (.tup [x,y]) a=none:=fun a ha=>by
   obtain ⟨o,e⟩:=obj a ha;rw [aJ (nz e)];exact (hf a ha).1
  have hf1:∀ a∈[z,TI,TO,i1,i2],gR X pins (upd H s.heap.objs.size (.tup [x,y])) a:=fun a ha=>⟨un a ha,(hf a ha).2⟩;have zs:s.heap.objs.size≠z:=fun e=>nz s1 e.symm;have I2:Inv X pins σ (upd H s.heap.objs.size (.tup [x,y])) { s with heap:=h'' }:=Inv.turnedL (s:={ s with heap:=s.heap.push { cls:=.type "tuple",data:=.seq #[u1,u2] } }) I1 (t':=s.toks) (ch:=[z,TI,TO,i1,i2]) (fun a o ha e=>by
   simp only [List.mem_cons,List.not_mem_nil,or_false,not_or] at ha;obtain ⟨n1,n2,n3,n4,n5⟩:=ha;refine (b2.2 a n1).trans ?_
   by_cases hs:a=s.heap.objs.size
   ·subst hs;have e':(s.heap.push { cls:=.type "tuple",data:=.seq #[u1,u2] }).get? s.heap.objs.size=some o:=e;rw [Heap.get?_push_size _ rfl] at e';cases e';exact a5
   ·have e':(s.heap.push { cls:=.type "tuple",data:=.seq #[u1,u2] }).get? a=some o:=e;rw [Heap.get?_push_ne _ _ _ hs] at e';exact a7 a o n1 n3 n4 n5 e') hf1
  refine ⟨.ref s.heap.objs.size,_,I2,rfl,⟨_,x,y,rfl,I.hok.fresh (Nat.le_refl _),rfl,fun zs hz=>?_,fun zs hz=>?_⟩,⟨b1,?_,⟨u1,u2,?_⟩,?_,?_⟩,un⟩
  ·rw [I.sqB_inj hz hq1];exact hx
  ·rw [I.sqB_inj hz hq2];exact hy
  ·exact (b2.2 _ D.TIz).trans (a7 _ _ D.TIz D.TITO D.TIi1 D.TIi2 s2)
  ·exact (b2.2 _ D.TOz).trans a2
  ·exact a3.keep fun o e=>(b2.2 _ D.i1z).trans e
  ·exact a4.keep fun o e=>(b2.2 _ D.i2z).trans e
 done:=by
  intro X hP hw hK hc i pins s σ H E I hf st hg;subst hP hw hK;obtain ⟨xs,ys,hq1,hq2,hl⟩:=hg;obtain ⟨s1,s2,⟨u,v,s3⟩,s4,s5⟩:=st;obtain ⟨its1,rv1,p1,hz1⟩:=I.sqB hq1;obtain ⟨its2,rv2,p2,hz2⟩:=I.sqB hq2;have l1:=rv1.length;have l2:=rv2.length;have hT:s.TypeIs (.ref z) "zip":=⟨_,s1,rfl⟩;have fz:=hf z (by simp);have fTO:=hf TO (by simp);have fi1:=hf i1 (by simp);refine wpAny_bind (wpAny_attempt (wpAny_callSpecial?_slot hT F.slot_zip_next (wpAny_call_entry F.slot_zip_next hT F.entry_zip_next
   (aH2 (I.ok.hd hc) D s1 s2 s3 s4 s5 p1 p2 (I.sq_ne hq1 fz) (I.sq_ne hq2 fz) (I.sq_ne hq2 fTO) (I.sq_ne hq2 fi1) (by simp;omega)
    fun h' e kk ⟨o,ho,hc⟩=>wpAny_bind (wpAny_isInstance ⟨o,ho,hc⟩ isSubtype_stop (wpAny_pure ⟨rfl,?_⟩))) (F.args_zip_next_1 _))))
  exact I.turnedL (t':=s.toks) (ch:=[z,TI,TO,i1,i2]) (fun a o ha e=>by
   simp only [List.mem_cons,List.not_mem_nil,or_false,not_or] at ha;exact kk a o ha.1 ha.2.2.1 ha.2.2.2.1 ha.2.2.2.2 e) hf
 self:=fun _ _ _ _ _ st h=>wpAny_pyIter_zip st.1 h
section
variable {X:Cx} {elts:List Expr} {n:Nat} {tpos:Pos}
def dB8 (K:Frag) (ta:TA):TI:=fun σ H R=>ta σ H fun vs H1=>∃ p q b c xs ys,vs=[.ref p,.ref q]/\SqB K b H1 p xs/\SqB K c H1 q ys/\(xs.length<=sizeLine->R (Itz K b c p q) H1)
theorem bV6 {a b:Expr} {ta:TA} {p pos:Pos} (hg:Gl X "zip") (hm:X.mg "zip"=none) (ha:PA X [a,b] ta) (hs:starEach [a,b] X.env=[(false,eval a X.env),(false,eval b X.env)]:=by rfl) (hs2:starEach [b] X.env=[(false,eval b X.env)]:=by rfl) :
  PI X (.Tuple elts n tpos) (.Call (.Name "zip" p) [a,b] [] pos) (dB8 X.K ta):=by
 intro pins s σ H R I h;refine Call_ (dP I hg hm rfl (PyProof.Rows.callWith_type1 (thn (ha pos pins s σ H _ I h) fun us s1 ⟨vs,H1,I1,r1,q1⟩=>?_) (by rw [hs,hs2]) (by rw [hs2];rfl)));obtain ⟨l1,l2,b,c,xs,ys,e,hq1,hq2,q⟩:=q1;subst e;cases r1 with
 | cons r rr =>
  cases rr with
  | cons r' rr =>
   cases rr;cases r;cases r';obtain ⟨its1,rv1,p1,hz1⟩:=I1.sqB hq1;obtain ⟨its2,rv2,p2,hz2⟩:=I1.sqB hq2;refine aH0 p1 p2 fun h' a1 a2 a3 a4 a5 a6 a7=>?_;have hN:∀ k,s1.heap.objs.size<=s1.heap.objs.size+k:=fun k=>Nat.le_add_right _ _;have D:ZApart (s1.heap.objs.size+4) (s1.heap.objs.size+2) (s1.heap.objs.size+3) s1.heap.objs.size (s1.heap.objs.size+1):=by
    constructor<;>(intro e;exact absurd e (by simp [Addr]<;>omega))
   have I2:Inv X pins σ H1 { s1 with heap:=h' }:=I1.kept (t':=s1.toks) a7;refine wpAny_pyIter_zip a1 ⟨_,_,_,_,H1,rfl,I2,aH3 b c _ _ _ _ _ l1 l2 D,⟨a1,a2,⟨_,_,a3⟩,a4,a5⟩,fun x hx=>?_,q hz1⟩;have hx':s1.heap.objs.size<=x:=by
    simp only [List.mem_cons,List.not_mem_nil,or_false] at hx;rcases hx with rfl | rfl | rfl | rfl | rfl<;>simp
   obtain ⟨f0,f1,f2,f3,f4,f5⟩:=I1.fpOk (H':=H1) hx' (I1.hok.fresh hx');exact ⟨f0,f1,f2,f3,f4,f5⟩
end
end L2
namespace DL
open PySem PySem.Spec PyProof.Rows L2
section
variable {X:Cx} {elts:List Expr} {n:Nat} {tpos:Pos}
noncomputable def fZ:W->Option (List PyData)
 | .d (.list xs)=>some xs
 | .d (.tuple xs)=>some xs
 | _=>none
noncomputable def lF (xs ys:List PyData):List PyData:=List.zipWith (fun x y=>.tuple [x,y]) xs ys
def dB9 (t:DTA):DTI:=fun δ h Q=>t δ h fun ws h1=>∃ u w xs ys,ws=[u,w]/\fZ u=some xs/\fZ w=some ys/\Q (lF xs ys) none h1
noncomputable def aY8:W->Bool
 | .d (.tuple _)=>true
 | _=>false
theorem gJ {K:Frag} {A μ:List Addr} {H:Hp} {u:W} {v:V} {xs:List PyData} (e:fZ u=some xs) (r:RepW K A μ H u v):∃ p vs,v=.ref p/\SqB K (aY8 u) H p vs/\Reps K A H xs vs:=by
 unfold fZ at e;split at e
 ·cases e;have z:Rep K A H (.list xs) v:=r;rw [Rep] at z;obtain ⟨p,vs,rfl,la,rr⟩:=z;exact ⟨p,vs,rfl,la.sq,rr⟩
 ·cases e;obtain ⟨p,vs,rfl,ta,rr⟩:=bF (h:=[]) r rfl;exact ⟨p,vs,rfl,ta.sq,rr⟩
 ·cases e
theorem bV7 {K:Frag} {A μ:List Addr} {H:Hp} {h:aA} {u w:W} {p q:Addr} {xs ys:List PyData} (R:HeapRep K A μ h H) (e1:fZ u=some xs) (e2:fZ w=some ys) (r1:RepW K A μ H u (.ref p)) (r2:RepW K A μ H w (.ref q)) :
  aV6 K A μ H (Itz K (aY8 u) (aY8 w) p q) (lF xs ys) none:=fun A' μ' H' h' y R' _=>by
 obtain ⟨p',vs,ep,sq1,rr1⟩:=gJ e1 (r1.ext y R.sub);obtain ⟨q',ws,eq,sq2,rr2⟩:=gJ e2 (r2.ext y R.sub);cases ep;cases eq;have l1:=rr1.length;have l2:=rr2.length;refine ⟨fun i z ez=>?_,fun i hi=>⟨vs,ws,sq1,sq2,?_⟩⟩
 ·unfold lF at ez;rw [List.getElem?_zipWith] at ez;have:∃ x y,xs[i]?=some x/\ys[i]?=some y/\z=.tuple [x,y]:=by
   cases h1:xs[i]?<;>cases h2:ys[i]?<;>rw [h1,h2] at ez<;>cases ez;exact ⟨_,_,rfl,rfl,rfl⟩
  obtain ⟨x,y,ex,ey,rfl⟩:=this;obtain ⟨vx,hvx,rx⟩:=rr1.get ex;obtain ⟨vy,hvy,ry⟩:=rr2.get ey;refine ⟨⟨vs,ws,vx,vy,sq1,sq2,hvx,hvy⟩,fun v H2 hy=>?_⟩;obtain ⟨a,x',y',rfl,ha,rfl,g1,g2⟩:=hy;have c1:=g1 vs sq1;have c2:=g2 ws sq2;rw [hvx] at c1;rw [hvy] at c2;cases c1;cases c2;refine ⟨bI ha,R'.fresh ha,dJ R' ha ?_⟩;rw [Reps];exact ⟨_,_,rfl,rx,.one ry⟩
 ·unfold lF at hi;rw [List.length_zipWith] at hi;omega
theorem bV8 {a b:Expr} {t:DTA} {p pos:Pos} (hm:X.mg "zip"=none) (ha:DA X [a,b] t) (hg:Gl X "zip") (hs:starEach [a,b] X.env=[(false,eval a X.env),(false,eval b X.env)]) (hs2:starEach [b] X.env=[(false,eval b X.env)]) :
  DI X (.Tuple elts n tpos) (.Call (.Name "zip" p) [a,b] [] pos) (dB9 t) :=
 gF (bV6 hg hm ha hs hs2) fun σ H R q=>by
  obtain ⟨δ,h,A,μ,k,Rr,q,c⟩:=q;refine ⟨δ,h,A,μ,_,Rr,q,fun ws h1 vs H1 A1 μ1 q1 x1 R1 r1=>?_⟩;obtain ⟨u,w,xs,ys,rfl,e1,e2,q1⟩:=q1;obtain ⟨v,r,rfl,rv,r2⟩:=r1;obtain ⟨v',rfl,rv'⟩:=cR r2;obtain ⟨p,vs,rfl,sq1,rr1⟩:=gJ e1 rv;obtain ⟨q,ws,rfl,sq2,rr2⟩:=gJ e2 rv';refine ⟨p,q,_,_,vs,ws,rfl,sq1,sq2,fun hz=>c _ _ h1 _ H1 A1 μ1 q1 x1 R1 ?_ trivial (bV7 R1 e1 e2 rv rv')⟩;unfold lF;rw [List.length_zipWith];have l1:=rr1.length;omega
end
end DL
namespace ST
open PySem PySem.Spec PyProof.Rows
def Ris (xs:Array Nat):Prop:=xs.toList.Pairwise (· < ·)
theorem Ris.lt {xs:Array Nat} (h:Ris xs) {i k:Nat} {a b:Nat} (hik:i < k) (ha:xs[i]?=some a) (hb:xs[k]?=some b):a < b:=by
 unfold Ris at h;rw [List.pairwise_iff_getElem] at h;rw [Array.getElem?_eq_some_iff] at ha hb;obtain ⟨h1,rfl⟩:=ha;obtain ⟨h2,rfl⟩:=hb;exact h i k (by simpa using h1) (by simpa using h2) hik
theorem pL {xs:Array Nat} {j:Nat} (hx:Ris xs):∀ (fuel lo hi:Nat),hi - lo<=fuel->lo<=hi->hi<=xs.size->(∀ i a,i < lo->xs[i]?=some a->a < j)->(∀ i a,hi<=i->xs[i]?=some a->j<=a) ->
  (∀ i a,i < SetTable.below.go xs j fuel lo hi->xs[i]?=some a->a < j)/\(∀ i a,SetTable.below.go xs j fuel lo hi<=i->xs[i]?=some a->j<=a)/\SetTable.below.go xs j fuel lo hi<=xs.size
 | 0,lo,hi,h1,h2,h3,h4,h5=>by
  have:lo=hi:=by omega
  subst this;exact ⟨h4,h5,h3⟩
 | fuel+1,lo,hi,h1,h2,h3,h4,h5=>by
  unfold SetTable.below.go;split
  ·rename_i hlt;have hm:(lo+hi) / 2 < xs.size:=by omega
   have em:xs[(lo+hi) / 2]?=some xs[(lo+hi) / 2]:=Array.getElem?_eq_getElem hm;have eg:xs.getD ((lo+hi) / 2) j=xs[(lo+hi) / 2]:=by simp [Array.getD,hm]
   dsimp only;rw [eg];split
   ·rename_i hj;refine pL hx fuel _ _ (by omega) (by omega) h3 (fun i a hi' ha=>?_) h5
    by_cases e:i=(lo+hi) / 2
    ·subst e;rw [em] at ha;cases ha;exact hj
    ·exact Nat.lt_trans (hx.lt (by omega) ha em) hj
   ·rename_i hj;refine pL hx fuel _ _ (by omega) (by omega) (by omega) h4 (fun i a hi' ha=>?_)
    by_cases e:i=(lo+hi) / 2
    ·subst e;rw [em] at ha;cases ha;omega
    ·have:=hx.lt (show (lo+hi) / 2 < i by omega) em ha;omega
  ·have:lo=hi:=by omega
   subst this;exact ⟨h4,h5,h3⟩
theorem uK {xs:Array Nat} (hx:Ris xs) (j:Nat):(∀ i a,i < SetTable.below xs j->xs[i]?=some a->a < j)/\(∀ i a,SetTable.below xs j<=i->xs[i]?=some a->j<=a)/\SetTable.below xs j<=xs.size :=
 pL hx xs.size 0 xs.size (by omega) (by omega) (Nat.le_refl _) (fun i a h=>by omega) (fun i a h e=>by
  rw [Array.getElem?_eq_none (by omega)] at e;cases e)
theorem uL {xs:Array Nat} (hx:Ris xs) {j:Nat} (hj:xs[SetTable.below xs j]?≠some j):Ris (SetTable.insertAt xs (SetTable.below xs j) j):=by
 obtain ⟨h1,h2,h3⟩:=uK hx j;have e:(SetTable.insertAt xs (SetTable.below xs j) j).toList=xs.toList.take (SetTable.below xs j)++j::xs.toList.drop (SetTable.below xs j):=by
  simp [SetTable.insertAt,Array.toList_extract,List.extract_eq_take_drop,List.take_of_length_le]
 unfold Ris at hx ⊢;rw [e,List.pairwise_append,List.pairwise_cons];have mt:∀ a∈xs.toList.take (SetTable.below xs j),a < j:=fun a ha=>by
  obtain ⟨i,hi,ea⟩:=List.mem_iff_getElem.mp ha;rw [List.getElem_take] at ea;rw [List.length_take] at hi;refine h1 i a (by omega) ?_;rw [<- ea];exact Array.getElem?_eq_getElem (by simp at hi;omega)
 have md:∀ b∈xs.toList.drop (SetTable.below xs j),j < b:=fun b hb=>by
  obtain ⟨i,hi,eb⟩:=List.mem_iff_getElem.mp hb;rw [List.getElem_drop] at eb;rw [List.length_drop] at hi;have hlt:SetTable.below xs j+i < xs.size:=by simp at hi;omega
  have eg:xs[SetTable.below xs j+i]?=some b:=by rw [<- eb];exact Array.getElem?_eq_getElem hlt
  have q:=h2 _ b (by omega) eg;rcases Nat.lt_or_eq_of_le q with q | q
  ·exact q
  ·subst q;cases i with
   | zero=>exact absurd eg hj
   | succ i =>
    have e0:xs[SetTable.below xs j]?=some xs[SetTable.below xs j]:=Array.getElem?_eq_getElem (by omega);have:=Ris.lt hx (show SetTable.below xs j < SetTable.below xs j+(i+1) by omega) e0 eg;have q0:=h2 _ _ (Nat.le_refl _) e0;omega
 refine ⟨hx.sublist (List.take_sublist _ _),⟨md,hx.sublist (List.drop_sublist _ _)⟩,fun a ha b hb=>?_⟩;rcases List.mem_cons.mp hb with rfl | hb
 ·exact mt a ha
 ·exact Nat.lt_trans (mt a ha) (md b hb)
theorem zC (n:Nat):Ris (Array.range n):=by
 unfold Ris;rw [Array.toList_range];exact List.pairwise_lt_range
def free (t:SetTable) (j:Nat):Prop:=t.place[SetTable.below t.place j]?≠some j
theorem nX {t:SetTable} {j:Nat} (h:∀ i,t.slot j≠.live i):free t j:=by
 intro e;unfold SetTable.slot at h;dsimp only at h;rw [e] at h;simp at h
theorem gY {t:SetTable} {f:Nat->Int} {h:Int}:∀ (fuel:Nat) (p:SetTable.Probe),(∀ d,p.dummy=some d->free t d)->∀ j d,SetTable.probe.go t f h fuel p=some (.empty j d)->free t j/\∀ d',d=some d'->free t d'
 | 0,p,hp,j,d,e=>by simp [SetTable.probe.go] at e
 | fuel+1,p,hp,j,d,e=>by
  unfold SetTable.probe.go at e;split at e
  ·rename_i es;cases e;exact ⟨nX (fun i z=>by rw [es] at z;cases z),hp⟩
  ·rename_i es;refine gY fuel _ (fun d' ed=>?_) j d e;have:(t.advance { p with dummy:=some p.j }).dummy=some p.j:=by
    unfold SetTable.advance;split<;>rfl
   rw [this] at ed;cases ed;exact nX fun i z=>by rw [es] at z;cases z
  ·split at e
   ·cases e
   ·refine gY fuel _ (fun d' ed=>hp d' ?_) j d e;have:(t.advance p).dummy=p.dummy:=by
     unfold SetTable.advance;split<;>rfl
    rw [<- this];exact ed
theorem mO {t:SetTable} {h:Int} {j:Nat} {b:Bool} (e:t.freeSlot h=some (j,b)):free t j:=by
 unfold SetTable.freeSlot at e;split at e
 ·rename_i j' d ep;cases e;obtain ⟨f1,f2⟩:=gY _ _ (fun d ed=>by simp [SetTable.probeStart] at ed) _ _ ep;cases d with
  | none=>exact f1
  | some d=>exact f2 d rfl
 ·cases e
def aT (by_:Bool) (t:SetTable):Prop:=Ris t.place/\(by_=false->t.led=true)
theorem dG {by_:Bool} {t:SetTable} (h:aT by_ t) (n:Nat):aT by_ (t.standIn n):=⟨zC n,h.2⟩
theorem sA {by_:Bool} {t:SetTable} {es:Array (Int×Value)} {h:Int} {x:Value} (g:aT by_ t):aT by_ (layNew t es h x).2.1:=by
 unfold layNew;split
 ·rename_i slot wd e;dsimp only;have gp:aT by_ (t.put slot).1:=⟨uL g.1 (mO e),g.2⟩;unfold SetTable.orStandIn;split
  ·exact gp
  ·exact dG gp _
 ·exact dG g _
theorem aH4 {owner:Array (Option Nat)} (n:Nat):(((List.range n).filterMap fun j=>(owner.getD j none).map (j,·)).map (·.1)).Pairwise (· < ·):=by
 rw [List.pairwise_map];refine List.Pairwise.filterMap (R:=(· < ·)) _ (fun a a' hlt b hb b' hb'=>?_) (List.pairwise_lt_range (n:=n));obtain ⟨_,_,rfl⟩:=Option.map_eq_some_iff.mp hb;obtain ⟨_,_,rfl⟩:=Option.map_eq_some_iff.mp hb';exact hlt
theorem uM {by_:Bool} {t:SetTable} {es:Array (Int×Value)} {n:Nat} (g:aT by_ t):aT by_ (relayAll t es n).2.1:=by
 unfold relayAll;split
 ·rename_i t' order e;dsimp only;split
  ·unfold SetTable.relaid SetTable.laid at e;dsimp only at e;obtain ⟨owner,_,e2⟩:=Option.bind_eq_some_iff.mp e;cases e2;refine ⟨?_,g.2⟩;unfold Ris;exact aH4 _
  ·exact dG g _
 ·exact dG g _
noncomputable def aH5:Value->Int
 | .int k _=>k
 | _=>0
section
variable {prog:Program} {w:World} {A:Around} {E:Value->Shared->Prop} {s:Shared}
abbrev txt (w:World):Bool:=w.params.followText "set-order"
structure Parts (prog:Program) (w:World) (o:Obj) (es:Array (Int×Value)) (ep:Nat) (t:SetTable) (ks:List Int):Prop where
 ex:o.ExactSet
 dat:o.data=.set es ep t
 el:ElemsOf (intKind prog w) es.toList
 ks:(es.toList.map fun e=>aH5 e.2).Perm ks
 few:es.size < scanBound
 fit:t.fits es.size=true
 good:aT (txt w) t
def SetI (prog:Program) (w:World) (h:Heap) (a:Addr) (ks:List Int):Prop:=∃ o es ep t,h.get? a=some o/\Parts prog w o es ep t ks
theorem SetI.keep {h h':Heap} {a:Addr} {ks:List Int} (x:SetI prog w h a ks) (e:∀ o,h.get? a=some o->h'.get? a=some o):SetI prog w h' a ks :=
 let ⟨o,es,ep,t,ho,p⟩:=x;⟨o,es,ep,t,e o ho,p⟩
theorem uN {k:Int} {v:Value} (h:(intKind prog w).is k v=true):∃ t,v=.int k t:=Value.isInt_shape h
theorem aH6 {es:List (Int×Value)} (h:ElemsOf (intKind prog w) es) {e:Int×Value} (he:e∈es):∃ t,e.2=.int (aH5 e.2) t:=by
 obtain ⟨⟨k,hk,_⟩,_⟩:=h e he;obtain ⟨t,q⟩:=uN hk;exact ⟨t,by rw [q];rfl⟩
theorem zD {es:List (Int×Value)} (h:ElemsOf (intKind prog w) es) {k:Int} (hf:es.findIdx? (fun e=>(intKind prog w).is k e.2)=none):k∉es.map fun e=>aH5 e.2:=by
 intro z;obtain ⟨e,he,q⟩:=List.mem_map.mp z;obtain ⟨t,e2⟩:=aH6 h he;have:=List.findIdx?_eq_none_iff.mp hf e he;rw [e2,q] at this;rw [intKind_is] at this;cases this
theorem zE {es:List (Int×Value)} {k:Int} {j:Nat} (hf:es.findIdx? (fun e=>(intKind prog w).is k e.2)=some j):k∈es.map fun e=>aH5 e.2:=by
 obtain ⟨hj,hp,_⟩:=List.findIdx?_eq_some_iff_getElem.mp hf;obtain ⟨t,q⟩:=uN hp;exact List.mem_map.mpr ⟨es[j],List.getElem_mem hj,by rw [q];rfl⟩
theorem jQ {a:Addr} {o:Obj} {es es':Array (Int×Value)} {ep:Nat} {t t':SetTable} {ks':List Int} {h:Heap} (ho:h.get? a=some o) (hd:o.data=.set es ep t) (hx:o.ExactSet)
  (p:Parts prog w { o with data:=.set es' (ep+1) t' } es' (ep+1) t' ks'):(h.update a (Obj.putSet es' t')).get? a=some { o with data:=.set es' (ep+1) t' } :=
 (SetOf_store (knd:=intKind prog w) (S':=fun k=>decide (k∈es'.toList.map fun e=>aH5 e.2)) ho hx hd p.el (fun k=>by
  rw [decide_eq_true_eq,List.mem_map];constructor
  ·rintro ⟨e,he,rfl⟩;obtain ⟨q,e2⟩:=aH6 p.el he;exact ⟨e,he,by rw [e2];exact intKind_is _ _ _ _⟩
  ·rintro ⟨e,he,q⟩;obtain ⟨tk,e2⟩:=uN q;exact ⟨e,he,by rw [e2];rfl⟩) p.few p.fit).1
theorem wK {g:Bool->Sem Unit} (hg:∀ (b:Bool) (s₁:Shared) (Q':Unit->Shared->Prop),Q' () s₁->wpAny (model prog w) A (g b) Q' E s₁) {a:Addr} {o:Obj} {es es1:Array (Int×Value)} {ep:Nat} {t t2:SetTable} {ks':List Int}
  (ho:s.heap.get? a=some o) (hd:o.data=.set es ep t) (hx:o.ExactSet) (p:Parts prog w { o with data:=.set es1 (ep+1) t2 } es1 (ep+1) t2 ks') {wd:Bool} {R:Option Bool->Shared->Prop}
  (h:∀ h',Heap.SameBut a s.heap h'->SetI prog w h' a ks'->R (some true) { s with heap:=h' }) :
  wpAny (model prog w) A (do
   storeSet a es1 t2
   if (!wd&&t2.tooFull)=true then do
    g (relayAll t2 es1 (SetTable.grown es1.size)).2.2
    storeSet a (relayAll t2 es1 (SetTable.grown es1.size)).1 (relayAll t2 es1 (SetTable.grown es1.size)).2.1
    pure (some true)
   else pure (some true)) R E s:=by
 refine wpAny_bind (wpAny_storeSet_of ho hd ?_ (fits_of_scanBound p.few));have ho1:=jQ ho hd hx p;have sb1:=Heap.SameBut.update s.heap a (Obj.putSet es1 t2);split
 ·have hp:=relayAll_perm t2 es1 (SetTable.grown es1.size);have hf:=relayAll_fits t2 es1 (SetTable.grown es1.size);have hgd:=uM (es:=es1) (n:=SetTable.grown es1.size) p.good;have hz:(relayAll t2 es1 (SetTable.grown es1.size)).1.size=es1.size:=by simpa using hp.length_eq
  have p2:Parts prog w { o with data:=.set (relayAll t2 es1 (SetTable.grown es1.size)).1 (ep+1+1) (relayAll t2 es1 (SetTable.grown es1.size)).2.1 } (relayAll t2 es1 (SetTable.grown es1.size)).1 (ep+1+1) (relayAll t2 es1 (SetTable.grown es1.size)).2.1 ks' :=
   ⟨hx,rfl,p.el.perm hp,(hp.map _).trans p.ks,by rw [hz];exact p.few,hf,hgd⟩
  refine wpAny_bind (hg _ _ _ (wpAny_bind (wpAny_storeSet_of ho1 rfl (wpAny_pure (h _ (sb1.trans (Heap.SameBut.update _ a _)) ⟨_,_,_,_,jQ ho1 rfl hx p2,p2⟩)) (fits_of_scanBound p2.few))))
 ·exact wpAny_pure (h _ sb1 ⟨_,_,_,_,ho1,p⟩)
theorem wL {ks:List Int} {k:Int}:(ks.any (·==k))=decide (k∈ks):=by
 rw [Bool.eq_iff_iff,List.any_eq_true,decide_eq_true_eq];constructor
 ·rintro ⟨x,hx,e⟩;rw [<- eq_of_beq e];exact hx
 ·exact fun hx=>⟨k,hx,beq_self_eq_true k⟩
theorem bV9 {ks:List Int} {k:Int} (h:k∈ks):step_dedup ks k=ks:=by unfold step_dedup;rw [wL,if_pos (decide_eq_true h)]
theorem bW0 {ks:List Int} {k:Int} (h:k∉ks):step_dedup ks k=ks++[k]:=by unfold step_dedup;rw [wL,if_neg (by rw [decide_eq_true_eq];exact h)]
theorem add_int {a:Addr} {ks:List Int} {k:Int} {tk:Tok} {Q:Bool->Shared->Prop} (hS:SetI prog w s.heap a ks) (room:ks.length+1 < scanBound)
  (h:∀ b h',Heap.SameBut a s.heap h'->SetI prog w h' a (step_dedup ks k)->Q b { s with heap:=h' }):wpAny (model prog w) A (setAddHashed a (.int k tk) ((intKind prog w).hash k)) Q E s:=by
 obtain ⟨o,es,ep,t,ho,p⟩:=hS;have hk:(intKind prog w).is k (.int k tk)=true:=intKind_is _ _ _ _;have hsz:es.size=ks.length:=by have:=p.ks.length_eq;simpa using this
 unfold setAddHashed setAddHashedIn;refine wpAny_holding (wpAny_bind (wpAny_setState_of ho p.dat p.fit ?_));dsimp only;rw [byScan_of (x:=.int k tk) rfl p.few p.el];simp only [if_true];unfold setAddByScan;refine wpAny_bind (wpAny_bind (wpAny_rule (wpAny_bind (wpAny_setScan_of hk ho p.dat p.fit p.el ?_))));cases hr:List.findIdx? (fun e=>(intKind prog w).is k e.2) es.toList with
 | some j =>
  have hm:k∈ks:=p.ks.mem_iff.mp (zE hr);refine wpAny_pure (wpAny_pure ?_);have q:=h false s.heap (Heap.SameBut.refl a _) (by rw [bV9 hm];exact ⟨o,es,ep,t,ho,p⟩);cases s;exact q
 | none =>
  have hm:k∉ks:=fun z=>zD p.el hr (p.ks.mem_iff.mpr z);dsimp only;have gw:∀ (b:Bool) {s₁:Shared} {Q':Unit->Shared->Prop},Q' () s₁->wpAny (model prog w) A (match b with | true=>rule "set.scan.the-table-gave-way" | false=>pure ()) Q' E s₁:=fun b s₁ Q' q=>by
   cases b
   ·exact wpAny_pure q
   ·exact wpAny_rule q
  have lp:=layNew_perm t es ((intKind prog w).hash k) (.int k tk);have lf:=layNew_fits t es ((intKind prog w).hash k) (.int k tk);have lg:aT (txt w) (layNew t es ((intKind prog w).hash k) (.int k tk)).2.1:=sA p.good;generalize layNew t es ((intKind prog w).hash k) (.int k tk)=L at lp lf lg;obtain ⟨es1,t1,wd,gv⟩:=L;dsimp only at lp lf lg ⊢;rw [Array.toList_push] at lp;have z1:es1.size=ks.length+1:=by have:=lp.length_eq;simp at this;omega
  have mk:∀ t2:SetTable,t2.fits es1.size=true->aT (txt w) t2->Parts prog w { o with data:=.set es1 (ep+1) t2 } es1 (ep+1) t2 (step_dedup ks k):=fun t2 f2 g2 =>
   ⟨p.ex,rfl,(p.el.push hk rfl).perm lp,by
    rw [bW0 hm];refine (lp.map _).trans ?_;rw [List.map_append];exact p.ks.append (List.Perm.refl _),by omega,f2,g2⟩
  refine wpAny_bind (gw _ ?_);have fin:∀ h',Heap.SameBut a s.heap h'->SetI prog w h' a (step_dedup ks k)->wpAny (model prog w) A (pure true) (fun b s'=>Q b s') E { s with heap:=h' }:=fun h' b c=>wpAny_pure (h true h' b c);split
  ·refine wpAny_bind ?_;rw [hashByValue_scannable 8 (x:=.int k tk) rfl];refine wpAny_pure (wK (fun b s₁ Q' q=>?_) ho p.dat p.ex (mk _ ?_ ?_) fun h' b c=>wpAny_pure (h _ h' b c))
   ·cases b
    ·exact wpAny_pure q
    ·exact wpAny_rule q
   ·split
    ·exact lf
    ·exact SetTable.fits_plain_off lf
   ·split
    ·exact lg
    ·exact lg
  ·refine wpAny_bind (wpAny_pure ?_);simp only [if_true];refine wK (fun b s₁ Q' q=>?_) ho p.dat p.ex (mk _ lf lg) fun h' b c=>wpAny_pure (h _ h' b c);cases b
   ·exact wpAny_pure q
   ·exact wpAny_rule q
end
section
variable {prog:Program} {w:World} {A:Around} {E:Value->Shared->Prop} {s:Shared} {R:Result->Shared->Prop}
theorem aH7 {I:Addr} {fp wr:List Addr} {n:Nat} {P:Nat->Value->Prop} {St:Nat->Heap->Prop} (W:Walks prog w A.in1 I fp wr n P St) (S:Addr) (hS:S∉fp) (val:Nat->Int) (hval:∀ i v,P i v->∃ t,v=.int (val i) t) (hb:n+1 < scanBound) :
  ∀ (k i:Nat) (s:Shared),n - i=k->i<=n->St i s.heap->SetI prog w s.heap S (firstMet val i) ->
   (∀ h' tk,SetI prog w h' S (firstMet val n)->(∀ b o,b≠S->b∉wr->s.heap.get? b=some o->h'.get? b=some o)->R (.ok (.ret .none)) { s with heap:=h',toks:=tk }) ->
   codeAny (model prog w) A (.builtin "set.update.loop" ⟨[.ref S,.ref I],[]⟩) R s:=by
 have hw:S∉wr:=fun z=>hS (W.sub _ z);intro k;induction k with
 | zero =>
  intro i s hk hi st si hR;have e:i=n:=by omega
  subst e;refine codeAny_builtin F.entry_set_update_loop ?_;rw [Around.under_plainId F.plain_set_update_loop _];refine wpAny_bind (W.done s _ _ st fun h' tk hm=>wpAny_pure ?_);exact hR h' tk (si.keep fun o e=>hm S o hw e) fun b o _ hb e=>hm b o hb e
 | succ k ih =>
  intro i s hk hi st si hR;have hlt:i < n:=by omega
  refine codeAny_builtin F.entry_set_update_loop ?_;rw [Around.under_plainId F.plain_set_update_loop _];refine wpAny_bind (W.item i s _ _ hlt st fun v h1 tk1 hP st1 hm=>?_);obtain ⟨t,rfl⟩:=hval i v hP;have s1:SetI prog w h1 S (firstMet val i):=si.keep fun o e=>hm S o hw e;have fl:=firstMet_length_le val i;refine wpAny_bind (wpAny_holding ?_);unfold setAdd;refine wpAny_holding (wpAny_bind ((intKind prog w).pyHash (k:=val i) (intKind_is _ _ _ _) ?_));refine add_int (s:={ s with heap:=h1,toks:=tk1+1 }) s1 (by omega) fun b h2 sb s2=>?_;rw [<- firstMet_succ] at s2;refine wpAny_pure ⟨plainId_quiet F.plain_set_update_loop _,ih (i+1) _ (by omega) hlt (W.frame _ h1 _ st1 fun c hc o e=>?_) s2 fun h3 tk3 s3 k3=>hR h3 tk3 s3 fun c o n1 n2 e=>k3 c o n1 n2 ?_⟩
  ·rw [sb.2 c (fun z=>hS (by rw [<- z];exact hc))];exact e
  ·show h2.get? c=some o;rw [sb.2 c n1];exact hm c o n2 e
abbrev lH (w:World):Obj:={ cls:=.type "set",dict:=none,data:=.set #[] 0 (.fresh 0 0 (!txt w)) }
theorem zF:Parts prog w (lH w) #[] 0 (.fresh 0 0 (!txt w)) [] where
 ex:=⟨rfl,rfl,rfl⟩
 dat:=rfl
 el:=fun e he=>by simp at he
 ks:=by simp
 few:=by decide
 fit:=rfl
 good:=⟨by simp [Ris,SetTable.fresh],fun e=>by rw [e];rfl⟩
theorem aH8 (a:Value) {Q₁:Value->Shared->Prop} (h:Q₁ (.ref s.heap.objs.size) { s with heap:=s.heap.push (lH w) }) :
  codeAny (model prog w) A (.call (.builtin "set.__new__") ⟨[.type "set",a],[]⟩) (wants Q₁ E) s:=by
 refine codeAny_of_tree ?_;show wpAny _ _ (checkBuiltinCall "set.__new__" ⟨[.type "set",a],[]⟩ >>= fun _=>again (.builtin "set.__new__" ⟨[.type "set",a],[]⟩)) _ _ s;refine wpAny_bind (wpAny_of_eq (PySem.F.newCall_set_1 a) (wpAny_pure ⟨plainId_quiet PySem.F.plain_set_new _,codeAny_builtin PySem.F.entry_set_new ?_⟩));rw [Around.under_plainId PySem.F.plain_set_new _];have sub:=sub_set_self;unfold Builtin.«set.__new__» Builtin.Frozenset.newClass;obtain ⟨hp,g,d,tk,os⟩:=s;dsimp only
 wp_walk
 refine wpAny_askSetting (wpAny_pure ?_);dsimp only;simp only [newObj];exact wpAny_bind (wpAny_alloc (wpAny_pure (wpAny_pure h)))
theorem uO (ns:List Int):(List.range ns.length).map (fun i=>ns.getD i 0)=ns:=by
 apply List.ext_getElem
 ·simp
 ·intro i h1 h2;simp [h2]
noncomputable def dd (ns:List Int):List Int:=ns.foldl step_dedup []
theorem aH9 (ns:List Int):firstMet (fun i=>ns.getD i 0) ns.length=dd ns:=by
 unfold firstMet dd;rw [uO]
end
section
variable {prog:Program} {w:World} {A:Around} {E:Value->Shared->Prop} {s:Shared} {o:Obj} {es:Array (Int×Value)} {ep:Nat} {t:SetTable} {ks:List Int} {a:Addr}
end
section
variable {prog:Program} {w:World} {A:Around} {E:Value->Shared->Prop} {s:Shared} {o:Obj} {es:Array (Int×Value)} {ep:Nat} {t:SetTable} {ks:List Int} {a:Addr}
end
section
variable {prog:Program} {w:World} {A:Around} {E:Value->Shared->Prop} {s:Shared} {o:Obj} {es:Array (Int×Value)} {ep:Nat} {t:SetTable} {ks:List Int} {a:Addr}
end
end ST
namespace L2
open PySem PySem.Spec PyProof.Rows ST
section
variable {X:Cx}
theorem wM {e:Expr} {pos:Pos} {P:List Value->Shared->Prop} {E:Value->Shared->Prop} {s:Shared} (hs:starEach [e] X.env=[(false,eval e X.env)]) (h:wpAny (model X.prog X.w) X.A (eval e X.env) (fun v s1=>P [v] s1) E s) :
  wpAny (model X.prog X.w) X.A (spliced (backTo pos (starEach [e] X.env))) P E s:=by
 rw [hs];show wpAny _ _ (spliced ((false,eval e X.env)::backTo pos [])) _ _ s;exact Calls.spliced_cons (thn h fun u s1 q=>wpAny_pure q)
theorem aY9 {ns:List Int}:∀ {its:List Value},Vals (ns.map V.int) its->IntsAre its ns:=by
 induction ns with
 | nil=>intro its h;cases h;exact .nil
 | cons k r ih =>
  intro its h;cases h with
  | cons q t =>
   obtain ⟨tk,rfl⟩:=q;exact .cons _ _ (ih t)
theorem bW1 (ns:List Int):(dd ns).length<=ns.length:=by
 rw [<- aH9];exact firstMet_length_le _ _
end
end L2
namespace ST
open PySem PySem.Spec PyProof.Rows
section
variable {prog:Program} {w:World} {A:Around} {E:Value->Shared->Prop} {s:Shared}
end
section
variable {prog:Program} {w:World} {A:Around} {E:Value->Shared->Prop} {s:Shared}
end
end ST
namespace L2
open PySem PySem.Spec PyProof.Rows ST
section
variable {X:Cx}
end
end L2
namespace PySem
open PySem.Spec PyProof.Rows
abbrev aI0 (h:Heap) (z TI TO:Addr) (f0:Value) (f:Bool):Prop:=h.get? z=some { cls:=.type "zip",data:=.fields #[f0,.bool f,.bool false,.ref TI,.ref TO] }
section
variable {prog:Program} {w:World} {A:Around} {E:Value->Shared->Prop} {s:Shared}
end
structure ZL (b c:Bool) (z TI TO i1 i2 l1 l2 S lo:Addr) (xs ys:Array Value) (h:Heap) (as bs:List Addr) (cnt:Nat):Prop where
 zp:(as=[]/\IsZip h z TI TO .none/\∃ u v,IsPair h TO u v)\/∃ (T0:Addr) (f:Bool) (o:Obj),aI0 h z TI TO (rawInt T0) f/\h.get? T0=some o/\lo<=T0
 ti:IsPair h TI (.ref i1) (.ref i2)
 a1:ItAt b h i1 l1 as.length
 a2:ItAt c h i2 l2 as.length
 s1:SqAt b h l1 xs
 s2:SqAt c h l2 ys
 ls:h.get? S=some { cls:=.type "list",dict:=none,data:=.seq (bs.map Value.ref).toArray cnt,slots:=#[] }
 pr:∀ (j:Nat) (a:Addr),as[j]?=some a->lo<=a/\∃ x y,xs[j]?=some x/\ys[j]?=some y/\IsPair h a x y
 nd:as.Pairwise (· < ·)
structure ZLow (z TI TO i1 i2 l1 l2 S lo:Addr):Prop where
 pz:z < lo
 pTI:TI < lo
 pTO:TO < lo
 p1:i1 < lo
 p2:i2 < lo
 pS:S < lo
 Sz:S≠z
 STI:S≠TI
 STO:S≠TO
 Si1:S≠i1
 Si2:S≠i2
 Sl1:S≠l1
 Sl2:S≠l2
 l1z:l1≠z
 l2z:l2≠z
 l2T:l2≠TO
 l2i:l2≠i1
 l1T:l1≠TO
 l1i1:l1≠i1
 l1i2:l1≠i2
 l2i2:l2≠i2
section
variable {prog:Program} {w:World} {A:Around} {E:Value->Shared->Prop} {s:Shared} {R:Result->Shared->Prop} {b c:Bool} {z TI TO i1 i2 l1 l2 S lo:Addr} {xs ys:Array Value} {as bs:List Addr} {cnt:Nat}
theorem ZL.snoc {h h':Heap} {p:Addr} {x y:Value} (D:ZApart z TI TO i1 i2) (L:ZLow z TI TO i1 i2 l1 l2 S lo) (st:ZL b c z TI TO i1 i2 l1 l2 S lo xs ys h as bs cnt) (hp:lo<=p) (hpp:h.objs.size<=p) (hx:xs[as.length]?=some x) (hy:ys[as.length]?=some y)
  (hz:∃ (T0:Addr) (f:Bool) (o:Obj),aI0 h' z TI TO (rawInt T0) f/\h'.get? T0=some o/\lo<=T0) (a1:ItAt b h' i1 l1 (as.length+1)) (a2:ItAt c h' i2 l2 (as.length+1)) (pr:IsPair h' p x y)
  (k:∀ a o,a≠z->a≠TO->a≠i1->a≠i2->h.get? a=some o->h'.get? a=some o):ZL b c z TI TO i1 i2 l1 l2 S lo xs ys h' (as++[p]) bs cnt where
 zp:=.inr hz
 ti:=k _ _ D.TIz D.TITO D.TIi1 D.TIi2 st.ti
 a1:=by simpa using a1
 a2:=by simpa using a2
 s1:=st.s1.keep fun o e=>k _ _ L.l1z L.l1T L.l1i1 L.l1i2 e
 s2:=st.s2.keep fun o e=>k _ _ L.l2z L.l2T L.l2i L.l2i2 e
 ls:=k _ _ L.Sz L.STO L.Si1 L.Si2 st.ls
 pr:=fun j a e=>by
  by_cases hj:j < as.length
  ·rw [List.getElem?_append_left hj] at e;obtain ⟨q1,x',y',e1,e2,q2⟩:=st.pr j a e;refine ⟨q1,x',y',e1,e2,k _ _ ?_ ?_ ?_ ?_ q2⟩
   ·exact Nat.ne_of_gt (Nat.lt_of_lt_of_le L.pz q1)
   ·exact Nat.ne_of_gt (Nat.lt_of_lt_of_le L.pTO q1)
   ·exact Nat.ne_of_gt (Nat.lt_of_lt_of_le L.p1 q1)
   ·exact Nat.ne_of_gt (Nat.lt_of_lt_of_le L.p2 q1)
  ·have hj2:j=as.length:=by
    have:=(List.getElem?_eq_some_iff.mp e).1;simp at this;omega
   subst hj2;simp at e;subst e;exact ⟨hp,x,y,hx,hy,pr⟩
 nd:=by
  rw [List.pairwise_append];refine ⟨st.nd,List.pairwise_singleton _ _,fun a ha q hq=>?_⟩;rw [List.mem_singleton.mp hq];obtain ⟨j,hj,e⟩:=List.mem_iff_getElem.mp ha;obtain ⟨_,x,y,_,_,g⟩:=st.pr j a (by rw [<- e];exact List.getElem?_eq_getElem hj);exact Nat.lt_of_lt_of_le (Heap.lt_size g) hpp
theorem ZL.put {h h':Heap} {cnt':Nat} {bs':List Addr} (L:ZLow z TI TO i1 i2 l1 l2 S lo) (st:ZL b c z TI TO i1 i2 l1 l2 S lo xs ys h as bs cnt) (k:∀ a o,a≠S->h.get? a=some o->h'.get? a=some o)
  (ls:h'.get? S=some { cls:=.type "list",dict:=none,data:=.seq (bs'.map Value.ref).toArray cnt',slots:=#[] }):ZL b c z TI TO i1 i2 l1 l2 S lo xs ys h' as bs' cnt' where
 zp:=st.zp.imp (fun ⟨e,z1,u,v,z2⟩=>⟨e,k _ _ L.Sz.symm z1,u,v,k _ _ L.STO.symm z2⟩) fun ⟨T0,f,o,z1,z2,z3⟩=>⟨T0,f,o,k _ _ L.Sz.symm z1,k _ _ (Nat.ne_of_gt (Nat.lt_of_lt_of_le L.pS z3)) z2,z3⟩
 ti:=k _ _ L.STI.symm st.ti
 a1:=st.a1.keep fun o e=>k _ _ L.Si1.symm e
 a2:=st.a2.keep fun o e=>k _ _ L.Si2.symm e
 s1:=st.s1.keep fun o e=>k _ _ L.Sl1.symm e
 s2:=st.s2.keep fun o e=>k _ _ L.Sl2.symm e
 ls:=ls
 pr:=fun j a e=>by
  obtain ⟨q1,x,y,e1,e2,q2⟩:=st.pr j a e;exact ⟨q1,x,y,e1,e2,k _ _ (Nat.ne_of_gt (Nat.lt_of_lt_of_le L.pS q1)) q2⟩
 nd:=st.nd
end
section
variable {prog:Program} {w:World} {A:Around} {E:Value->Shared->Prop} {s:Shared} {R:Result->Shared->Prop} {b c:Bool} {z TI TO i1 i2 l1 l2 S lo:Addr} {xs ys:Array Value}
end
end PySem
namespace L2
open PySem PySem.Spec PyProof.Rows ST
section
variable {X:Cx} {pins:List (Addr×Obj)} {σ:St} {H:Hp} {s:Shared} {h':Heap} {news:List (Addr×HO)}
end
end L2
namespace DL
open PySem PySem.Spec PyProof.Rows L2 ST
noncomputable def gQ:List PyData->Option (List Int)
 | []=>some []
 | .int i::r=>(gQ r).map (i::·)
 | _=>none
section
variable {K:Frag} {A μ:List Addr} {H H':Hp} {h:aA}
theorem nY:∀ {xs:List PyData} {ns:List Int} {vs:List V},gQ xs=some ns->Reps K A H xs vs->vs=ns.map V.int
 | [],ns,vs,e,r=>by cases e;rw [Reps] at r;exact r
 | x::xs,ns,vs,e,r=>by
  unfold gQ at e;split at e
  ·rename_i q;cases q
  ·rename_i i r0 q;cases q;obtain ⟨ms,e2,rfl⟩:=Option.map_eq_some_iff.mp e;rw [Reps] at r;obtain ⟨v,r',rfl,r1,r2⟩:=r;rw [Rep] at r1;subst r1;rw [nY e2 r2];rfl
  ·cases e
theorem nZ:∀ ns:List Int,Reps K A H (ns.map .int) (ns.map V.int)
 | []=>.nil
 | n::r=>.cons (by rw [Rep]) (nZ r)
end
section
variable {X:Cx}
theorem aI1 {K:Frag} {A:List Addr} {H:Hp} (i:Int) (n:Nat):Reps K A H (rng i n) ((List.range n).map fun (k:Nat)=>V.int (i+k)):=by
 have e:rng i n=((List.range n).map fun (k:Nat)=>i+k).map PyData.int:=by
  unfold rng;rw [List.map_map];rfl
 rw [e,show ((List.range n).map fun (k:Nat)=>V.int (i+k))=((List.range n).map fun (k:Nat)=>i+k).map V.int by rw [List.map_map];rfl];exact nZ _
end
end DL
namespace PySem
open PySem.Spec PyProof.Rows
theorem SqAt.ob {b:Bool} {h:Heap} {l:Addr} {xs:Array Value} (x:SqAt b h l xs):∃ o,h.get? l=some o:=by cases b<;>exact ⟨_,x.choose_spec.1⟩
theorem ItAt.ob {b:Bool} {h:Heap} {it l:Addr} {i:Nat} (x:ItAt b h it l i):∃ o,h.get? it=some o:=by cases b<;>exact ⟨_,x.choose_spec.1⟩
theorem aI2 (b:Bool) (l:Addr) (xs:Array Value):Meets (Builtin.«enumerate.__new__» ⟨[.type "enumerate",.ref l],[]⟩) fun _ R s=>SqAt b s.heap l xs /\
  R (.ok (.ret (.ref (s.heap.push (iX b l)).objs.size))) { s with heap:=(s.heap.push (iX b l)).push { cls:=.type "enumerate",data:=.fields #[.none,.bool false,.ref s.heap.objs.size,rawInt 0,.none,.none] } }:=by
 refine Meets.of_wp fun prog w A R s h=>?_;obtain ⟨h1,h⟩:=h;obtain ⟨o,ho⟩:=h1.ob;obtain ⟨hp,g,d,tk,os⟩:=s;have hsub:=sub_enumerate
 wp_walk using AutoSeq1.wpAny_loadPart' ho
 refine wpAny_stack_any fun st=>wpAny_pure ?_;split
 ·rename_i c _ _ _ _ _;cases (c==Value.type "enumerate")
  ·wp_walk using AutoSeq1.wpAny_loadPart' ho,eV h1
   exact ⟨_,rfl,h⟩
  ·wp_walk using AutoSeq1.wpAny_loadPart' ho,eV h1
   exact ⟨_,rfl,h⟩
 ·wp_walk using AutoSeq1.wpAny_loadPart' ho,eV h1
  exact ⟨_,rfl,h⟩
section
variable {prog:Program} {w:World} {A:Around} {E:Value->Shared->Prop} {s:Shared}
theorem aZ0 {b:Bool} {e it l:Addr} {i:Nat} {items:Array Value} {x old:Value} {Q:Option Value->Shared->Prop}
  (he:IsEnum s.heap e it i old) (hit:ItAt b s.heap it l i) (hl:SqAt b s.heap l items) (hx:items[i]?=some x) (hne:e≠it)
  (hQ:∀ h',IsEnumOut h' e it ((i:Int)+1) x s.heap.objs.size->ItAt b h' it l (i+1)->h'.get? s.heap.objs.size=some { cls:=.type "tuple",data:=.seq #[.int i s.toks,x] }->h'.objs.size=s.heap.objs.size+1 ->
   (∀ c o,c≠e->c≠it->s.heap.get? c=some o->h'.get? c=some o)->Q (some (.ref s.heap.objs.size)) { s with heap:=h',toks:=s.toks+1 }):wpAny (model prog w) A (pyNext (.ref e)) Q E s:=by
 have hT:s.TypeIs (.ref e) "enumerate":=⟨_,he,rfl⟩;have ne':∀ {h1 h2:Heap},Heap.SameBut e h1 h2->∀ o,h1.get? it=some o->h2.get? it=some o:=fun sb o q=>(sb.2 _ hne.symm).trans q;unfold pyNext;refine wpAny_bind (wpAny_attempt (wpAny_callSpecial?_slot (name:=Str.ofString "__next__") hT F.slot_enumerate_next (wpAny_call_entry F.slot_enumerate_next hT F.entry_enumerate_next ?_ (F.args_enumerate_next_1 _))));unfold Builtin.«enumerate.__next__»;refine wpAny_bind (wpAny_pure (a:=(Value.ref e,[])) (wpAny_bind (wpAny_field he rfl (x:=.ref it) rfl (wpAny_bind (eJ hit hl hx fun H1 it1 e1=>?_)))));have he1:IsEnum H1 e it i old:=(e1.2 _ hne).trans he;refine wpAny_bind (wpAny_field he1 rfl (x:=rawInt i) rfl ?_);dsimp only [rawInt];refine wpAny_bind (wpAny_field he1 rfl (x:=.none) rfl ?_);rw [if_pos (by rfl)];refine wpAny_bind (wpAny_mkInt ?_);refine wpAny_bind (wpAny_setField_rec he1 (by simp) fun H2 he2 s2=>wpAny_bind (wpAny_setField_rec (s:={ s with heap:=H2,toks:=s.toks+1 }) he2 (by simp) fun H3 he3 s3=>?_));have he3':IsEnum H3 e it ((i:Int)+1) old:=he3;have z3:H3.objs.size=s.heap.objs.size:=by
  have q2:H2.objs.size=H1.objs.size:=s2.1;have q3:H3.objs.size=H2.objs.size:=s3.1;rw [q3,q2];exact e1.1
 refine wpAny_bind (wpAny_newTuple (items:=[.int i s.toks,x]) ?_);have he4:IsEnum (H3.push { cls:=.type "tuple",data:=.seq #[.int i s.toks,x] }) e it ((i:Int)+1) old:=Heap.get?_push_of_some _ he3';have g4:(H3.push { cls:=.type "tuple",data:=.seq #[.int i s.toks,x] }).get? s.heap.objs.size=some { cls:=.type "tuple",data:=.seq #[.int i s.toks,x] }:=by rw [<- z3];exact Heap.get?_push_size _ rfl
 have z4:(H3.push { cls:=.type "tuple",data:=.seq #[.int i s.toks,x] }).objs.size=s.heap.objs.size+1:=by rw [Heap.size_push,z3]
 have k4:∀ c o,c≠e->c≠it->s.heap.get? c=some o->(H3.push { cls:=.type "tuple",data:=.seq #[.int i s.toks,x] }).get? c=some o:=fun c o n1 n2 q=>Heap.get?_push_of_some _ ((s3.2 _ n1).trans ((s2.2 _ n1).trans ((e1.2 _ n2).trans q)));have it4:ItAt b (H3.push { cls:=.type "tuple",data:=.seq #[.int i s.toks,x] }) it l (i+1):=it1.keep fun o q=>Heap.get?_push_of_some _ (ne' s3 o (ne' s2 o q));refine wpAny_bind ?_;unfold Builtin.SmallTypes.ownedTupleIsFree;refine wpAny_bind (wpAny_field he4 rfl (x:=.none) rfl (wpAny_pure ?_));rw [if_pos rfl];have el:s.heap.objs.size≠e:=Nat.ne_of_gt (Heap.lt_size he);refine wpAny_bind (wpAny_rule (wpAny_bind (wpAny_field he4 rfl (x:=old) rfl (wpAny_bind (wpAny_setField_rec (s:={ s with heap:=H3.push { cls:=.type "tuple",data:=.seq #[.int i s.toks,x] },toks:=s.toks+1 }) he4 (by simp) fun H5 he5 s5=>wpAny_bind ?_)))));unfold Builtin.SmallTypes.ownedTupleHandOut;rw [z3];refine wpAny_bind (wpAny_setField_rec (s:={ s with heap:=H5,toks:=s.toks+1 }) he5 (by simp) fun H6 he6 s6=>wpAny_setField_rec (s:={ s with heap:=H6,toks:=s.toks+1 }) he6 (by simp) fun H7 he7 s7=>wpAny_bind (wpAny_letGo (wpAny_pure ⟨_,rfl,wpAny_pure (hQ H7 he7 ?_ ?_ ?_ fun c o n1 n2 q=>?_)⟩)))
 ·exact it4.keep fun o q=>ne' s7 o (ne' s6 o (ne' s5 o q))
 ·exact (s7.2 _ el).trans ((s6.2 _ el).trans ((s5.2 _ el).trans g4))
 ·have q5:H5.objs.size=_:=s5.1;have q6:H6.objs.size=H5.objs.size:=s6.1;have q7:H7.objs.size=H6.objs.size:=s7.1;rw [q7,q6,q5];exact z4
 ·exact (s7.2 _ n1).trans ((s6.2 _ n1).trans ((s5.2 _ n1).trans (k4 c o n1 n2 q)))
theorem bW2 {b:Bool} {e it l:Addr} {i:Nat} {items:Array Value} {old:Value} {Q:Option Value->Shared->Prop} (hh:A.handled=none) (he:IsEnum s.heap e it i old) (hit:ItAt b s.heap it l i) (hl:SqAt b s.heap l items) (hx:items[i]?=none)
  (hQ:∀ h',(∀ c o,c≠it->s.heap.get? c=some o->h'.get? c=some o)->Q none { s with heap:=h' }):wpAny (model prog w) A (pyNext (.ref e)) Q E s:=by
 have hT:s.TypeIs (.ref e) "enumerate":=⟨_,he,rfl⟩;unfold pyNext;refine wpAny_bind (wpAny_attempt (wpAny_callSpecial?_slot (name:=Str.ofString "__next__") hT F.slot_enumerate_next (wpAny_call_entry F.slot_enumerate_next hT F.entry_enumerate_next ?_ (F.args_enumerate_next_1 _))));unfold Builtin.«enumerate.__next__»;refine wpAny_bind (wpAny_pure (a:=(Value.ref e,[])) (wpAny_bind (wpAny_field he rfl (x:=.ref it) rfl (wpAny_bind (gX (A:=A.in1) hh hit hl hx fun H1 x k1 ⟨o,ho,hc⟩=>?_)))));exact wpAny_bind (wpAny_isInstance ⟨o,ho,hc⟩ isSubtype_stop (wpAny_pure (hQ H1 k1)))
end
end PySem
namespace L2
open PySem PySem.Spec PyProof.Rows ST
def Ite (K:Frag) (b:Bool) (l:Addr):It :=
 ⟨fun i H=>∃ xs x,SqB K b H l xs/\xs[i]?=some x,
  fun i H v H'=>∃ p x,v=.ref p/\H p=none/\H'=upd H p (.tup [.int i,x])/\∀ xs,SqB K b H l xs->xs[i]?=some x,
  fun i H=>∃ xs,SqB K b H l xs/\xs.length<=i⟩
def ESt (b:Bool) (e it l:Addr) (i:Nat) (h:Heap):Prop:=(∃ old,IsEnum h e it i old)/\ItAt b h it l i
theorem zG {P:Program} {w:World} {K:Frag} {elts:List Expr} {n:Nat} {pos:Pos} (b:Bool) (e it l:Addr) (hne:e≠it):Turn P w K (.Tuple elts n pos) (Ite K b l) [e,it] e (ESt b e it l) where
 mem:=by simp
 obj:=fun i h st a ha=>by
  obtain ⟨⟨old,s1⟩,s2⟩:=st;simp only [List.mem_cons,List.not_mem_nil,or_false] at ha;rcases ha with rfl | rfl
  ·exact ⟨_,s1,fun v z=>by cases z⟩
  ·cases b<;>· obtain ⟨o,e,_,d⟩:=s2;exact ⟨o,e,fun v z=>by rw [d] at z;cases z⟩
 keep:=fun i h h' st k=>by
  obtain ⟨⟨old,s1⟩,s2⟩:=st;exact ⟨⟨old,k e (by simp) _ s1⟩,s2.keep fun o q=>k it (by simp) o q⟩
 item:=by
  intro X hP hw hK hc i pins s σ H E I hf st hg;subst hP hw hK;obtain ⟨xs,x,hq,hx⟩:=hg;obtain ⟨⟨old,s1⟩,s2⟩:=st;obtain ⟨its,rv,p1,hz⟩:=I.sqB hq;obtain ⟨u,hu,ru⟩:=rv.get hx;refine aZ0 s1 s2 p1 (x:=u) (by simpa using hu) hne fun h' a1 a2 a3 a4 a5=>⟨_,rfl,wpAny_letOwnedTupleGo_enum (s:={ s with heap:=h',toks:=s.toks+1 }) a1 fun h'' b1 b2=>?_⟩;have nz:∀ {a o},s.heap.get? a=some o->a≠s.heap.objs.size:=fun q=>Nat.ne_of_lt (Heap.lt_size q);have I1:Inv X pins σ (upd H s.heap.objs.size (.tup [.int i,x])) { s with heap:=s.heap.push { cls:=.type "tuple",data:=.seq #[.int i s.toks,u] },toks:=s.toks+1 } :=
   I.laid (t':=s.toks+1) (fun b o q=>Heap.get?_push_of_some _ q) (Nat.le_refl _) (show ObjOk X.prog X.w _ _ _ (.tup [.int i,x]) from ⟨by simp [sizeLine_eq],[.int i s.toks,u],.cons ⟨_,rfl⟩ (.cons ru .nil),IsTupD.new _ _⟩)
  have ob:∀ a∈[e,it],∃ o,s.heap.get? a=some o:=fun a ha=>by
   simp only [List.mem_cons,List.not_mem_nil,or_false] at ha;rcases ha with rfl | rfl
   ·exact ⟨_,s1⟩
   ·exact s2.ob
  have un:∀ a∈[e,it],upd H s.heap.objs.size (.tup [.int i,x]) a=none:=fun a ha=>by
   obtain ⟨o,q⟩:=ob a ha;rw [aJ (nz q)];exact (hf a ha).1
  have hf1:∀ a∈[e,it],gR X pins (upd H s.heap.objs.size (.tup [.int i,x])) a:=fun a ha=>⟨un a ha,(hf a ha).2⟩;have I2:Inv X pins σ (upd H s.heap.objs.size (.tup [.int i,x])) { s with heap:=h'',toks:=s.toks+1 }:=Inv.turnedL (s:={ s with heap:=s.heap.push { cls:=.type "tuple",data:=.seq #[.int i s.toks,u] },toks:=s.toks+1 }) I1 (t':=s.toks+1) (ch:=[e,it]) (fun a o ha q=>by
   simp only [List.mem_cons,List.not_mem_nil,or_false,not_or] at ha;refine (b2.2 a ha.1).trans ?_
   by_cases hs:a=s.heap.objs.size
   ·subst hs;have q':(s.heap.push { cls:=.type "tuple",data:=.seq #[.int i s.toks,u] }).get? s.heap.objs.size=some o:=q;rw [Heap.get?_push_size _ rfl] at q';cases q';exact a3
   ·have q':(s.heap.push { cls:=.type "tuple",data:=.seq #[.int i s.toks,u] }).get? a=some o:=q;rw [Heap.get?_push_ne _ _ _ hs] at q';exact a5 a o ha.1 ha.2 q') hf1
  refine ⟨.ref s.heap.objs.size,_,I2,rfl,⟨_,x,rfl,I.hok.fresh (Nat.le_refl _),rfl,fun zs hz=>?_⟩,⟨⟨u,?_⟩,?_⟩,un⟩
  ·rw [I.sqB_inj hz hq];exact hx
  ·have:((i+1:Nat):Int)=(i:Int)+1:=by omega
   unfold IsEnum;rw [this];exact b1
  ·exact a2.keep fun o q=>(b2.2 _ hne.symm).trans q
 done:=by
  intro X hP hw hK hc i pins s σ H E I hf st hg;subst hP hw hK;obtain ⟨xs,hq,hl⟩:=hg;obtain ⟨⟨old,s1⟩,s2⟩:=st;obtain ⟨its,rv,p1,hz⟩:=I.sqB hq;have l1:=rv.length;refine bW2 (I.ok.hd hc) s1 s2 p1 (by simp;omega) fun h' kk=>⟨rfl,?_⟩;exact I.turnedL (t':=s.toks) (ch:=[e,it]) (fun a o ha q=>by
   simp only [List.mem_cons,List.not_mem_nil,or_false,not_or] at ha;exact kk a o ha.2 q) hf
 self:=fun _ _ s _ _ st h=>by
  obtain ⟨⟨old,s1⟩,s2⟩:=st;have hT:s.TypeIs (.ref e) "enumerate":=⟨_,s1,rfl⟩;refine wpAny_pyIter_slot hT PySem.F.slot_enumerate_iter (wpAny_call_entry PySem.F.slot_enumerate_iter hT PySem.F.entry_enumerate_iter ?_ (PySem.F.args_enumerate_iter_1 _));show wpAny _ _ (ret (.ref e)) _ _ s;exact wpAny_pure ⟨_,rfl,"enumerate",_,hT,PySem.F.slot_enumerate_next.lookup,h⟩
section
variable {X:Cx} {elts:List Expr} {n:Nat} {tpos:Pos}
def cK9 (K:Frag) (t:TA):TI:=fun σ H R=>t σ H fun vs H1=>∃ p b xs,vs=[.ref p]/\SqB K b H1 p xs/\(xs.length<=sizeLine->R (Ite K b p) H1)
theorem aZ1 {a:Expr} {ta:TA} {p pos:Pos} (hg:Gl X "enumerate") (hm:X.mg "enumerate"=none) (ha:PA X [a] ta) (hs:starEach [a] X.env=[(false,eval a X.env)]) :
  PI X (.Tuple elts n tpos) (.Call (.Name "enumerate" p) [a] [] pos) (cK9 X.K ta):=by
 intro pins s σ H R I h;refine Call_ (dP (u:=.type "enumerate") I hg hm (by decide +kernel) (PyProof.Rows.callWith_type1 (thn (ha pos pins s σ H _ I h) fun us s1 ⟨vs,H1,I1,r1,q1⟩=>?_) hs rfl));obtain ⟨l,b,xs,e,hq,q⟩:=q1;subst e;obtain ⟨u,rfl,ru⟩:=jK r1;cases ru;obtain ⟨its,rv,p1,hz⟩:=I1.sqB hq;refine callType_new PySem.F.called_enumerate (by decide) (PySem.F.typeCall_enumerate_1 _) (PySem.F.newCall_enumerate_1 _) (fun obj=>PySem.F.args_object_init_2 obj _) PySem.F.entry_enumerate_new (aI2 b l its.toArray) ⟨p1,⟨_,Heap.get?_push_size _ rfl,rfl⟩,?_⟩;have z1:(s1.heap.push (iX b l)).objs.size=s1.heap.objs.size+1:=by rw [Heap.size_push]
 have ge:((s1.heap.push (iX b l)).push { cls:=.type "enumerate",data:=.fields #[.none,.bool false,.ref s1.heap.objs.size,rawInt 0,.none,.none] }).get? (s1.heap.push (iX b l)).objs.size=some { cls:=.type "enumerate",data:=.fields #[.none,.bool false,.ref s1.heap.objs.size,rawInt 0,.none,.none] }:=Heap.get?_push_size _ rfl;have gi:((s1.heap.push (iX b l)).push { cls:=.type "enumerate",data:=.fields #[.none,.bool false,.ref s1.heap.objs.size,rawInt 0,.none,.none] }).get? s1.heap.objs.size=some (iX b l):=Heap.get?_push_of_some _ (Heap.get?_push_size _ rfl);have I2:Inv X pins σ H1 { s1 with heap:=(s1.heap.push (iX b l)).push { cls:=.type "enumerate",data:=.fields #[.none,.bool false,.ref s1.heap.objs.size,rawInt 0,.none,.none] } }:=I1.kept (t':=s1.toks) fun c o e=>Heap.get?_push_of_some _ (Heap.get?_push_of_some _ e);have hne:(s1.heap.push (iX b l)).objs.size≠s1.heap.objs.size:=by rw [z1];exact Nat.succ_ne_self _
 refine wpAny_pyIter_enum (s:={ s1 with heap:=_ }) ge ⟨_,_,_,_,H1,rfl,I2,zG b _ s1.heap.objs.size l hne,⟨⟨.none,ge⟩,ItAt.new gi⟩,fun x hx=>?_,q hz⟩;have hx':s1.heap.objs.size<=x:=by
  simp only [List.mem_cons,List.not_mem_nil,or_false] at hx;rcases hx with rfl | rfl
  ·rw [z1];exact Nat.le_succ _
  ·exact Nat.le_refl _
 obtain ⟨f0,f1,f2,f3,f4,f5⟩:=I1.fpOk (H':=H1) hx' (I1.hok.fresh hx');exact ⟨f0,f1,f2,f3,f4,f5⟩
end
end L2
namespace DL
open PySem PySem.Spec PyProof.Rows L2 ST
section
variable {X:Cx} {elts:List Expr} {n:Nat} {tpos:Pos}
noncomputable def jR (k:Nat):List PyData->List PyData
 | []=>[]
 | x::r=>.tuple [.int k,x]::jR (k+1) r
noncomputable def lJ (xs:List PyData):List PyData:=jR 0 xs
theorem iY:∀ {xs:List PyData} {k i:Nat} {z:PyData},(jR k xs)[i]?=some z->∃ x,xs[i]?=some x/\z=.tuple [.int (k+i:Nat),x]
 | [],k,i,z,e=>by simp [jR] at e
 | x::r,k,0,z,e=>by simp [jR] at e;exact ⟨x,rfl,by rw [<- e];rfl⟩
 | x::r,k,i+1,z,e=>by
  rw [jR] at e;obtain ⟨y,e1,e2⟩:=iY (xs:=r) (k:=k+1) (i:=i) (by simpa using e);exact ⟨y,by simpa using e1,by rw [e2,show k+1+i=k+(i+1) by omega]⟩
theorem iZ:∀ (xs:List PyData) (k:Nat),(jR k xs).length=xs.length
 | [],_=>rfl
 | x::r,k=>by rw [jR,List.length_cons,iZ,List.length_cons]
def cL0 (t:DTA):DTI:=fun δ h Q=>t δ h fun ws h1=>∃ u xs,ws=[u]/\fZ u=some xs/\Q (lJ xs) none h1
theorem bW3 {K:Frag} {A μ:List Addr} {H:Hp} {h:aA} {u:W} {p:Addr} {xs:List PyData} (R:HeapRep K A μ h H) (e1:fZ u=some xs) (r1:RepW K A μ H u (.ref p)) :
  aV6 K A μ H (Ite K (aY8 u) p) (lJ xs) none:=fun A' μ' H' h' y R' _=>by
 obtain ⟨p',vs,ep,sq1,rr1⟩:=gJ e1 (r1.ext y R.sub);cases ep;have l1:=rr1.length;refine ⟨fun i z ez=>?_,fun i hi=>⟨vs,sq1,?_⟩⟩
 ·obtain ⟨x,ex,rfl⟩:=iY ez;obtain ⟨vx,hvx,rx⟩:=rr1.get ex;refine ⟨⟨vs,vx,sq1,hvx⟩,fun v H2 hy=>?_⟩;obtain ⟨a,x',rfl,ha,rfl,g1⟩:=hy;have c1:=g1 vs sq1;rw [hvx] at c1;cases c1;refine ⟨bI ha,R'.fresh ha,dJ R' ha (.cons ?_ (.one rx))⟩;rw [Rep,Nat.zero_add]
 ·unfold lJ at hi;rw [iZ] at hi;omega
theorem aZ2 {a:Expr} {t:DTA} {p pos:Pos} (hm:X.mg "enumerate"=none) (ha:DA X [a] t) (hg:Gl X "enumerate") (hs:starEach [a] X.env=[(false,eval a X.env)]) :
  DI X (.Tuple elts n tpos) (.Call (.Name "enumerate" p) [a] [] pos) (cL0 t) :=
 gF (aZ1 hg hm ha hs) fun σ H R q=>by
  obtain ⟨δ,h,A,μ,k,Rr,q,c⟩:=q;refine ⟨δ,h,A,μ,_,Rr,q,fun ws h1 vs H1 A1 μ1 q1 x1 R1 r1=>?_⟩;obtain ⟨u,xs,rfl,e1,q1⟩:=q1;obtain ⟨v,rfl,rv⟩:=cR r1;obtain ⟨p,vs,rfl,sq1,rr1⟩:=gJ e1 rv;refine ⟨p,_,vs,rfl,sq1,fun hz=>c _ _ h1 _ H1 A1 μ1 q1 x1 R1 ?_ trivial (bW3 R1 e1 rv)⟩;unfold lJ;rw [iZ];have l1:=rr1.length;omega
end
end DL
namespace L2
open PySem PySem.Spec PyProof.Rows
section
variable {prog:Program} {w:World} {A:Around} {E:Value->Shared->Prop} {s:Shared}
end
end L2
namespace DL
open PySem PySem.Spec PyProof.Rows L2 ST
section
variable {X:Cx}
abbrev OfX (f:List W->aA->Option (W×aA)):DC:=fun ws h Q=>∃ r h',f ws h=some (r,h')/\Q r h'
end
end DL
namespace ST
open PySem PySem.Spec PyProof.Rows PySem.W
section
variable {prog:Program} {w:World} {A:Around} {E:Value->Shared->Prop} {s:Shared}
end
section
variable {prog:Program} {w:World} {A:Around} {E:Value->Shared->Prop} {s:Shared}
end
end ST
namespace L2
open PySem PySem.Spec PyProof.Rows ST
section
variable {X:Cx}
end
end L2
namespace L2
open PySem PySem.Spec PyProof.Rows
section
variable {X:Cx}
noncomputable def cL1:V->V->V->Hp->(Hp->Prop)->Prop:=fun o i v H Q=>bE9 o i v H Q\/∃ a k kvs,o=.ref a/\i=kV k/\H a=some (.dK kvs)/\kvs.length < sizeLine/\Q (upd H a (.dK (gT kvs k v)))
theorem cL2:bM3 X cL1:=by
 intro pins s σ H o i v ov iv u Q I ro ri rv h;rcases h with h | ⟨a,k,kvs,rfl,rfl,e,l,q⟩
 ·exact aD7 pins s σ H o i v ov iv u Q I ro ri rv h
 ·cases ro;obtain ⟨z,hd,vs,rel,dd⟩:=cI0 I.hok e;have hz:vs.length<=sizeLine:=by rw [<- rel.length];exact z
  have hl:(gT kvs k v).length<=sizeLine:=by have:=rH kvs k v;omega
  refine wpAny_setItem_pairs (hsz:=hz) (rJ ri) dd fun h' dd' hs=>⟨_,?_,q⟩;have he:∃ q,h'.get? a=some q:=let ⟨q,_,_,hq,_⟩:=dd';⟨q,hq⟩
  exact aT1 I (by rw [e];exact True.intro) hs he (bO8 hl hd (rel.put k rv) dd')
end
end L2
namespace DL
open PySem PySem.Spec PyProof.Rows L2 ST
variable {X:Cx} {e:Expr} {pos:Pos}
def cL3 (to ti:DTE):DTG:=fun v δ h Q=>to δ h fun o h1=>ti δ h1 fun i h2=>match o,i,v with
 | .c j,.d y,.d x=>(match h2[j]?,y with
  | some (.l xs),.int k=>(match ixN xs.length k with
   | some n=>Q δ (h2.set j (.l (xs.set n x)))
   | none=>False)
  | some (.k kvs),_=>(aY y).isSome=true/\kvs.length < sizeLine/\Q δ (h2.set j (.k (pJ kvs y x)))
  | _,_=>False)
 | _,_,_=>False
theorem aZ3 {K:Frag} {A:List Addr} {H:Hp} {y:PyData} {v:V} {q:Key} (r:Rep K A H y v) (hk:aY y=some q):v=kV q:=by
 cases y<;>first | (simp [aY] at hk;done) | skip
 ·rw [Rep] at r;simp only [aY,Option.some.injEq] at hk;subst hk;exact r
 ·rw [Rep] at r;simp only [aY] at hk;rw [if_pos r.2] at hk;cases hk;exact r.1
theorem oA {K:Frag} {A:List Addr} {H:Hp}:∀ {kvs:List (PyData×PyData)} {r:List (Key×V)},RepKs K A H kvs r->r.length=kvs.length
 | [],r,h=>by rw [repKs_nil.mp h];rfl
 | p::kvs,r,h=>by
  obtain ⟨q',r',rfl,h1,h3⟩:=repKs_cons.mp h;simp [oA h3]
theorem aZ4 {o i:Expr} {to ti:DTE} (ho:DE X o to) (hi:DE X i ti)
  (ha:∀ v,assign (.Subscript o i pos) X.env v=(do
   let ov <- holding [v] (eval o X.env)
   let iv <- holding [v,ov] (eval i X.env)
   standAt pos
   holding [v,ov,iv] (setItem ov iv v)
   release [v,ov,iv] []):=by intro _;rfl):DG X (.Subscript o i pos) (cL3 to ti):=kJ (bM5 ho hi cL2 ha) fun v σ H Q q=>by
 obtain ⟨w,δ,h,A,μ,k,R,r,q,c⟩:=q;refine ⟨δ,h,A,μ,_,R,q,fun o h1 vo H1 A1 μ1 q1 x1 R1 r1=>?_⟩;refine ⟨δ,h1,A1,μ1,_,⟨R1,R.2.ext x1 R.1.sub⟩,q1,fun i h2 vi H2 A2 μ2 q2 x2 R2 r2=>?_⟩;have x12:=x1.trans x2;split at q2
 ·rename_i j y x;split at q2
  ·rename_i xs kk ex;split at q2
   ·rename_i n en;obtain ⟨a,ea,rfl⟩:=r1.ext x2 R1.sub;have ei:=bG r2;subst ei;obtain ⟨vs,hv,rr⟩:=R2.val j a xs ea ex;refine .inl ⟨a,vs,kk,n,rfl,rfl,hv,by rw [rr.length];exact en,?_⟩;have rx:Rep X.K A2 H2 x v:=r.ext x12 R.1.sub;have hm:=List.mem_of_getElem? ea;have y:=dL (A:=A2) (o:=.lst (vs.set n v)) hm hv;exact c _ _ _ _ A2 μ2 q2 (x12.trans y) ⟨fD R2 ea (rr.set rx n),(R.2.ext x12 R.1.sub).ext y R2.sub⟩
   ·exact q2.elim
  ·rename_i kvs ex;obtain ⟨hk,hl,q2⟩:=q2;obtain ⟨kq,hk⟩:=Option.isSome_iff_exists.mp hk;obtain ⟨a,ea,rfl⟩:=r1.ext x2 R1.sub;have ei:=aZ3 (K:=X.K) (A:=A2) (H:=H2) r2 hk;subst ei;obtain ⟨vs,hv,rr⟩:=R2.vad j a kvs ea ex;refine .inr ⟨a,kq,vs,rfl,rfl,hv,by rw [oA rr];exact hl,?_⟩;have rx:Rep X.K A2 H2 x v:=r.ext x12 R.1.sub;have hm:=List.mem_of_getElem? ea;have y:=dL (A:=A2) (o:=.dK (gT vs kq v)) hm hv;exact c _ _ _ _ A2 μ2 q2 (x12.trans y) ⟨rM R2 ea (zA hk rx rr),(R.2.ext x12 R.1.sub).ext y R2.sub⟩
  ·exact q2.elim
 ·exact q2.elim
def cL4:DTE:=fun δ h Q=>Q (.c h.length) (h++[Cell.k []])
theorem aZ5 {i:Nat} {x:Str} {pos' pos2:Pos} (hN:X.N.Nodup) (hi:X.N[i]?=some x) (hx:Loc X.env.scope x) (hs:swapsWith (.Dict [] [] pos2) (some (.Name x pos')) pos.line X.env=pure false)
  (hf:X.fn x=true\/X.env.scope.names.lookup x=some .local):DS X (.Assign [.Name x pos'] (.Dict [] [] pos2) pos) (yK cL4 (nL i)):=bN (tS hN hi hx rY hs hf) fun D σ H q=>by
 obtain ⟨δ,h,A,μ,E,R,q,L⟩:=q;intro p hp;have hl:μ.length=h.length:=R.1.len;have x:=bQ (μ:=μ) (A:=A) (o:=.dK []) hp;exact L.nx _ _ _ _ (p::A) (μ++[p]) q x ⟨uI R.1 hp (repKs_nil.mpr rfl),(R.2.ext x R.1.sub).set i ⟨p,by rw [<- hl];simp,rfl⟩⟩
end DL
namespace DL
open PySem PySem.Spec PyProof.Rows L2 ST
section
variable {X:Cx}
def dC0 (to:DTE) (t:DTA):DTE:=fun δ h Q=>to δ h fun o h1=>match o with
 | .c j=>(match h1[j]? with
  | some (.l _)=>t δ h1 fun ws h2=>(match ws,h2[j]? with
   | [.d (.int i)],some (.l xs)=>∃ n x,ixN xs.length i=some n/\xs[n]?=some x/\-(2^63)<=i/\i < 2^63/\Q (.d x) (h2.set j (.l (xs.eraseIdx n)))
   | _,_=>False)
  | _=>False)
 | _=>False
theorem lK {K:Frag} {A:List Addr} {H:Hp}:∀ {xs:List PyData} {vs:List V} (n:Nat),Reps K A H xs vs->Reps K A H (xs.eraseIdx n) (vs.eraseIdx n)
 | [],vs,n,r=>by
  rw [Reps] at r;subst r;exact .nil
 | x::xs,vs,0,r=>by
  rw [Reps] at r;obtain ⟨v,vr,rfl,_,r⟩:=r;exact r
 | x::xs,vs,n+1,r=>by
  rw [Reps] at r;obtain ⟨v,vr,rfl,r1,r2⟩:=r;exact .cons r1 (lK n r2)
theorem bW4 {o e0:Expr} {es:List Expr} {to:DTE} {t:DTA} {apos cpos:Pos} (ho:DE X o to) (ha:DA X (e0::es) t)
  (hbase:attributeBase o "pop" X.env (eval o X.env)=eval o X.env:=by rfl)
  (hfew:((backTo cpos (starEach (e0::es) X.env)).all (fun x=>!x.1)&&(backToKw cpos (keywordEach [] X.env)).all (fun x=>x.1.isSome)
   && decide ((e0::es).length+([]:List Keyword).length+(if ([]:List Keyword).isEmpty then 0 else 1) < 30))=true:=by rfl)
  (hline:(apos.endLine==cpos.line)=true:=by rfl) (hs:starEach (e0::es) X.env=(false,eval e0 X.env)::starEach es X.env:=by rfl) (hplain:(backTo cpos (starEach es X.env)).any (·.1)=false:=by rfl) :
  DE X (.Call (.Attribute o "pop" apos) (e0::es) [] cpos) (dC0 to t):=aH (aD8 PySem.F.plainAttrs_list PySem.F.slot_list_pop PySem.F.type_list_pop aD9 ho ha hbase hfew hline hs hplain) fun σ H Q q=>by
 obtain ⟨δ,h,A,μ,k,R,q,c⟩:=q;refine ⟨δ,h,A,μ,_,R,q,fun o h1 vo H1 A1 μ1 q1 x1 R1 r1=>?_⟩;split at q1
 ·rename_i j;obtain ⟨a,ea,rfl⟩:=r1;split at q1
  rotate_left
  ·exact q1.elim
  rename_i xs1 ex1;obtain ⟨vs1,hv1,_⟩:=R1.val j a xs1 ea ex1;refine ⟨.inl ⟨rfl,_,SqL.of hv1⟩,δ,h1,A1,μ1,_,⟨R1,R.2.ext x1 R.1.sub⟩,q1,fun ws h2 vs H2 A2 μ2 q2 x2 R2 r2=>?_⟩;split at q2
  ·rename_i i xs ex;obtain ⟨n,x,e1,e2,i1,i2,q2⟩:=q2;obtain ⟨v,rfl,rv⟩:=cR r2;have ei:=bG rv;subst ei;have ea2:μ2[j]?=some a:=by
    obtain ⟨ν,e1,_⟩:=x2.pre;rw [e1,List.getElem?_append_left (List.getElem?_eq_some_iff.mp ea).1];exact ea
   obtain ⟨vs,hv,rr⟩:=R2.val j a xs ea2 ex;obtain ⟨y,ey,ry⟩:=rr.get e2;refine ⟨a,vs,i,n,y,rfl,rfl,hv,i1,i2,by rw [rr.length];exact (oW e1).1,ey,?_⟩;have hm:=List.mem_of_getElem? ea2;exact c _ _ _ _ A2 μ2 q2 ((x1.trans x2).trans (dL hm hv)) (fD R2 ea2 (lK n rr)) (ry.upd (R2.sub a hm))
  ·exact q2.elim
 ·exact q1.elim
end
end DL
namespace L2
open PySem PySem.Spec PyProof.Rows
theorem aI3 {prog:Program} {w:World} {A:Around} {E:Value->Shared->Prop} {s:Shared} {env:Env} {o:Expr} {name:Str} {apos pos:Pos} {args:List Expr} {Q:Value->Shared->Prop}
  (hbase:attributeBase o name env (eval o env)=eval o env)
  (hfew:((backTo pos (starEach args env)).all (fun x=>!x.1)&&(backToKw pos (keywordEach [] env)).all (fun x=>x.1.isSome)&&decide (args.length+([]:List Keyword).length+(if ([]:List Keyword).isEmpty then 0 else 1) < 30))=true)
  (hline:(apos.endLine==pos.line)=true)
  (h:wpAny (model prog w) A (eval o env) (fun ov s₁=>∀ pl,wpAny (model prog w) A (getMethod ov name pl) (fun fx s₂=>wpAny (model prog w) A (callWith pos fx.1 fx.2 (backTo pos (starEach args env)) (backToKw pos (keywordEach [] env))) Q E s₂) E s₁) E s) :
  wpAny (model prog w) A (eval (.Call (.Attribute o name apos) args [] pos) env) Q E s:=by
 rw [arm_eval_Call,hbase];refine wpAny_bind (wpAny_mono h (fun ov s₁ h₁=>?_) fun _ _ e=>e);refine wpAny_bind (wpAny_standAt ?_);have hform:methodCallForm (args.length+([]:List Keyword).length) (backTo pos (starEach args env)) (backToKw pos (keywordEach [] env))=true:=hfew;have hpos:methodCallPos true o env apos pos=pure pos:=by unfold methodCallPos;simp [hline]
 unfold methodCall;rw [hform];exact wpAny_bind (wpAny_holding (wpAny_mono (h₁ _) (fun fx s₂ h₂=>wpAny_bind (wpAny_of_eq hpos h₂)) fun _ _ x=>x))
section
variable {X:Cx} {CX:CXT} {k:Nat} {f C:Addr} {fd:FuncData} {ps:List Str} {sp:Sp} {dvs:List V} {ds:List Value} {E:XK} {m:Str} {pos apos:Pos} {e o:Expr} {es:List Expr} {ta:TE} {t:TA}
theorem aI4 (he:PE X o ta) (c:Cls X.K C) (hm:Meth X.K C m f) (F:FnOk X.prog X.w X.K X.mg X.base CX k f fd ps sp) (hr:Room k X.A) (hb:Binds X.K fd ps ds) (hd:Vals dvs ds) (hx:iT CX X E) (ha:PA X (e::es) t)
  (hbase:attributeBase o m X.env (eval o X.env)=eval o X.env)
  (hfew:((backTo pos (starEach (e::es) X.env)).all (fun x=>!x.1)&&(backToKw pos (keywordEach [] X.env)).all (fun x=>x.1.isSome)&&decide ((e::es).length+([]:List Keyword).length+(if ([]:List Keyword).isEmpty then 0 else 1) < 30))=true)
  (hline:(apos.endLine==pos.line)=true)
  (hst:starEach (e::es) X.env=(false,eval e X.env)::starEach es X.env) (hpl:(backTo pos (starEach es X.env)).any (·.1)=false) :
  PE X (.Call (.Attribute o m apos) (e::es) [] pos) (bE6 C m sp dvs E ta t):=by
 intro pins s σ H Q I h;refine aI3 hbase hfew hline (thn (he pins s σ H _ I h) fun u s1 ⟨x,H1,I1,rx,a,dx,fs,ex,ea,l,q⟩ pl=>?_);subst ex;obtain rfl:u=Value.ref a:=rx;refine tY I1 ea c hm l ?_;refine PySem.W.callWith_K (first:=[.ref a]) (h₀:=X.base) I.ok.mod.kin hm.kp (thn (ha pos pins s1 σ H1 _ I1 q) fun us s2 ⟨vs,H2,I2,r,q2⟩=>⟨I2.kIn,?_⟩) hst hpl;exact aD3 (us:=.ref a::us) (vs:=.ref a::vs) F hr hb hd hx I2 (.cons rfl r) q2
end
end L2
namespace DL
open PySem PySem.Spec PyProof.Rows L2 ST
noncomputable def jA (f:Str) (w:W):List (Str×W)->List (Str×W)
 | []=>[(f,w)]
 | (g,x)::r=>if g=f then (g,w)::r else (g,x)::jA f w r
section
variable {K:Frag} {A A' μ μ':List Addr} {H H':Hp}
theorem FsOk.len:∀ {fs:List (Str×W)} {vs:List (Str×V)},FsOk K A μ H fs vs->vs.length=fs.length
 | [],_,h=>by have e:_=[]:=h;subst e;rfl
 | p::fs,_,⟨v,vr,e,_,h⟩=>by subst e;rw [List.length_cons,List.length_cons,FsOk.len h]
theorem FsOk.none:∀ {fs:List (Str×W)} {vs:List (Str×V)} {f:Str},FsOk K A μ H fs vs->fs.lookup f=Option.none->vs.lookup f=Option.none
 | [],_,_,h,_=>by have e:_=[]:=h;subst e;rfl
 | (g,x)::fs,_,f,⟨v,vr,e,_,h⟩,l=>by
  subst e
  by_cases hq:(f==g)=true
  ·simp [List.lookup,hq] at l
  ·simp only [List.lookup,hq] at l ⊢;exact FsOk.none h l
theorem FsOk.get:∀ {fs:List (Str×W)} {vs:List (Str×V)} {f:Str} {w:W},FsOk K A μ H fs vs->fs.lookup f=some w->∃ v,vs.lookup f=some v/\RepW K A μ H w v
 | [],_,_,_,_,l=>by cases l
 | (g,x)::fs,_,f,w,⟨v,vr,e,r,h⟩,l=>by
  subst e
  by_cases hq:(f==g)=true
  ·simp only [List.lookup,hq] at l ⊢;cases l;exact ⟨v,rfl,r⟩
  ·simp only [List.lookup,hq] at l ⊢;exact FsOk.get h l
theorem FsOk.put {f:Str} {w:W} {y:V} (ry:RepW K A μ H w y):∀ {fs:List (Str×W)} {vs:List (Str×V)},FsOk K A μ H fs vs->FsOk K A μ H (jA f w fs) (fQ f y vs)
 | [],_,h=>by have e:_=[]:=h;subst e;exact ⟨y,[],rfl,ry,rfl⟩
 | (g,x)::fs,_,⟨v,vr,e,r,h⟩=>by
  subst e;unfold jA fQ;dsimp only;split
  ·exact ⟨y,vr,rfl,ry,h⟩
  ·exact ⟨v,_,rfl,r,FsOk.put ry h⟩
theorem FsOk.upd {p:Addr} {o:HO} (hp:p∈A) {fs:List (Str×W)} {vs:List (Str×V)} (h:FsOk K A μ H fs vs):FsOk K A μ (L2.upd H p o) fs vs :=
 h.go (fun b o hb e=>⟨hb,by rw [aJ (fun z=>hb (by rw [z];exact hp))];exact e⟩) fun _ _ _ e=>e
theorem IsOk.at {is:List Nat} {vs:List V}:IsOk μ is vs->∀ {k:Int} {m:Nat},atI is k=some m->∃ a,atI vs k=some (V.ref a)/\μ[m]?=some a:=by
 have len:∀ {is:List Nat} {vs:List V},IsOk μ is vs->vs.length=is.length:=fun {is}=>by
  induction is with
  | nil=>intro vs h;have e:vs=[]:=h;subst e;rfl
  | cons i is ih=>rintro vs ⟨a,vr,e,_,h⟩;subst e;rw [List.length_cons,List.length_cons,ih h]
 have get:∀ {is:List Nat} {vs:List V},IsOk μ is vs->∀ (n m:Nat),is[n]?=some m->∃ a,vs[n]?=some (V.ref a)/\μ[m]?=some a:=fun {is}=>by
  induction is with
  | nil=>intro vs h n m e;simp at e
  | cons i is ih =>
   rintro vs ⟨a,vr,e,r,h⟩ n m em;subst e;cases n with
   | zero=>simp at em;subst em;exact ⟨a,rfl,r⟩
   | succ n=>simp at em;obtain ⟨b,e1,e2⟩:=ih h n m em;exact ⟨b,by simpa using e1,e2⟩
 intro h k m e;unfold atI at e ⊢;rw [len h];cases q:ixN is.length k with
 | none=>rw [q] at e;cases e
 | some n=>rw [q] at e;exact get h n m e
end
def dC1 (K:Frag) (to:DTE) (f:Str):DTE:=fun δ h Q=>to δ h fun o h1=>match o with
 | .c j=>(match h1[j]? with
  | some (.o C fs)=>Cls K C/\NoAttr K C f/\(match fs.lookup f with
   | some w=>Q w h1
   | none=>False)
  | _=>False)
 | _=>False
def cL5 (K:Frag) (tv to:DTE) (f:Str):DTS:=fun E δ h=>tv δ h fun w h1=>to δ h1 fun o h2=>match o with
 | .c j=>(match h2[j]? with
  | some (.o C fs)=>Cls K C/\NoAttr K C f/\fs.length < 1000/\E.nx δ (h2.set j (.o C (jA f w fs)))
  | _=>False)
 | _=>False
section
variable {X:Cx} {o e value:Expr} {f:Str} {pos pos':Pos} {to tv:DTE}
theorem bW5 (he:DE X e to) (hb:attributeBase e f X.env (eval e X.env)=eval e X.env):DE X (.Attribute e f pos) (dC1 X.K to f):=aH (bN8 he hb) fun σ H Q q=>by
 obtain ⟨δ,h,A,μ,k,R,q,c⟩:=q;refine ⟨δ,h,A,μ,_,R,q,fun o h1 v H1 A1 μ1 q1 x1 R1 r1=>?_⟩;try dsimp only at q1
 split at q1
 ·rename_i j;obtain ⟨a,ea,rfl⟩:=r1;split at q1
  ·rename_i C fs ej;obtain ⟨hc,hn,q1⟩:=q1;split at q1
   ·rename_i w ew;obtain ⟨dx,vs,hv,fo⟩:=R1.cel j a _ ea ej;obtain ⟨y,e1,ry⟩:=fo.get ew;exact ⟨a,C,dx,vs,y,rfl,hv,hc,hn,e1,c w h1 y H1 A1 μ1 q1 x1 R1 ry⟩
   ·exact q1.elim
  ·exact q1.elim
 ·exact q1.elim
theorem bW6 (ho:DE X o to) (hv:DE X value tv) (hs:swapsWith value (some (.Attribute o f pos')) pos.line X.env=pure false):DS X (.Assign [.Attribute o f pos'] value pos) (cL5 X.K tv to f):=bN (bN9 ho hv hs) fun D σ H q=>by
 obtain ⟨δ,h,A,μ,E,R,q,L⟩:=q;refine ⟨δ,h,A,μ,_,R,q,fun w h1 v H1 A1 μ1 q1 x1 R1 r1=>?_⟩;have E1:=R.2.ext x1 R.1.sub;refine ⟨δ,h1,A1,μ1,_,⟨R1,E1⟩,q1,fun o h2 u H2 A2 μ2 q2 x2 R2 r2=>?_⟩;try dsimp only at q2
 split at q2
 ·rename_i j;obtain ⟨a,ea,rfl⟩:=r2;split at q2
  ·rename_i C fs ej;obtain ⟨hc,hn,hl,q2⟩:=q2;obtain ⟨dx,vs,hv,fo⟩:=R2.cel j a _ ea ej;have hA:a∈A2:=R2.sub a (List.mem_of_getElem? ea);refine ⟨a,C,dx,vs,rfl,hv,hc,hn,by rw [fo.len];exact hl,?_⟩;refine L.nx _ _ _ _ A2 μ2 q2 (x1.trans (x2.trans (dL (List.mem_of_getElem? ea) hv))) ⟨fT R2 ea ⟨dx,_,aR,?_⟩,(E1.ext x2 R1.sub).upd hA⟩;exact FsOk.put ((r1.ext x2 R1.sub).upd hA) (fo.upd hA)
  ·exact q2.elim
 ·exact q2.elim
end
abbrev lM:=List W->aA->DK->Prop
noncomputable def cZ (K:Frag) (d:lM):Sp:=fun vs H Q _=>∃ (ws:List W) (h:aA) (A μ:List Addr) (k:DK),HeapRep K A μ h H/\RepWs K A μ H ws vs/\d ws h k /\
 ∀ w h' v H' A' μ',k w h'->Ext A A' μ μ' H H'->HeapRep K A' μ' h' H'->RepW K A' μ' H' w v->Q v H'
structure DFnW (P:Program) (w:World) (K:Frag) (mg:Str->Option Value) (base:Heap) (k:Nat) (x:Str) (d:lM):Prop where
 ok:∃ (f:Addr) (fd:FuncData) (ps:List Str),FnOk P w K mg base CX0 k f fd ps (cZ K d)/\mg x=some (.ref f)/\PySem.W.keepIn K (.ref f)=true/\Binds K fd ps []
def aI5 (d:lM) (t:DTA):DTE:=fun δ h Q=>t δ h fun ws h1=>d ws h1 Q
theorem aI6 {K:Frag} {d:lM} {t:DTA} {σ:L2.St} {H:Hp} {Q:VK} (q:up K (aI5 d t) σ H Q):aD2 (cZ K d) [] E0 (upA K t) σ H Q:=by
 obtain ⟨δ,h,A,μ,k,R,q,c⟩:=q;refine ⟨δ,h,A,μ,_,R,q,fun ws h1 vs H1 A1 μ1 q1 x1 R1 r1=>?_⟩;show cZ K d (vs++[]) H1 Q E0;rw [List.append_nil];exact ⟨ws,h1,A1,μ1,_,R1,r1,q1,fun w h2 v H2 A2 μ2 q2 x2 R2 r2=>c w h2 v H2 A2 μ2 q2 (x1.trans x2) R2 r2⟩
def bI4 (C:Addr) (d:lM) (t:DTA):DTE:=fun δ h Q=>t δ h fun ws h1=>d (.c h1.length::ws) (h1++[.o C []]) fun w h2=>w=.d .none/\Q (.c h1.length) h2
theorem aZ6 {K:Frag} {C:Addr} {d:lM} {t:DTA} {σ:L2.St} {H:Hp} {Q:VK} (q:up K (bI4 C d t) σ H Q):bE7 C (cZ K d) [] E0 (upA K t) σ H Q:=by
 obtain ⟨δ,h,A,μ,k,R,q,c⟩:=q;refine ⟨δ,h,A,μ,_,R,q,fun ws h1 vs H1 A1 μ1 q1 x1 R1 r1=>?_⟩;intro x dx hx hdx ne;rw [List.append_nil];have hx':upd H1 dx (.own x) x=none:=by rw [aJ ne.symm];exact hx
 have X1:Ext A1 A1 μ1 μ1 H1 (upd H1 dx (.own x)):=bI hdx;have X2:Ext A1 (x::A1) μ1 (μ1++[x]) (upd H1 dx (.own x)) (upd (upd H1 dx (.own x)) x (.ins C dx [])):=bQ hx';have R2:HeapRep K (x::A1) (μ1++[x]) (h1++[.o C []]) (upd (upd H1 dx (.own x)) x (.ins C dx [])):=gU (R1.fresh hdx) hx' ⟨dx,[],aR,rfl⟩;have hμ:(μ1++[x])[h1.length]?=some x:=by rw [<- R1.len];simp
 refine ⟨.c h1.length::ws,h1++[.o C []],x::A1,μ1++[x],_,R2,⟨_,_,rfl,⟨x,hμ,rfl⟩,r1.ext (X1.trans X2) R1.sub⟩,q1,fun w h2 v H2 A2 μ2 q2 x2 R3 r3=>?_⟩;obtain ⟨rfl,q3⟩:=q2;have e:v=.non:=by have z:Rep K A2 H2 .none v:=r3;rw [Rep] at z;exact z
 exact ⟨e,c _ h2 _ H2 A2 μ2 q3 (x1.trans ((X1.trans X2).trans x2)) R3 ⟨x,x2.look _ _ hμ,rfl⟩⟩
def bI5 (C:Addr) (m:Str) (d:lM) (to:DTE) (t:DTA):DTE:=fun δ h Q=>to δ h fun o h1=>match o with
 | .c j=>(match h1[j]? with
  | some (.o C' fs)=>C'=C/\fs.lookup m=none/\t δ h1 fun ws h2=>d (.c j::ws) h2 Q
  | _=>False)
 | _=>False
theorem aZ7 {K:Frag} {C:Addr} {m:Str} {d:lM} {to:DTE} {t:DTA} {σ:L2.St} {H:Hp} {Q:VK} (q:up K (bI5 C m d to t) σ H Q):bE6 C m (cZ K d) [] E0 (up K to) (upA K t) σ H Q:=by
 obtain ⟨δ,h,A,μ,k,R,q,c⟩:=q;refine ⟨δ,h,A,μ,_,R,q,fun o h1 v H1 A1 μ1 q1 x1 R1 r1=>?_⟩;try dsimp only at q1
 split at q1
 ·rename_i j;obtain ⟨a,ea,rfl⟩:=r1;split at q1
  ·rename_i C' fs ej;obtain ⟨rfl,hl,q1⟩:=q1;obtain ⟨dx,vs,hv,fo⟩:=R1.cel j a _ ea ej;refine ⟨a,dx,vs,rfl,hv,fo.none hl,δ,h1,A1,μ1,_,⟨R1,R.2.ext x1 R.1.sub⟩,q1,fun ws h2 us H2 A2 μ2 q2 x2 R2 r2=>?_⟩;show cZ K d (V.ref a::(us++[])) H2 Q E0;rw [List.append_nil];exact ⟨.c j::ws,h2,A2,μ2,_,R2,⟨_,_,rfl,⟨a,x2.look _ _ ea,rfl⟩,r2⟩,q2,fun w h3 v H3 A3 μ3 q3 x3 R3 r3=>c w h3 v H3 A3 μ3 q3 (x1.trans (x2.trans x3)) R3 r3⟩
  ·exact q1.elim
 ·exact q1.elim
section
variable {X:Cx} {x m:Str} {p pos apos:Pos} {e o:Expr} {es:List Expr} {to:DTE} {t:DTA} {d:lM} {k:Nat} {C f:Addr} {fd:FuncData} {ps:List Str}
theorem aI7 (F:DFnW X.prog X.w X.K X.mg X.base k x d) (hr:Room k X.A) (ha:DA X (e::es) t) (hg:Gl X x:=by rfl) (hdb:(x==("__debug__":Str))=false:=by decide)
  (he:starEach (e::es) X.env=(false,eval e X.env)::starEach es X.env:=by rfl) (hpl:(backTo pos (starEach es X.env)).any (·.1)=false:=by rfl):DE X (.Call (.Name x p) (e::es) [] pos) (aI5 d t):=by
 obtain ⟨f,fd,ps,h1,h2,h3,h4⟩:=F.ok;exact aH (vZ h1 hr hg h2 h3 h4 .nil wD ha hdb he hpl) fun _ _ _ q=>aI6 q
theorem aZ8 (M:Mk X.K C f) (F:FnOk X.prog X.w X.K X.mg X.base CX0 k f fd ps (cZ X.K d)) (hr:Room (k+1) X.A) (hm:X.mg x=some (.ref C)) (hb:Binds X.K fd ps []) (ha:DA X (e::es) t) (hg:Gl X x:=by rfl) (hdb:(x==("__debug__":Str))=false:=by decide)
  (he:starEach (e::es) X.env=(false,eval e X.env)::starEach es X.env:=by rfl) (hpl:(backTo pos (starEach es X.env)).any (·.1)=false:=by rfl):DE X (.Call (.Name x p) (e::es) [] pos) (bI4 C d t) :=
 aH (aS0 M F hr hg hm hb .nil wD ha hdb he hpl) fun _ _ _ q=>aZ6 q
theorem aZ9 (c:Cls X.K C) (hm:Meth X.K C m f) (F:FnOk X.prog X.w X.K X.mg X.base CX0 k f fd ps (cZ X.K d)) (hr:Room k X.A) (hb:Binds X.K fd ps []) (ho:DE X o to) (ha:DA X (e::es) t)
  (hbase:attributeBase o m X.env (eval o X.env)=eval o X.env)
  (hfew:((backTo pos (starEach (e::es) X.env)).all (fun x=>!x.1)&&(backToKw pos (keywordEach [] X.env)).all (fun x=>x.1.isSome)&&decide ((e::es).length+([]:List Keyword).length+(if ([]:List Keyword).isEmpty then 0 else 1) < 30))=true)
  (hline:(apos.endLine==pos.line)=true)
  (hst:starEach (e::es) X.env=(false,eval e X.env)::starEach es X.env) (hpl:(backTo pos (starEach es X.env)).any (·.1)=false):DE X (.Call (.Attribute o m apos) (e::es) [] pos) (bI5 C m d to t) :=
 aH (aI4 ho c hm F hr hb .nil wD ha hbase hfew hline hst hpl) fun _ _ _ q=>aZ7 q
end
noncomputable def bA0:W->W->aA->DK->Prop:=fun o i h Q=>match o,i with
 | .c j,.d (.int k)=>(match h[j]? with
  | some (.r is)=>(match atI is k with
   | some m=>Q (.c m) h
   | none=>False)
  | _=>False)
 | _,_=>False
noncomputable def cL6:W->W->aA->DK->Prop:=fun o i h Q=>dIx o i h Q\/bA0 o i h Q
section
variable {X:Cx}
theorem cL7:IxR X (upR X.K cL6):=by
 intro value slice pins s σ H x y v u Q I rx ry h hs;obtain ⟨a,b,h,A,μ,k,R,ra,rb,q,c⟩:=h;rcases q with q | q
 ·exact cZ5 value slice pins s σ H x y v u Q I rx ry ⟨a,b,h,A,μ,k,R,ra,rb,q,c⟩ hs
 ·unfold bA0 at q;split at q
  ·rename_i j i;obtain ⟨p,ep,rfl⟩:=ra;have eb:=bG rb;subst eb;split at q
   ·rename_i is ej;obtain ⟨vs,hv,io⟩:=R.cel j p _ ep ej;split at q
    ·rename_i m em;obtain ⟨b,e1,e2⟩:=io.at em;exact wC value slice pins s σ H _ _ v u Q I rx ry ⟨p,vs,i,.ref b,rfl,rfl,SqL.of hv,e1,c _ _ _ _ _ _ q .refl R ⟨b,e2,rfl⟩⟩ hs
    ·exact q.elim
   ·exact q.elim
  ·exact q.elim
theorem bW7 {a b:Expr} {pos:Pos} {ta tb:DTE} (ha:DE X a ta) (hb:DE X b tb) (hs:hX b:=by intro _ _;rfl):DE X (.Subscript a b pos) (dOp cL6 ta tb):=aH (aD6 cL7 ha hb hs) fun _ _ _ q=>rN q
end
noncomputable def sB (g:DTG) (tt:DTT) (te:DTE) (c:Option Nat) (all:List PyData):List PyData->DSt->aA->List Nat->(List Nat->aA->Prop)->Prop
 | [],_,h,ac,Q=>cond c all h/\Q ac h
 | x::r,δ,h,ac,Q=>cond c all h/\g (.d x) δ h fun δ2 h2=>tt δ2 h2 fun b h3 =>
  if b=true then te δ2 h3 fun w h4=>(match w with
   | .c j=>sB g tt te c all r δ2 h4 (ac++[j]) Q
   | .d _=>False
   | .v _=>False)
  else sB g tt te c all r δ2 h3 ac Q
def aI8 (ixs:List (Option Nat)) (ti:DTI) (g:DTG) (tt:DTT) (te:DTE):DTE:=fun δ h Q=>ti δ h fun xs c h1=>sB g tt te c xs xs (aW ixs δ) h1 [] fun is h2=>Q (.c h2.length) (h2++[.r is])
theorem IsOk.snoc {μ:List Addr} {j:Nat} {b:Addr} (e:μ[j]?=some b):∀ {is:List Nat} {vs:List V},IsOk μ is vs->IsOk μ (is++[j]) (vs++[.ref b])
 | [],_,h=>by have e0:_=[]:=h;subst e0;exact ⟨b,[],rfl,e,rfl⟩
 | i::is,_,⟨a,vr,e1,r,h⟩=>by subst e1;exact ⟨a,_,rfl,r,IsOk.snoc e h⟩
section
variable {K:Frag} {A A' μ μ':List Addr} {H H':Hp} {h h':aA}
theorem zH {p:Addr} {is:List Nat} {vs:List V} (R:HeapRep K A μ h H) (h1:H p=some (.lst vs)) (h2:p∈A) (h3:p∉μ) (r:IsOk μ is vs):HeapRep K A (μ++[p]) (h++[(.r is)]) H:=by
 refine ⟨by rw [List.length_append,List.length_append,R.len];rfl,?_,fun a z=>?_,R.trk,fun i a ys e1 e2=>?_⟩
 ·rw [List.nodup_append];refine ⟨R.nd,(by simp),fun a ha b hb=>?_⟩;rw [List.mem_singleton.mp hb];rintro rfl;exact h3 ha
 ·rcases List.mem_append.mp z with z | z
  ·exact R.sub a z
  ·rw [List.mem_singleton.mp z];exact h2
 ·by_cases hi:i < μ.length
  ·rw [List.getElem?_append_left hi] at e1;rw [List.getElem?_append_left (by rw [<- R.len];exact hi)] at e2;exact (R.cel i a ys e1 e2).anti (fun _ z=>z) fun j _ b eb=>by rw [List.getElem?_append_left (List.getElem?_eq_some_iff.mp eb).1];exact eb
  ·have hle:μ.length<=i:=Nat.le_of_not_lt hi;rw [List.getElem?_append_right hle] at e1;rw [List.getElem?_append_right (by rw [<- R.len];exact hle),<- R.len] at e2;have hz:i - μ.length=0:=by
    have:=(List.getElem?_eq_some_iff.mp e1).1;simp at this;omega
   rw [hz] at e1 e2;simp at e1 e2;subst e1 e2;exact ⟨vs,h1,r.go fun j _ a e=>by rw [List.getElem?_append_left (List.getElem?_eq_some_iff.mp e).1];exact e⟩
end
section
variable {X:Cx} {tg iter elt:Expr} {ifs:List Expr} {sc S:Scope} {N':List Str} {ixs:List (Option Nat)} {body:List Stmt} {ti:DTI} {g:DTG} {tb:DTS} {tt:DTT} {te:DTE} {pos:Pos}
theorem aI9 {σ:L2.St} {H:Hp} {Q:VK} (q:up X.K (aI8 ixs ti g tt te) σ H Q):wF ixs (upI X.K ti) (upG X.K g) (upT X.K tt) (up X.K te) σ H Q:=by
 obtain ⟨δ,h,A,μ,k,R,q,c⟩:=q;refine ⟨δ,h,A,μ,_,R,q,fun xs cc h1 J H2 A1 μ1 q1 x1 R1 hz hcd it=>?_⟩;intro acc hacc;have nA:=R1.notA hacc;have E1:=nM (ixs:=ixs) (R.2.ext x1 R.1.sub);refine ⟨fun i m ys σ' H'=>∃ δ' h' A' μ' ac,m=xs.length - i/\i<=xs.length/\H' acc=some (.lst ys)/\acc∈A'/\acc∉μ'/\Ext A1 A' μ1 μ' H2 H'/\Ab X.K A' μ' δ' h' σ' H'/\IsOk μ' ac ys/\ys.length<=i/\sB g tt te cc xs (xs.drop i) δ' h' ac fun is h2=>k (.c h2.length) (h2++[.r is]),
  ⟨_,aW ixs δ,h1,acc::A1,μ1,[],rfl,Nat.zero_le _,aR,List.mem_cons_self,fun z=>nA (R1.sub _ z),dS hacc,⟨jO R1 hacc,E1.ext (dS hacc) R1.sub⟩,rfl,Nat.le_refl _,by simpa using q1⟩,?_⟩
 rintro i m ys σ' H' ⟨δ',h',A',μ',ac,rfl,hi,a1,a2,a3,y,R',rr,hyl,q'⟩
 by_cases hlt:i < xs.length
 ·rw [List.drop_eq_getElem_cons hlt] at q';obtain ⟨hcond,q'⟩:=q';obtain ⟨it1,_⟩:=it A' μ' H' h' y R'.1 hcond;obtain ⟨go,yl⟩:=it1 i xs[i] (by simp [hlt]);refine .inr ⟨go,fun v H3 hy=>?_⟩;obtain ⟨y2,R2,r2⟩:=yl v H3 hy;refine ⟨.d xs[i],δ',h',A',μ',_,⟨R2,R'.2.ext y2 R'.1.sub⟩,r2,q',fun δ4 h4 σ4 H4 A4 μ4 q4 x4 R4=>?_⟩;refine ⟨δ4,h4,A4,μ4,_,R4,q4,fun b h5 H5 A5 μ5 q5 x5 R5=>?_⟩;have z5:=(y2.trans x4).trans x5;obtain ⟨b1,b2,b3⟩:=iD z5 a1 a2 a3;dsimp only at q5 ⊢;cases b with
  | false =>
   rw [if_neg Bool.false_ne_true] at q5;rw [if_neg Bool.false_ne_true];exact ⟨xs.length - (i+1),by omega,δ4,h5,A5,μ5,ac,rfl,hlt,b1,b2,b3,y.trans z5,⟨R5,R4.2.ext x5 R4.1.sub⟩,rr.go (fun j _ a=>z5.look j a),by omega,q5⟩
  | true =>
   rw [if_pos rfl] at q5;rw [if_pos rfl];refine ⟨δ4,h5,A5,μ5,_,⟨R5,R4.2.ext x5 R4.1.sub⟩,q5,fun w h6 v6 H6 A6 μ6 q6 x6 R6 r6=>?_⟩;have z6:=z5.trans x6;obtain ⟨c1,c2,c3⟩:=iD z6 a1 a2 a3;cases w with
   | d x=>exact q6.elim
   | v u=>exact q6.elim
   | c j =>
    obtain ⟨bj,ebj,rfl⟩:=r6;have hl6:ys.length < sizeLine:=by omega
    refine ⟨c1,hl6,xs.length - (i+1),by omega,δ4,h6,A6,μ6,ac++[j],rfl,hlt,aR,c2,c3,(y.trans z6).aside hacc,⟨kU R6 c2 c3,((R4.2.ext x5 R4.1.sub).ext x6 R5.sub).upd c2⟩,?_,?_,q6⟩
    ·exact (rr.go (fun j _ a=>z6.look j a)).snoc ebj
    ·rw [List.length_append,List.length_singleton];omega
 ·have e:i=xs.length:=by omega
  subst e;rw [List.drop_length] at q';obtain ⟨hcond,q'⟩:=q';obtain ⟨_,it2⟩:=it A' μ' H' h' y R'.1 hcond;have x2:=x1.trans y;obtain ⟨ν,e1,_⟩:=x2.pre;have hn:μ'.length=h'.length:=R'.1.len;refine .inl ⟨it2 _ (Nat.le_refl _),a1,c _ _ _ H' A' (μ'++[acc]) q' (x2.addc (x1.back hacc)) ?_ ⟨acc,by rw [<- hn];simp,rfl⟩⟩;exact zH R'.1 a1 a2 a3 rr
theorem aJ0 {N:List Str} (hxe:X.xe=fun _ _=>False) (hc:X.calm=true) (hS:X.env.scope=S) (hXN:X.N=N) (SC:CompSc N N' ixs S sc) (hi:DI X tg iter ti)
  (hg:∀ cl C s H fp,DG (blk X N' sc cl C s H fp) tg g) (ht:∀ cl C s H fp,DIf (blk X N' sc cl C s H fp) ifs tt) (he:∀ cl C s H fp,DE (blk X N' sc cl C s H fp) elt te)
  (hs:∀ x,foldedSetIterable iter X.env x=pure x:=by intro _;rfl):DE X (.ListComp elt [⟨tg,iter,ifs,0⟩] sc pos) (aI8 ixs ti g tt te) :=
 aH (wG (N':=N') (ixs:=ixs) (g:=upG X.K g) (tt:=upT X.K tt) (te:=up X.K te) hxe hc hS (by rw [hXN];exact SC) hi hg ht he hs) fun _ _ _ q=>aI9 q
end
noncomputable def aJ1 (k:DK):DEnds where
 nx:=fun _ h=>k (.d .none) h
 rt:=k
section
variable {P:Program} {w:World} {K:Frag} {mg:Str->Option Value} {base:Heap}
theorem dC2 {x qual:Str} {st:Stmt} {f:Addr} {fd:FuncData} {N ps:List Str} {k:Nat} {d:lM} (F:Fun K x qual st f fd) (S:FnScope N ps (aE st)) (len:∀ ws h k,d ws h k->ws.length=ps.length)
  (hbody:∀ (cdv:Value) (A:Around) (outer:List Env) (s:Shared) (H:Hp) (E:XK),fd.code=cdv->Room k (A.deeper (envOfC qual (aE st) s.heap.objs.size f cdv)) ->
   ∃ t,DSs (mL CX0 P w K mg base N qual (aE st) f cdv A outer s H E).nox (aX st) t/\∀ ws h kk,d ws h kk->t (aJ1 kk) (fF N ws) h):FnOk P w K mg base CX0 (k+1) f fd ps (cZ K d):=by
 refine cJ9 F S (fun vs H Q E ⟨ws,h,A,μ,kk,R,r,q,c⟩=>by rw [gG r];exact len _ _ _ q) fun cdv A outer s H vs Q E hcd hr hsp=>?_;obtain ⟨ws,h,B,μ,kk,R,r,q,c⟩:=hsp;obtain ⟨t,ht,hq⟩:=hbody cdv A outer s H E hcd hr;refine ⟨_,ht,fF N ws,h,B,μ,aJ1 kk,⟨R,nO r⟩,hq ws h kk q,⟨fun δ' h' σ' H' A' μ' q' x' R'=>?_,fun δ' h' σ' H' A' μ' q' x' R'=>q'.elim,fun δ' h' σ' H' A' μ' q' x' R'=>q'.elim,fun z h' v H' A' μ' q' x' R' r'=>?_⟩⟩
 ·exact c _ h' _ H' A' μ' q' x' R'.1 (show Rep K A' H' .none .non by rw [Rep])
 ·exact c z h' v H' A' μ' q' x' R' r'
end
end DL
namespace ST
open PySem PySem.Spec PyProof.Rows
section
variable {prog:Program} {w:World} {A:Around} {E:Value->Shared->Prop} {s:Shared} {R:Result->Shared->Prop}
theorem pO {l:Addr} {items:Array Value} {ns:List Int} {Q:Value->Shared->Prop} (hh:A.handled=none) (hl:s.heap.IsTuple l items) (hi:IntsAre items.toList ns) (hb:items.size+1 < scanBound)
  (h:∀ h' tk,SetI prog w h' s.heap.objs.size (dd ns)->(∀ b o,s.heap.get? b=some o->h'.get? b=some o)->Q (.ref s.heap.objs.size) { s with heap:=h',toks:=tk }) :
  wpAny (model prog w) A (call (.type "set") [.ref l]) Q E s:=by
 have hnz:ns.length=items.size:=by have:=IntsAre.length hi;simpa using this.symm
 obtain ⟨c,tl,mro⟩:=PySem.F.called_set.mro;have made:=PySem.F.called_set.made;have sub:=PySem.F.called_set.sub;refine wpAny_call (codeAny_of_tree (wpAny_pure ⟨Code.quiet_builtin _ (by decide +kernel),codeAny_builtin PySem.F.entry_type_call ?_⟩));rw [Around.under_plain (weight_type_call_type "set" [.ref l] []) rfl];have h1:=PySem.F.called_set.notType;have h2:=PySem.F.called_set.canCreate;have h3:=PySem.F.typeCall_set_1 (.ref l)
 repeat (any_goals (first | assumption | wp_step))
 refine codeAny_mono (aH8 (.ref l) (E:=E) (Q₁:=fun obj s₁=>obj=.ref s.heap.objs.size/\s₁={ s with heap:=s.heap.push (lH w) }) ⟨rfl,rfl⟩) fun r s₁ hr=>?_;cases r with
 | error e=>exact hr
 | ok fl =>
  cases fl with
  | ret obj =>
   obtain ⟨rfl,rfl⟩:=hr;have gS:(s.heap.push (lH w)).get? s.heap.objs.size=some (lH w):=Heap.get?_push_size _ rfl;have hT:Shared.TypeIs { s with heap:=s.heap.push (lH w) } (.ref s.heap.objs.size) "set":=⟨_,gS,rfl⟩;have look:=PySem.F.called_set.init.lookup;have bnd:=PySem.F.called_set.init.bind (.ref s.heap.objs.size)
   repeat (any_goals (first | assumption | wp_step))
   refine codeAny_mono (codeAny_call_builtin (R:=wants (fun r s₂=>r=.none/\∃ h' tk,s₂={ s with heap:=h',toks:=tk }/\SetI prog w h' s.heap.objs.size (dd ns)/\(∀ b o,s.heap.get? b=some o->h'.get? b=some o)) E)
    PySem.F.called_set.init.plain PySem.F.entry_set_init (check_set_init_1 hT ?_)) fun r₂ s₂ hr₂=>?_
   ·obtain ⟨ol,hol,hcl,nl,hdl⟩:=hl;obtain ⟨oc,od,odt,osl⟩:=ol;dsimp only at hcl hdl;subst hcl;subst hdl;have hol2:(s.heap.push (lH w)).get? l=some { cls:=.type "tuple",dict:=od,data:=.seq items nl,slots:=osl }:=Heap.get?_push_of_some _ hol;have f1:=PySem.F.sub_tuple_set;have f2:=PySem.F.sub_tuple_frozenset;have f3:(Value.type "tuple"==Value.type "dict")=false:=by decide
    have il:(s.heap.push (lH w)).IsTuple l items:=⟨_,hol2,rfl,nl,rfl⟩;unfold Builtin.«set.__init__» noKeywords Builtin.Frozenset.updateFrom;generalize hPI:pyIter=PI
    wp_walk
    subst hPI;refine wpAny_pyIter_tuple il (wpAny_bind (wpAny_runValue ?_));have lt:l < s.heap.objs.size:=Heap.lt_size hol;have sz:(s.heap.push (lH w)).objs.size=s.heap.objs.size+1:=by rw [Heap.size_push]
    have hne:l≠(s.heap.push (lH w)).objs.size:=by rw [sz];exact Nat.ne_of_lt (Nat.lt_succ_of_lt lt)
    have hSf:s.heap.objs.size∉[(s.heap.push (lH w)).objs.size,l]:=by
     rw [sz];simp only [List.mem_cons,List.not_mem_nil,or_false,not_or];exact ⟨Nat.ne_of_lt (Nat.lt_succ_self _),Nat.ne_of_gt lt⟩
    refine aH7 (Walks.tuple (A:=A.in1.in1.in1) (by simp [hh]) _ l hne items) s.heap.objs.size hSf (fun i=>ns.getD i 0) (fun i v hv=>IntsAre.int_at hi i v (by rw [Array.getElem?_toList];exact hv)) hb (items.size - 0) 0 _ rfl (Nat.zero_le _)
     ⟨⟨_,Heap.get?_push_size _ rfl,rfl,rfl⟩,il.push _⟩ ⟨_,_,_,_,Heap.get?_push_of_some _ gS,zF⟩ fun h' tk si kp=>?_
    rw [<- hnz,aH9] at si;refine wpAny_pure (wpAny_pure ⟨rfl,h',tk,rfl,si,fun b o e=>?_⟩);have bl:b < s.heap.objs.size:=Heap.lt_size e;refine kp b o (Nat.ne_of_lt bl) ?_ (Heap.get?_push_of_some _ (Heap.get?_push_of_some _ e));simp only [List.mem_singleton];rw [sz];exact Nat.ne_of_lt (Nat.lt_succ_of_lt bl)
   ·cases r₂ with
    | error e=>exact hr₂
    | ok fl₂ =>
     cases fl₂ with
     | ret r =>
      obtain ⟨rfl,h',tk,rfl,si,kp⟩:=hr₂
      repeat (any_goals (first | assumption | wp_step))
      exact h _ _ si kp
     | _=>exact hr₂.elim
  | _=>exact hr.elim
end
end ST
namespace L2
open PySem PySem.Spec PyProof.Rows ST
section
variable {X:Cx}
def tLS (K:Frag) (t:TA):TE:=fun σ H Q=>t σ H fun vs H1=>∃ (a:Addr) (ns:List Int),vs=[.ref a]/\SqT K H1 a (ns.map V.int)/\ns.length<=62/\Q (.int (dd ns).length) H1
theorem bA1 {e:Expr} {t:TA} {p p2 pos pos2:Pos} (hc:X.calm=true) (hg:Gl X "len") (hm:X.mg "len"=none) (hg2:Gl X "set") (hm2:X.mg "set"=none) (ha:PA X [e] t) (hs:starEach [e] X.env=[(false,eval e X.env)]) :
  PE X (.Call (.Name "len" p) [.Call (.Name "set" p2) [e] [] pos2] [] pos) (tLS X.K t):=by
 intro pins s σ H Q I h;refine wpAny_Call_Name_kw (dP (u:=.builtin "len") I hg hm (by decide +kernel) ?_ (by decide) (by decide));refine PyProof.Rows.callWith_builtin1 (wM (by rfl) ?_) rfl rfl;refine wpAny_Call_Name_kw (dP (u:=.type "set") I hg2 hm2 (by decide +kernel) ?_ (by decide) (by decide));refine PyProof.Rows.callWith_type1 (thn (ha pos2 pins s σ H _ I h) fun us s1 ⟨vs,H1,I1,r1,a,ns,e1,sq,hn,q⟩=>?_) hs rfl;subst e1;obtain ⟨u,rfl,ru⟩:=jK r1;cases ru;obtain ⟨its,rv,pl,hz⟩:=I1.tuple sq;have hl:=rv.length;rw [List.length_map] at hl;have sb:scanBound=4096:=rfl;refine pO (I.ok.hd hc) (show s1.heap.IsTuple a its.toArray from pl) (by simpa using aY9 rv) (by simp;omega) fun h2 tk2 si k2=>?_;obtain ⟨o,es,ep,tt,ho,pt⟩:=si;have hsz:es.size=(dd ns).length:=by
  have:=pt.ks.length_eq
  simpa using this
 have hd:=bW1 ns;refine call_len_set ho pt.ex pt.dat pt.fit (by omega) ?_;rw [hsz];exact ⟨.int (dd ns).length,H1,I1.kept (t':=_) k2,⟨_,rfl⟩,q⟩
theorem zI:cN X (.type "int") (fun xs H Q=>∃ b:Bool,xs=[.bl b]/\Q (.int (if b then 1 else 0)) H):=by
 intro pins s σ H xs us Q I r h;obtain ⟨b,rfl,q⟩:=h;obtain ⟨u,rfl,ru⟩:=jK r;cases (show u=Value.bool b from ru);exact call_int_bool ⟨.int (if b then 1 else 0),H,I.tok _,⟨_,rfl⟩,q⟩
def tLR (t:TA):TE:=fun σ H Q=>t σ H fun vs H1=>∃ j:Int,vs=[.int j]/\(-(2^62)<=j/\j < 2^62/\j<=16000000)/\∀ p,H1 p=none->Q (.ref p) (upd H1 p (.lst ((List.range j.toNat).map fun (k:Nat)=>V.int k)))
theorem zJ {e:Expr} {t:TA} {p p2 pos pos2:Pos} (hc:X.calm=true) (hg:Gl X "list") (hm:X.mg "list"=none) (hg2:Gl X "range") (hm2:X.mg "range"=none) (ha:PA X [e] t)
  (hs:starEach [e] X.env=[(false,eval e X.env)]) :
  PE X (.Call (.Name "list" p) [.Call (.Name "range" p2) [e] [] pos2] [] pos) (tLR t):=by
 intro pins s σ H Q I h;refine wpAny_Call_Name_kw (dP (u:=.type "list") I hg hm (by decide +kernel) ?_ (by decide) (by decide));refine PyProof.Rows.callWith_type1 (wM (by rfl) ?_) rfl rfl;refine wpAny_Call_Name_kw (dP (u:=.type "range") I hg2 hm2 boot_range ?_ (by decide) (by decide));refine PyProof.Rows.callWith_type1 (thn (ha pos2 pins s σ H _ I h) fun us s1 ⟨vs,H1,I1,r1,j,e1,⟨b3,b4,b5⟩,q⟩=>?_) hs rfl;subst e1;obtain ⟨u,rfl,ru⟩:=jK r1;obtain ⟨t2,rfl⟩:=ru;refine call_range_1 ?_;refine call_list_range (n:=j.toNat) (I.ok.hd hc) (IsRange.new ..) (small_one (by decide) (by decide) b3 b4) (by rw [rangeSize_one];split<;>omega) (by omega) fun h' tk acc c' k hS hacc=>?_;rw [Heap.size_push] at hS ⊢;have k1:∀ b o,s1.heap.get? b=some o->h'.get? b=some o:=fun b o e=>k b o (Heap.get?_push_of_some _ e);have sz:s1.heap.objs.size<=s1.heap.objs.size+1:=Nat.le_succ _;refine ⟨.ref (s1.heap.objs.size+1),_,I1.laid (t':=tk) k1 sz ?_,rfl,q _ (I1.hok.fresh sz)⟩;refine ⟨by rw [List.length_map,List.length_range,sizeLine_eq];omega,acc.toList,c',?_,by rw [Array.toArray_toList];exact hS⟩;have gen:∀ (l:List Value) (m:List V),l.length=m.length->(∀ (k:Nat) v,l[k]?=some v->∃ x,m[k]?=some x/\RelV x v)->Vals m l:=by
  intro l;induction l with
  | nil=>intro m hm _;rw [List.length_eq_zero_iff.mp hm.symm];exact .nil
  | cons v l ih =>
   intro m hm hv;cases m with
   | nil=>simp at hm
   | cons x m =>
    obtain ⟨x',e1,e2⟩:=hv 0 v rfl;simp at e1;subst e1;exact .cons e2 (ih m (by simpa using hm) fun k v e=>hv (k+1) v (by simpa using e))
 refine gen _ _ (by simp [hacc.1]) fun k v e=>?_;rw [Array.getElem?_toList] at e;obtain ⟨tk,rfl⟩:=hacc.2 k v e;have hk:k < j.toNat:=by have:=(Array.getElem?_eq_some_iff.mp e).1;rw [hacc.1] at this;exact this
 exact ⟨V.int k,by simp [hk],tk,by simp⟩
end
end L2
namespace DL
open PySem PySem.Spec PyProof.Rows L2 ST
section
variable {X:Cx}
def cL8 (t:DTA):DTE:=fun δ h Q=>t δ h fun ws h1=>∃ xs ns,ws=[.d (.tuple xs)]/\gQ xs=some ns/\ns.length<=62/\Q (.d (.int (dd ns).length)) h1
theorem bA2 {e:Expr} {t:DTA} {p p2 pos pos2:Pos} (hc:X.calm=true) (hg:Gl X "len") (hm:X.mg "len"=none) (hg2:Gl X "set") (hm2:X.mg "set"=none) (ha:DA X [e] t) (hs:starEach [e] X.env=[(false,eval e X.env)]) :
  DE X (.Call (.Name "len" p) [.Call (.Name "set" p2) [e] [] pos2] [] pos) (cL8 t):=aH (bA1 hc hg hm hg2 hm2 ha hs) fun σ H Q q=>by
 obtain ⟨δ,h,A,μ,k,R,q,c⟩:=q;refine ⟨δ,h,A,μ,_,R,q,fun ws h1 vs H1 A1 μ1 q1 x1 R1 r1=>?_⟩;obtain ⟨xs,ns,rfl,en,hl,q1⟩:=q1;obtain ⟨v,rfl,rv⟩:=cR r1;obtain ⟨a,vs,rfl,sq,rs⟩:=bF (h:=h1) rv rfl;have ev:=nY en rs;subst ev;exact ⟨a,ns,rfl,sq.sq,hl,c _ h1 _ H1 A1 μ1 q1 x1 R1 (show Rep X.K A1 H1 (.int _) _ by rw [Rep])⟩
noncomputable def aJ2:List W->aA->Option (W×aA)
 | [.d (.bool b)],h=>some (.d (.int (if b then 1 else 0)),h)
 | _,_=>none
theorem zK:cN X (.type "int") (upC X.K (OfX aJ2)):=by
 intro pins s σ H xs us Q I r h;obtain ⟨ws,h,A,μ,k,R,rw',⟨rr,h',e,q⟩,c⟩:=h;unfold aJ2 at e;split at e
 ·rename_i h0 b;cases e;obtain ⟨v,rfl,rv⟩:=cR rw';have ev:v=.bl b:=by have z:Rep X.K A H (.bool b) v:=rv;rw [Rep] at z;exact z
  subst ev;exact zI pins s σ H _ us Q I r ⟨b,rfl,c _ _ _ _ _ _ q .refl R (show Rep X.K A H (.int _) _ by rw [Rep])⟩
 ·cases e
def dC3 (t:DTA):DTF:=fun δ h Q=>t δ h fun ws h1=>∃ j:Int,ws=[.d (.int j)]/\(-(2^62)<=j/\j < 2^62/\j<=16000000)/\Q (rng 0 j.toNat) h1
theorem zL {e:Expr} {t:DTA} {p p2 pos pos2:Pos} (hc:X.calm=true) (hg:Gl X "list") (hm:X.mg "list"=none) (hg2:Gl X "range") (hm2:X.mg "range"=none) (ha:DA X [e] t)
  (hs:starEach [e] X.env=[(false,eval e X.env)]):DF X (.Call (.Name "list" p) [.Call (.Name "range" p2) [e] [] pos2] [] pos) (dC3 t):=aH (zJ hc hg hm hg2 hm2 ha hs) fun σ H Q q=>by
 obtain ⟨δ,h,A,μ,k,R,q,c⟩:=q;refine ⟨δ,h,A,μ,_,R,q,fun ws h1 vs H1 A1 μ1 q1 x1 R1 r1=>?_⟩;obtain ⟨j,rfl,hb,q1⟩:=q1;obtain ⟨v,rfl,rv⟩:=cR r1;have e1:Rep X.K A1 H1 (.int j) v:=rv;rw [Rep] at e1;subst e1;obtain ⟨ν,e2,_⟩:=x1.pre;have rr:=aI1 (K:=X.K) (A:=A1) (H:=H1) 0 j.toNat;simp only [Int.zero_add] at rr;exact ⟨j,rfl,hb,fun b hf=>c _ h1 _ _ _ μ1 q1 (x1.trans (bQ hf)) ⟨ν,e2⟩ (x1.back hf) (cP R1 hf rr)⟩
def dC4 (to:DTE) (tf:DTF):DTE:=fun δ h Q=>to δ h fun o h1=>match o with
 | .c j=>(match h1[j]? with
  | some (.l _)=>tf δ h1 fun ys h2=>(match h2[j]? with
   | some (.l xs)=>xs.length+ys.length<=sizeLine/\Q (.d .none) (h2.set j (.l (xs++ys)))
   | _=>False)
  | _=>False)
 | _=>False
theorem bW8 {o e0:Expr} {to:DTE} {tf:DTF} {apos cpos:Pos} (ho:DE X o to) (ha:DF X e0 tf)
  (hbase:attributeBase o "extend" X.env (eval o X.env)=eval o X.env)
  (hfew:((backTo cpos (starEach [e0] X.env)).all (fun x=>!x.1)&&(backToKw cpos (keywordEach [] X.env)).all (fun x=>x.1.isSome)&&decide ([e0].length+([]:List Keyword).length+(if ([]:List Keyword).isEmpty then 0 else 1) < 30))=true)
  (hline:(apos.endLine==cpos.line)=true) (hs:starEach [e0] X.env=(false,eval e0 X.env)::starEach [] X.env) :
  DE X (.Call (.Attribute o "extend" apos) [e0] [] cpos) (dC4 to tf):=aH (aD8 PySem.F.plainAttrs_list PySem.F.slot_list_extend PySem.F.type_list_extend xZ ho (kG ha uC hs) hbase hfew hline hs rfl) fun σ H Q q=>by
 obtain ⟨δ,h,A,μ,k,R,q,c⟩:=q;refine ⟨δ,h,A,μ,_,R,q,fun o h1 vo H1 A1 μ1 q1 x1 R1 r1=>?_⟩;try dsimp only at q1
 split at q1
 ·rename_i j;obtain ⟨a,ea,rfl⟩:=r1;split at q1
  ·rename_i xs1 ex1;obtain ⟨vs1,hv1,_⟩:=R1.val j a xs1 ea ex1;refine ⟨.inl ⟨rfl,_,SqL.of hv1⟩,?_⟩;refine ⟨δ,h1,A1,μ1,_,⟨R1,R.2.ext x1 R.1.sub⟩,q1,fun ys h2 p H2 A2 μ2 q2 x2 hm hp R2=>?_⟩;split at q2
   ·rename_i xs ex;have ea2:μ2[j]?=some a:=by
     obtain ⟨ν,e1⟩:=hm;rw [e1,List.getElem?_append_left (List.getElem?_eq_some_iff.mp ea).1];exact ea
    have hl2:μ2.length=h2.length:=by simpa using R2.1.len
    obtain ⟨vy,hvy,ry⟩:=R2.1.val μ2.length p ys (by simp) (by rw [hl2];simp);obtain ⟨F1,_⟩:=fU R2.1 R2.2;have xf:=gW R1 hp x2 hm;obtain ⟨vx,hvx,rx⟩:=F1.val j a xs ea2 ex;obtain ⟨hz,q2⟩:=q2;have an:∀ b∈A2.filter (fun b=>decide (b≠p)),b∈A2:=fun b z=>(List.mem_filter.mp z).1;have ry':=ry.anti an;refine ⟨a,p,vx,vy,rfl,rfl,hvx,hvy,by rw [rx.length,ry.length];exact hz,?_⟩;have hA:a∈A2.filter (fun b=>decide (b≠p)):=F1.sub a (List.mem_of_getElem? ea2);refine c (.d .none) _ .non (upd H2 a (.lst (vx++vy))) (A2.filter fun b=>decide (b≠p)) μ2 q2 (x1.trans (xf.trans (dL (List.mem_of_getElem? ea2) hvx))) (fD F1 ea2 (ry'.append rx)) ?_;show Rep X.K (A2.filter fun b=>decide (b≠p)) (upd H2 a (.lst (vx++vy))) .none .non;rw [Rep]
   ·exact q2.elim
  ·exact q1.elim
 ·exact q1.elim
end
end DL
namespace CI
open PySem PySem.Spec PyProof.Rows L2 DL ST
abbrev XR (α:Type):=DSt->aA->Option (α×aA)
inductive Fl where
 | nx (δ:DSt) | rt (w:W) | bk (δ:DSt) | ct (δ:DSt)
abbrev XS:=DSt->aA->Option (Fl×aA)
abbrev XG:=W->DSt->aA->Option (DSt×aA)
abbrev XF:=List W->aA->Option (PyData×aA)
abbrev XFW:=List W->aA->Option (W×aA)
structure ObS where
 fnW:Str->Option XFW
 cls:Str->Option (Addr×XFW)
 om:Str->Option (Addr×XFW)
 fo:Addr->Str->Bool
noncomputable def xno {α:Type}:XR α:=fun _ _=>none
noncomputable def aC {α:Type} (a:α):XR α:=fun _ h=>some (a,h)
noncomputable def xb {α β:Type} (x:XR α) (f:α->XR β):XR β:=fun δ h=>(x δ h).bind fun p=>f p.1 δ p.2
structure Sta where
 bl:List Str
 gc:Str->Option PyData
 tk:Str->Option (Str->Option Int)
 fn:Str->Option XF
 ac:Str->List Nat
 cv:List Str
 N:List Str
 S:Scope
 top:Bool
 fuel:Nat
 ob:ObS
structure Evs where
 E:Sta->Expr->XR W
 T:Sta->Expr->XR Bool
 F:Sta->Expr->XR (List PyData)
 G:Sta->Expr->XG
 S:Sta->Stmt->XS
noncomputable def Evs.no:Evs:=⟨fun _ _=>xno,fun _ _=>xno,fun _ _=>xno,fun _ _ _ _ _=>none,fun _ _ _ _=>none⟩
noncomputable def eL (x:Str):Bool:=!(x==("__debug__":Str))&&(!(x==("__classdict__":Str))&&!(x==("__name__":Str)))
noncomputable def bW9 (S:Scope) (x:Str):Bool:=match S.names.lookup x with
 | some .local=>true
 | some .cell=>true
 | some .free=>true
 | _=>false
noncomputable def uP (S:Scope) (x:Str):Bool:=match S.names.lookup x with
 | some .local=>true
 | some .cell=>true
 | _=>false
noncomputable def dX (S:Scope) (x:Str):Bool:=match S.names.lookup x with
 | some .local=>true
 | _=>false
noncomputable def glB (S:Scope) (x:Str):Bool:=match S.names.lookup x with
 | some .globalImplicit=>true
 | _=>false
noncomputable def slot (st:Sta) (x:Str):Option Nat:=st.N.findIdx? (·==x)
noncomputable def aB (i:Nat):XR W:=fun δ h=>match δ[i]? with
 | some (some w)=>some (w,h)
 | _=>none
noncomputable def jZ (st:Sta) (x:Str):Bool:=eL x&&glB st.S x
noncomputable def aJ3 (st:Sta) (x:Str):XR W:=if eL x=true then
  (match slot st x with
   | some i=>if bW9 st.S x=true then aB i else xno
   | none=>(match st.gc x with
    | some d=>if glB st.S x=true then aC (.d d) else xno
    | none=>xno))
 else xno
noncomputable def aJ4:Const->XR W
 | .none=>aC (.d .none)
 | .bool b=>aC (.d (.bool b))
 | .int i=>aC (.d (.int i))
 | .str x=>if PyData.strOk x=true then aC (.d (.str x)) else xno
 | _=>xno
mutual
noncomputable def aM:Nat->PyData->Bool
 | _,.none=>true
 | _,.bool _=>true
 | _,.int _=>true
 | _,.str _=>true
 | n+1,.list xs=>plainsB n xs
 | n+1,.tuple xs=>plainsB n xs
 | _,_=>false
noncomputable def plainsB:Nat->List PyData->Bool
 | _,[]=>true
 | n,x::xs=>aM n x&&plainsB n xs
end
noncomputable def fN (i j:Int):Bool:=(decide (-(2^64) < i)&&decide (i < 2^64))||(decide (-(2^64) < j)&&decide (j < 2^64))
noncomputable def aU (j:Int):Bool:=decide (0 < j)&&(decide (j < 1073741824)||decide (j.natAbs.log2 < 8000))
noncomputable def sC (i j:Int):Bool:=decide (0<=j)&&(decide (j<=1000000)&&decide (i.natAbs < 2^64))
noncomputable def bX0 (u w:W) (h:aA):Option (W×aA):=match u,w with
 | .d (.int i),.d (.int j)=>some (.d (.int (i+j)),h)
 | .d (.tuple xs),.d (.tuple ys)=>if xs.length+ys.length<=sizeLine then some (.d (.tuple (xs++ys)),h) else none
 | _,_=>(match ref h u,ref h w with
  | some (.list xs),some (.list ys)=>if xs.length+ys.length<=sizeLine then some (.d (.list (xs++ys)),h) else none
  | _,_=>none)
noncomputable def bX1 (u w:W) (h:aA):Option (W×aA):=match u,w with
 | .d (.int i),.d (.int j)=>if fN i j=true then some (.d (.int (i*j)),h) else none
 | _,_=>none
noncomputable def eO (op:Operator) (u w:W) (h:aA):Option (W×aA):=match op with
 | .Add=>bX0 u w h
 | .Mult=>bX1 u w h
 | _=>(match u,w with
  | .d (.int i),.d (.int j)=>(match op with
   | .Sub=>some (.d (.int (i - j)),h)
   | .FloorDiv=>if aU j=true then some (.d (.int (i / j)),h) else none
   | .Mod=>if 0 < j then some (.d (.int (i%j)),h) else none
   | .Pow=>if sC i j=true then some (.d (.int (i^j.toNat)),h) else none
   | .RShift=>if 0<=j then some (.d (.int (i / 2^j.toNat)),h) else none
   | .BitAnd=>some (.d (.int (Builtin.bitAnd i j)),h)
   | _=>none)
  | _,_=>none)
noncomputable def aJ5:CmpOp->Option (Int->Int->Bool)
 | .Lt=>some fun i j=>decide (i < j)
 | .LtE=>some fun i j=>decide (i<=j)
 | .Gt=>some fun i j=>decide (j < i)
 | .GtE=>some fun i j=>decide (j<=i)
 | _=>none
noncomputable def xEq (u w:W) (h:aA):Option Bool:=match ref h u,ref h w with
 | some a,some b=>if (aM 64 a&&aM 64 b)=true then some (PyData.eqv a b) else none
 | _,_=>none
noncomputable def xIs (u w:W):Option Bool:=match u,w with
 | .d a,.d b=>DL.isSame a b
 | _,_=>none
noncomputable def xIn (u w:W) (h:aA):Option Bool:=match ref h u,ref h w with
 | some d,some (.list xs)=>if (aM 64 (.list xs)&&aM 64 d)=true then some (xs.any fun z=>PyData.eqv z d) else none
 | some d,some (.tuple xs)=>if (aM 64 (.tuple xs)&&aM 64 d)=true then some (xs.any fun z=>PyData.eqv z d) else none
 | some d,some (.dict kvs)=>(match aY d with
  | some k=>some (kvs.any fun p=>decide (aY p.1=some k))
  | none=>none)
 | _,_=>none
noncomputable def cC (op:CmpOp) (u w:W) (h:aA):Option (Bool×aA):=match op with
 | .Eq=>(xEq u w h).map fun b=>(b,h)
 | .NotEq=>(xEq u w h).map fun b=>(!b,h)
 | .Is=>(xIs u w).map fun b=>(b,h)
 | .IsNot=>(xIs u w).map fun b=>(!b,h)
 | .In=>(xIn u w h).map fun b=>(b,h)
 | .NotIn=>(xIn u w h).map fun b=>(!b,h)
 | _=>(match u,w with
  | .d (.int i),.d (.int j)=>(aJ5 op).map fun p=>(p i j,h)
  | _,_=>none)
noncomputable def asW (p:Bool×aA):W×aA:=(.d (.bool p.1),p.2)
noncomputable def xIr (u:W) (k:Int) (h:aA):Option (W×aA):=match u with
 | .c j=>(match h[j]? with
  | some (.r is)=>(atI is k).map fun m=>(.c m,h)
  | _=>none)
 | _=>none
noncomputable def xIx (u w:W) (h:aA):Option (W×aA):=match ref h u,w with
 | some (.list xs),.d (.int i)=>(atI xs i).map fun v=>(.d v,h)
 | some (.tuple xs),.d (.int i)=>(atI xs i).map fun v=>(.d v,h)
 | some (.dict kvs),.d d=>(match aY d with
  | some k=>(kvs.find? fun p=>decide (aY p.1=some k)).map fun p=>(.d p.2,h)
  | none=>none)
 | none,.d (.int k)=>xIr u k h
 | _,_=>none
noncomputable def xSl (u:W) (lo hi:Option Int) (h:aA):Option (W×aA):=match u with
 | .d (.tuple xs)=>some (.d (.tuple (cut xs lo hi)),h)
 | _=>(match ref h u with
  | some (.list xs)=>some (.d (.list (cut xs lo hi)),h)
  | _=>none)
noncomputable def cD:List W->aA->Option (W×aA)
 | [w],h=>(match ref h w with
  | some (.list xs)=>some (.d (.int xs.length),h)
  | some (.tuple xs)=>some (.d (.int xs.length),h)
  | _=>none)
 | _,_=>none
noncomputable def bY:List W->aA->Option (W×aA)
 | [w],h=>(match ref h w with
  | some (.list xs)=>some (.d (.tuple xs),h)
  | some (.tuple xs)=>some (.d (.tuple xs),h)
  | _=>none)
 | _,_=>none
noncomputable def iI:List W->aA->Option (W×aA)
 | [w],h=>(match ref h w with
  | some (.list xs)=>(eE xs).map fun bs=>(.d (.bool (bs.all id)),h)
  | _=>none)
 | _,_=>none
noncomputable def bX2 (x:Str):Option (List W->aA->Option (W×aA)) :=
 if x="len" then some cD else if x="tuple" then some bY else if x="all" then some iI else if x="int" then some aJ2 else none
noncomputable def bX3 (T:Str):Option String :=
 if T="int" then some "int" else if T="bool" then some "bool" else if T="str" then some "str" else if T="tuple" then some "tuple" else if T="list" then some "list" else none
mutual
noncomputable def peq:PyData->PyData->Bool
 | .none,.none=>true
 | .bool a,.bool b=>a==b
 | .int a,.int b=>a==b
 | .str a,.str b=>a==b
 | .list a,.list b=>peqs a b
 | .tuple a,.tuple b=>peqs a b
 | _,_=>false
noncomputable def peqs:List PyData->List PyData->Bool
 | [],[]=>true
 | x::a,y::b=>peq x y&&peqs a b
 | _,_=>false
end
noncomputable def condB:Option Nat->List PyData->aA->Bool
 | none,_,_=>true
 | some i,xs,h=>(match h[i]? with
  | some (.l ys)=>peqs ys xs
  | _=>false)
noncomputable def cI (g:XG) (tb:XS) (c:Option Nat) (all:List PyData):List PyData->DSt->aA->Option (Fl×aA)
 | [],δ,h=>if condB c all h=true then some (.nx δ,h) else none
 | x::r,δ,h=>if condB c all h=true then
   (g (.d x) δ h).bind fun p=>(tb p.1 p.2).bind fun q=>(match q.1 with
    | .nx δ'=>cI g tb c all r δ' q.2
    | .ct δ'=>cI g tb c all r δ' q.2
    | .bk δ'=>some (.nx δ',q.2)
    | .rt w=>some (.rt w,q.2))
  else none
noncomputable def aO (g:XG) (tt:XR Bool) (te:XR W) (c:Option Nat) (all:List PyData):List PyData->DSt->aA->List PyData->Option (List PyData×aA)
 | [],_,h,ac=>if condB c all h=true then some (ac,h) else none
 | x::r,δ,h,ac=>if condB c all h=true then
   (g (.d x) δ h).bind fun p=>(tt p.1 p.2).bind fun q=>if q.1=true then
     (te p.1 q.2).bind fun y=>(match y.1 with
      | .d z=>aO g tt te c all r p.1 y.2 (ac++[z])
      | _=>none)
    else aO g tt te c all r p.1 q.2 ac
  else none
noncomputable def aK:Expr->Bool
 | .Starred _ _=>false
 | _=>true
noncomputable def bR (x:XR (List PyData)):XR W:=fun δ h=>(x δ h).bind fun p=>some (.c p.2.length,p.2++[.l p.1])
noncomputable def aQ (x:XR (List PyData)):XR W:=fun δ h=>(x δ h).bind fun p=>some (.d (.list p.1),p.2)
noncomputable def oB (f:Str->Option Int) (x:XR W):XR Bool:=xb x fun w=>(match w with
 | .d (.str s)=>aC (!(f s).isSome)
 | .d .none=>aC true
 | _=>xno)
noncomputable def xC1 (op:CmpOp) (x y:XR W):XR Bool:=xb x fun u=>xb y fun w=>fun _ h=>cC op u w h
noncomputable def xC2 (op op':CmpOp) (x y z:XR W):XR Bool:=xb x fun u=>xb y fun w=>fun δ h=>(cC op u w h).bind fun p=>if p.1=true then (z δ p.2).bind fun q=>cC op' w q.1 q.2 else some (false,p.2)
noncomputable def xC3 (op op' op'':CmpOp) (x y z t:XR W):XR Bool:=xb x fun u=>xb y fun w=>fun δ h=>(cC op u w h).bind fun p =>
 if p.1=true then (z δ p.2).bind fun q=>(cC op' w q.1 q.2).bind fun p'=>if p'.1=true then (t δ p'.2).bind fun q'=>cC op'' q.1 q'.1 q'.2 else some (false,p'.2) else some (false,p.2)
noncomputable def cE (x:XR Bool):XR W:=fun δ h=>(x δ h).map asW
noncomputable def pQ:List XG->List PyData->DSt->aA->Option (DSt×aA)
 | [],[],δ,h=>some (δ,h)
 | g::gs,x::xs,δ,h=>(g (.d x) δ h).bind fun p=>pQ gs xs p.1 p.2
 | _,_,_,_=>none
noncomputable def eX (gs:List XG):XG:=fun w δ h=>(match w with
 | .d (.tuple xs)=>pQ gs xs δ h
 | _=>none)
section
variable (v:Evs) (st:Sta)
noncomputable def cK:List Expr->XR (List W)
 | []=>aC []
 | e::es=>if aK e=true then xb (v.E st e) fun w=>xb (cK es) fun ws=>aC (w::ws) else xno
noncomputable def dC5:Expr->Bool
 | .Name _ _=>true
 | _=>false
noncomputable def zM:Option Expr->XR (Option Int)
 | none=>aC none
 | some e=>xb (v.E st e) fun w=>(match w with
  | .d (.int i)=>aC (some i)
  | _=>xno)
noncomputable def aJ6:List Expr->XR W
 | []=>xno
 | [a]=>v.E st a
 | a::b::r=>xb (v.E st a) fun w=>(match w with
  | .d (.bool true)=>aJ6 (b::r)
  | .d (.bool false)=>aC (.d (.bool false))
  | _=>xno)
noncomputable def bX4:List Expr->XR W
 | []=>xno
 | [a]=>v.E st a
 | a::b::r=>xb (v.E st a) fun w=>(match w with
  | .d (.bool true)=>aC (.d (.bool true))
  | .d (.bool false)=>bX4 (b::r)
  | _=>xno)
noncomputable def aJ7:List Expr->XR Bool
 | []=>xno
 | [a]=>v.T st a
 | a::b::r=>xb (v.T st a) fun c=>if c=true then aJ7 (b::r) else aC false
noncomputable def bX5:List Expr->XR Bool
 | []=>xno
 | [a]=>v.T st a
 | a::b::r=>xb (v.T st a) fun c=>if c=true then aC true else bX5 (b::r)
noncomputable def jS:Expr->Option (Str->Option Int)
 | .Name x _=>if jZ st x&&(slot st x).isNone then st.tk x else none
 | _=>none
noncomputable def iJ (a:Expr) (ops:List CmpOp) (cs:List Expr):XR Bool:=match ops,cs with
 | [op],[b]=>(match jS st b with
  | some f=>if op=.NotIn then oB f (v.E st a) else xno
  | none=>if behindInMarks op b=true then xno else xC1 op (v.E st a) (v.E st b))
 | [op,op'],[b,c]=>if lastMarks [op,op'] [b,c]=true then xno else xC2 op op' (v.E st a) (v.E st b) (v.E st c)
 | _,_=>xno
noncomputable def jB (a:Expr) (ops:List CmpOp) (cs:List Expr):XR Bool:=match ops,cs with
 | [op,op',op''],[b,c,d]=>if lastMarks [op,op',op''] [b,c,d]=true then xno else xC3 op op' op'' (v.E st a) (v.E st b) (v.E st c) (v.E st d)
 | _,_=>iJ v st a ops cs
noncomputable def gA (i j:Int):Bool:=decide (j - i<=16000000)&&(decide (-(2^62)<=i)&&(decide (i < 2^62)&&(decide (-(2^62)<=j)&&decide (j < 2^62))))
noncomputable def bU (x:XR W):XR (List PyData×Option Nat):=xb x fun w=>fun _ h=>(match w with
 | .d (.list xs)=>some ((xs,none),h)
 | .d (.tuple xs)=>some ((xs,none),h)
 | .c i=>(match h[i]? with
  | some (.l xs)=>some ((xs,some i),h)
  | _=>none)
 | _=>none)
noncomputable def jT:Expr->Bool
 | .Set _ _ _=>true
 | _=>false
noncomputable def sD:Expr->Bool
 | .Tuple _ _ _=>true
 | _=>false
noncomputable def sE (tg e:Expr):XR (List PyData×Option Nat):=match e with
 | .Call (.Name x _) [a] [] _=>if x="range" then (if jZ st x&&(slot st x).isNone&&st.bl.contains x&&aK a then xb (v.E st a) fun w=>fun _ h=>(match w with
   | .d (.int j)=>if gA 0 j=true then some ((rng 0 j.toNat,none),h) else none
   | _=>none) else xno)
  else if x="enumerate" then (if jZ st x&&(slot st x).isNone&&st.bl.contains x&&aK a&&sD tg then xb (v.E st a) fun u=>fun _ h=>(match fZ u with
   | some xs=>some ((lJ xs,none),h)
   | none=>none) else xno)
  else bU (v.E st e)
 | .Call (.Name x _) [a,b] [] _=>if x="range" then (if jZ st x&&(slot st x).isNone&&st.bl.contains x&&aK a&&aK b then xb (v.E st a) fun u=>xb (v.E st b) fun w=>fun _ h=>(match u,w with
   | .d (.int i),.d (.int j)=>if gA i j=true then some ((rng i (j - i).toNat,none),h) else none
   | _,_=>none) else xno)
  else if x="zip" then (if jZ st x&&(slot st x).isNone&&st.bl.contains x&&aK a&&aK b&&sD tg then xb (v.E st a) fun u=>xb (v.E st b) fun w=>fun _ h=>(match fZ u,fZ w with
   | some xs,some ys=>some ((lF xs ys,none),h)
   | _,_=>none) else xno)
  else bU (v.E st e)
 | _=>if jT e=true then xno else bU (v.E st e)
noncomputable def uQ (sc:Scope):List Str:=(sc.names.filter fun p=>(p.2==.local||p.2==.free)&&!(p.1==(".0":Str))).map (·.1)
noncomputable def oC (N:List Str) (sc:Scope):List (Option Nat):=(uQ sc).map fun x=>if sc.names.lookup x=some .free then N.findIdx? (·==x) else none
noncomputable def bX6 (sc S:Scope):Scope:={ sc with names:=sc.names.map fun (n,k)=>if (k==.free&&S.kind==.function&&S.names.lookup n==some .cell) then (n,.cell) else (n,k) }
noncomputable def sG (N:List Str) (sc S:Scope):Bool :=
 decide (sc.kind=.function)&&((sc.names.all fun y=>!(y.2==.cell))&&((sc.names.all fun y=>!(y.2==.local)||(sc.names.lookup y.1==some .local)) &&
  ((sc.names.all fun y=>!(y.2==.free)||(S.names.lookup y.1==some .cell||S.names.lookup y.1==some .free))&&(decide (uQ sc).Nodup &&
   (((oC N sc).zip (uQ sc)).all fun p=>match p.1 with
    | none=>true
    | some i=>decide (N[i]?=some p.2)&&decide (sc.names.lookup p.2=some NameKind.free))))))
noncomputable def Sta.blk (sc:Scope):Sta:={ st with N:=uQ sc,S:=bX6 sc st.S,top:=false }
noncomputable def bX7:List Expr->XR Bool
 | []=>aC true
 | [c]=>v.T st c
 | _=>xno
noncomputable def oE (elt tg iter:Expr) (ifs:List Expr) (sc:Scope):XR (List PyData) :=
 if sG st.N sc st.S&&!jT iter then xb (sE v st tg iter) fun p=>fun δ h=>aO (v.G (st.blk sc) tg) (bX7 v (st.blk sc) ifs) (v.E (st.blk sc) elt) p.2 p.1 p.1 (aW (oC st.N sc) δ) h [] else xno
noncomputable def xPl (x:XR (List W)):XR (List PyData):=xb x fun ws=>fun _ h=>(match cQ ws with
 | some xs=>if xs.length<=sizeLine then some (xs,h) else none
 | none=>none)
noncomputable def rgA:List Expr->Option Expr
 | [.Call (.Name y _) [b] [] _]=>if y="range" then some b else none
 | _=>none
noncomputable def okC (x:Str):Bool:=jZ st x&&(slot st x).isNone&&st.bl.contains x
noncomputable def eY (e:Expr):XR (List PyData):=match e with
 | .List es _=>xPl (cK v st es)
 | .ListComp elt [⟨tg,iter,ifs,a⟩] sc _=>if a=0 then oE v st elt tg iter ifs sc else xno
 | .Subscript a (.Slice lo hi none _) _=>xb (v.E st a) fun x=>xb (zM v st lo) fun l=>xb (zM v st hi) fun u=>fun _ h=>(match ref h x with
  | some (.list xs)=>some (cut xs l u,h)
  | _=>none)
 | .BinOp a .Add b _=>xb (v.E st a) fun u=>xb (v.E st b) fun w=>fun _ h=>(match ref h u,ref h w with
  | some (.list xs),some (.list ys)=>if xs.length+ys.length<=sizeLine then some (xs++ys,h) else none
  | _,_=>none)
 | .BinOp (.List es p) .Mult b _=>xb (bR (xPl (cK v st es))) fun u=>xb (v.E st b) fun w=>fun _ h=>(match u,w with
  | .c i,.d (.int k)=>(match h[i]? with
   | some (.l xs)=>if -(2^63)<=k/\k < 2^63/\xs.length*k.toNat<=sizeLine then some ((List.replicate k.toNat xs).flatten,h) else none
   | _=>none)
  | _,_=>none)
 | .Call (.Name x _) (a::es) [] _=>if x="list" then (match rgA (a::es) with
  | some b=>if okC st x&&okC st "range"&&aK b then xb (cK v st [b]) fun ws=>fun _ h=>(match ws with
   | [.d (.int j)]=>if -(2^62)<=j/\j < 2^62/\j<=16000000 then some (rng 0 j.toNat,h) else none
   | _=>none) else xno
  | none=>if jZ st x&&(slot st x).isNone&&st.bl.contains x then xb (cK v st (a::es)) fun ws=>fun _ h=>(match ws with
  | [w]=>(match ref h w with
   | some (.list xs)=>some (xs,h)
   | some (.tuple xs)=>some (xs,h)
   | _=>none)
  | _=>none) else xno) else xno
 | _=>xno
noncomputable def bA3:Expr->Bool
 | .Slice _ _ _ _=>true
 | _=>false
noncomputable def gZ:Expr->Bool
 | .Call _ _ _ _=>false
 | _=>true
noncomputable def bX8 (m:Str):Option (W->List W->aA->Option (W×aA)) :=
 if m="append" then some fun o ws h=>(match o,ws with
  | .c j,[.d x]=>(match h[j]? with
   | some (.l xs)=>if xs.length < sizeLine then some (.d .none,h.set j (.l (xs++[x]))) else none
   | _=>none)
  | _,_=>none)
 else none
noncomputable def kA (m:Str) (w:W) (h:aA):Bool:=if m="append" then (match w with
  | .c j=>(match h[j]? with
   | some (.l _)=>true
   | _=>false)
  | _=>false) else true
noncomputable def bI6 (o:Expr) (m:Str) (g:W->List W->aA->Option (W×aA)) (args:List Expr):XR W:=xb (v.E st o) fun w=>fun δ h=>if kA m w h=true then (cK v st args δ h).bind fun p=>g w p.1 p.2 else none
noncomputable def aJ8 (j:Nat) (ws:List W) (h:aA):Option (W×aA):=match ws,h[j]? with
 | [.d (.int i)],some (.l xs)=>(ixN xs.length i).bind fun n=>(xs[n]?).bind fun x=>if -(2^63)<=i/\i < 2^63 then some (.d x,h.set j (.l (xs.eraseIdx n))) else none
 | _,_=>none
noncomputable def cL9 (o a:Expr):XR W:=xb (v.E st o) fun w=>fun δ h=>match w with
 | .c j=>(match h[j]? with
  | some (.l _)=>(cK v st [a] δ h).bind fun p=>aJ8 j p.1 p.2
  | _=>none)
 | _=>none
noncomputable def cM0 (o a:Expr):XR W:=xb (v.E st o) fun w=>fun δ h=>match w with
 | .c j=>(match h[j]? with
  | some (.l _)=>(v.F st a δ h).bind fun p=>(match p.2[j]? with
   | some (.l xs)=>if xs.length+p.1.length<=sizeLine then some (.d .none,p.2.set j (.l (xs++p.1))) else none
   | _=>none)
  | _=>none)
 | _=>none
noncomputable def wN:Expr->Bool
 | .Name _ _=>true
 | .Call (.Name _ _) (_::_) [] _=>true
 | _=>false
noncomputable def xMk (C:Addr) (m:XFW) (ws:List W) (h:aA):Option (W×aA):=(m (.c h.length::ws) (h++[.o C []])).bind fun p=>match p.1 with
 | .d .none=>some (.c h.length,p.2)
 | _=>none
noncomputable def xMo (o:Expr) (m:Str) (C:Addr) (g:XFW) (args:List Expr):XR W:=xb (v.E st o) fun w=>fun δ h=>match w with
 | .c j=>(match h[j]? with
  | some (.o C' fs)=>if C'=C/\fs.lookup m=none then (cK v st args δ h).bind fun p=>g (.c j::p.1) p.2 else none
  | _=>none)
 | _=>none
noncomputable def cM1 (o:Expr) (f:Str):XR W:=xb (v.E st o) fun w=>fun _ h=>match w with
 | .c j=>(match h[j]? with
  | some (.o C fs)=>if st.ob.fo C f=true then (fs.lookup f).map fun w=>(w,h) else none
  | _=>none)
 | _=>none
noncomputable def wO (f:Expr) (args:List Expr) (pos:Pos):XR W:=match f with
 | .Name x _=>if jZ st x&&(slot st x).isNone then
   (match st.ob.fnW x with
   | some m=>(match args with
     | []=>xno
     | _::_=>xb (cK v st args) fun ws=>fun _ h=>m ws h)
   | none=>match st.ob.cls x with
   | some (C,m)=>(match args with
     | []=>xno
     | _::_=>xb (cK v st args) fun ws=>fun _ h=>xMk C m ws h)
   | none=>match st.fn x with
    | some m=>(match args with
     | []=>xno
     | _::_=>xb (cK v st args) fun ws=>fun _ h=>(m ws h).bind fun p=>some (.d p.1,p.2))
    | none=>if st.bl.contains x then
      (match bX2 x with
       | some g=>(match args with
        | []=>xno
        | _::_=>xb (cK v st args) fun ws=>fun _ h=>g ws h)
       | none=>if x="isinstance" then
         (match args with
          | [e,.Name T _]=>if aK e&&jZ st T&&(slot st T).isNone&&st.bl.contains T then (match bX3 T with
            | some Ts=>xb (v.E st e) fun w=>fun _ h=>(ref h w).bind fun d=>some (.d (.bool (isi d Ts)),h)
            | none=>xno) else xno
          | _=>xno)
        else aQ (eY v st (.Call f args [] pos)))
     else xno)
   else xno
 | .Attribute o m apos=>match st.ob.om m with
  | some (C,g)=>(match args with
    | []=>xno
    | _::_=>if wN o&&(apos.endLine==pos.line)&&decide (args.length < 29)&&args.all aK then xMo v st o m C g args else xno)
  | none=>if gZ o&&(apos.endLine==pos.line) then
   (match args with
    | []=>xno
    | a::es=>if m="pop" then (match es with
      | []=>if aK a=true then cL9 v st o a else xno
      | _=>xno)
     else if m="extend" then (match es with
      | []=>if aK a=true then cM0 v st o a else xno
      | _=>xno)
     else if decide (args.length < 29) then (match bX8 m with
     | some g=>bI6 v st o m g args
     | none=>xno) else xno)
   else xno
 | _=>xno
noncomputable def xLS:List W->aA->Option (W×aA)
 | [.d (.tuple xs)],h=>(match gQ xs with
  | some ns=>if ns.length<=62 then some (.d (.int (ST.dd ns).length),h) else none
  | none=>none)
 | _,_=>none
noncomputable def okB (x:Str):Bool:=jZ st x&&(slot st x).isNone&&st.bl.contains x&&(st.fn x).isNone
noncomputable def aJ9 (f:Expr) (args:List Expr) (pos:Pos):XR W:=match f,args with
 | .Name x _,[.Call (.Name y _) as [] _]=>if x="len"/\y="set" then (match as with
   | [a]=>if okB st x&&okB st y&&aK a then xb (cK v st [a]) fun ws=>fun _ h=>xLS ws h else xno
   | _=>xno)
  else wO v st f args pos
 | _,_=>wO v st f args pos
noncomputable def aK0 (e:Expr):XR W:=match e with
 | .Name x _=>aJ3 st x
 | .Constant c _ _=>aJ4 c
 | .BinOp a op b _=>(match a,op with
  | .List es p,.Mult=>aQ (eY v st (.BinOp (.List es p) .Mult b p))
  | _,_=>xb (v.E st a) fun u=>xb (v.E st b) fun w=>fun _ h=>eO op u w h)
 | .Compare a ops cs _=>cE (jB v st a ops cs)
 | .BoolOp .And vs _=>aJ6 v st vs
 | .BoolOp .Or vs _=>bX4 v st vs
 | .UnaryOp .Not a _=>xb (v.E st a) fun w=>(match w with
  | .d (.bool b)=>aC (.d (.bool (!b)))
  | _=>xno)
 | .UnaryOp .USub a _=>xb (v.E st a) fun w=>(match w with
  | .d (.int i)=>aC (.d (.int (-i)))
  | _=>xno)
 | .IfExp c a b _=>xb (v.T st c) fun t=>if t=true then v.E st a else v.E st b
 | .Tuple es _ _=>xb (xPl (cK v st es)) fun xs=>aC (.d (.tuple xs))
 | .List es p=>aQ (eY v st (.List es p))
 | .ListComp elt gs sc p=>aQ (eY v st (.ListComp elt gs sc p))
 | .Subscript a s _=>(match s with
  | .Slice lo hi none _=>xb (v.E st a) fun x=>xb (zM v st lo) fun l=>xb (zM v st hi) fun u=>fun _ h=>xSl x l u h
  | _=>if bA3 s=true then xno else (match jS st a with
   | some f=>xb (v.E st s) fun w=>(match w with
    | .d (.str z)=>(match f z with
     | some i=>aC (.d (.int i))
     | none=>xno)
    | _=>xno)
   | none=>xb (v.E st a) fun x=>xb (v.E st s) fun y=>fun _ h=>xIx x y h))
 | .Call f args [] p=>aJ9 v st f args p
 | .Attribute o f _=>if gZ o=true then cM1 v st o f else xno
 | .Dict [] [] _=>aC (.d (.dict []))
 | _=>xno
noncomputable def aK1 (e:Expr):XR Bool:=match e with
 | .UnaryOp .Not a _=>xb (v.T st a) fun b=>aC (!b)
 | .BoolOp .And vs _=>aJ7 v st vs
 | .BoolOp .Or vs _=>bX5 v st vs
 | .Compare a ops cs _=>iJ v st a ops cs
 | .IfExp _ _ _ _=>xno
 | _=>xb (v.E st e) fun w=>(match w with
  | .d (.bool b)=>aC b
  | _=>xno)
noncomputable def aK2:List Expr->List XG
 | []=>[]
 | e::es=>v.G st e::aK2 es
noncomputable def cM2 (es:List Expr) (xs:List PyData) (δ:DSt) (h:aA):Option (DSt×aA):=pQ (aK2 v st es) xs δ h
noncomputable def aK3 (e:Expr):XG:=match e with
 | .Name x _=>(match slot st x with
  | some i=>if uP st.S x&&(st.top||dX st.S x) then fun w δ h=>some (δ.set i (some w),h) else fun _ _ _=>none
  | none=>fun _ _ _=>none)
 | .Tuple es _ _=>if es.all aK=true then eX (aK2 v st es) else fun _ _ _=>none
 | .Subscript o i _=>if bA3 i=true then fun _ _ _=>none else fun w δ h=>(v.E st o δ h).bind fun p=>(v.E st i δ p.2).bind fun q=>(match p.1,q.1,w with
  | .c j,.d y,.d x=>(match q.2[j]?,y with
   | some (.l xs),.int k=>(ixN xs.length k).map fun n=>(δ,q.2.set j (.l (xs.set n x)))
   | some (.k kvs),_=>if (aY y).isSome=true/\kvs.length < sizeLine then some (δ,q.2.set j (.k (pJ kvs y x))) else none
   | _,_=>none)
  | _,_,_=>none)
 | _=>fun _ _ _=>none
noncomputable def dF (g:XG) (tt:XR Bool) (te:XR W) (c:Option Nat) (all:List PyData):List PyData->DSt->aA->List Nat->Option (List Nat×aA)
 | [],_,h,ac=>if condB c all h=true then some (ac,h) else none
 | x::r,δ,h,ac=>if condB c all h=true then
   (g (.d x) δ h).bind fun p=>(tt p.1 p.2).bind fun q=>if q.1=true then
     (te p.1 q.2).bind fun y=>(match y.1 with
      | .c j=>dF g tt te c all r p.1 y.2 (ac++[j])
      | _=>none)
    else dF g tt te c all r p.1 q.2 ac
  else none
noncomputable def aK4 (tg iter:Expr) (ifs:List Expr) (sc:Scope):XR W :=
 if sG st.N sc st.S&&!jT iter then xb (sE v st tg iter) fun p=>fun δ h=>(dF (v.G (st.blk sc) tg) (bX7 v (st.blk sc) ifs) (bR (xPl (aC []))) p.2 p.1 p.1 (aW (oC st.N sc) δ) h []).bind fun q=>some (.c q.2.length,q.2++[.r q.1]) else xno
noncomputable def bX9 (e:Expr):XR W:=match e with
 | .ListComp (.List [] _) [⟨tg,iter,ifs,a⟩] sc _=>if a=0 then aK4 v st tg iter ifs sc else xno
 | _=>v.E st e
noncomputable def bI7 (o:Expr) (f:Str) (e:Expr):XS:=fun δ h=>(bX9 v st e δ h).bind fun p=>(v.E st o δ p.2).bind fun q=>match q.1 with
 | .c j=>(match q.2[j]? with
  | some (.o C fs)=>if st.ob.fo C f=true/\fs.length < 1000 then some (.nx δ,q.2.set j (.o C (jA f p.1 fs))) else none
  | _=>none)
 | _=>none
noncomputable def lN:Expr->Bool
 | .ListComp _ _ _ _=>true
 | .SetComp _ _ _ _=>true
 | .DictComp _ _ _ _ _=>true
 | _=>false
noncomputable def cM3 (e tg:Expr):Bool:=sD e&&(match tg with
 | .Tuple _ _ _=>true
 | .List _ _=>true
 | _=>false)
noncomputable def xSs:List Stmt->XS
 | [],δ,h=>some (.nx δ,h)
 | s::r,δ,h=>(v.S st s δ h).bind fun p=>(match p.1 with
  | .nx δ'=>xSs r δ' p.2
  | f=>some (f,p.2))
noncomputable def cM4:Expr->Bool
 | .Dict [] [] _=>true
 | _=>false
noncomputable def aK5:XR W:=fun _ h=>some (.c h.length,h++[.k []])
noncomputable def aZ (i:Nat) (x:XR W):XS:=fun δ h=>(x δ h).bind fun p=>some (.nx (δ.set i (some p.1)),p.2)
noncomputable def swB (e:Expr) (x:Str) (px:Pos):Bool:=match e with
 | .ListComp _ _ sc p=>dX st.S x&&(px.line==p.line)&&!(sc.names.any fun (n,k)=>n==x&&(k==.local||k==.cell))
 | _=>false
noncomputable def aK6 (s:Stmt):XS:=match s with
 | .Return (some e) _=>fun δ h=>(v.E st e δ h).bind fun p=>some (.rt p.1,p.2)
 | .If c a b _=>fun δ h=>(v.T st c δ h).bind fun p=>if p.1=true then xSs v st a δ p.2 else xSs v st b δ p.2
 | .Expr e _=>if lN e=true then fun _ _=>none else fun δ h=>(v.E st e δ h).bind fun p=>some (.nx δ,p.2)
 | .Pass _=>fun δ h=>some (.nx δ,h)
 | .Break _=>fun δ h=>some (.bk δ,h)
 | .Continue _=>fun δ h=>some (.ct δ,h)
 | .For tg iter body [] _=>if jT iter=true then fun _ _=>none else fun δ h=>(sE v st tg iter δ h).bind fun p=>cI (v.G st tg) (xSs v st body) p.1.2 p.1.1 p.1.1 δ p.2
 | .Assign [.Name x px] e _=>(match slot st x with
  | some i=>if uP st.S x&&(st.top||dX st.S x) then
    (if lN e=true then (if (swB st e x px||!(dX st.S x))=true then aZ i (if st.cv.contains x=true then bR (eY v st e) else aQ (eY v st e)) else fun _ _=>none)
    else if (st.cv.contains x&&cM4 e)=true then aZ i aK5
    else if (st.cv.contains x&&!dC5 e)=true then aZ i (bR (v.F st e)) else aZ i (v.E st e))
   else fun _ _=>none
  | none=>fun _ _=>none)
 | .Assign [.Attribute o f _] e _=>bI7 v st o f e
 | .Assign [tg] e _=>if (lN e||cM3 e tg||!(aK tg))=true then fun _ _=>none else fun δ h=>(v.E st e δ h).bind fun p=>(v.G st tg p.1 δ p.2).bind fun q=>some (.nx q.1,q.2)
 | _=>fun _ _=>none
end
noncomputable def step (v:Evs):Evs:=⟨aK0 v,aK1 v,eY v,aK3 v,aK6 v⟩
noncomputable def evs:Nat->Evs
 | 0=>.no
 | n+1=>step (evs n)
noncomputable def aP (s:Stmt):List Str:=(bM s).args.map (·.arg)
noncomputable def hG (s:Stmt):List Str:=aP s++((aE s).names.filter fun p=>(p.2==.local||p.2==.cell)&&!((aP s).contains p.1)).map (·.1)
noncomputable def fnB (s:Stmt):Bool:=decide ((aE s).kind=.function)&&(!(aE s).isCoroutine&&(!(aE s).isGenerator&&(decide (hG s).Nodup&&(((aP s).all fun x=>uP (aE s) x)&&((aE s).names.all fun y=>!(y.2==.free))))))
open Classical in
noncomputable def ends (h0:aA) (p:Fl×aA):Option (PyData×aA):=if okP h0 p.2 then (match p.1 with
 | .nx _=>some (.none,p.2.take h0.length)
 | .rt (.d z)=>some (z,p.2.take h0.length)
 | .rt (.c i)=>(match p.2[i]? with
  | some (.l xs)=>if h0.length<=i then some (.list xs,p.2.take h0.length) else none
  | some (.k kvs)=>if h0.length<=i then some (.dict kvs,p.2.take h0.length) else none
  | _=>none)
 | _=>none) else none
noncomputable def jU (p:Fl×aA):Option (W×aA):=match p.1 with
 | .nx _=>some (.d .none,p.2)
 | .rt w=>some (w,p.2)
 | _=>none
structure Top where
 bl:List Str
 gc:Str->Option PyData
 tk:Str->Option (Str->Option Int)
 defs:Str->Option Stmt
 ac:Str->List Nat
 cv:Str->List Str
 fuel:Nat
 deep:Nat
 wf:Str->Bool
 ini:Str->Option (Addr×Stmt)
 mt:Str->Option (Addr×Stmt)
 fo:Addr->Str->Bool
noncomputable def Top.sta (t:Top) (fn:Str->Option XF) (ob:ObS) (x:Str) (s:Stmt):Sta:=⟨t.bl,t.gc,t.tk,fn,t.ac,t.cv x,hG s,aE s,true,t.fuel,ob⟩
noncomputable def jV (t:Top) (fn:Str->Option XF) (ob:ObS) (x:Str) (s:Stmt):XF:=fun ws h =>
 if fnB s=true/\ws.length=(aP s).length then (xSs (evs t.deep) (t.sta fn ob x s) (aX s) (fF (hG s) ws) h).bind (ends h) else none
noncomputable def gB (t:Top) (fn:Str->Option XF) (ob:ObS) (x:Str) (s:Stmt):XFW:=fun ws h =>
 if fnB s=true/\ws.length=(aP s).length then (xSs (evs t.deep) (t.sta fn ob x s) (aX s) (fF (hG s) ws) h).bind jU else none
abbrev fnT (t:Top) (D:Str->XF):Str->Option XF:=fun y=>(t.defs y).map fun _=>D y
abbrev obT (t:Top) (W I M:Str->XFW):ObS:=⟨fun y=>if t.wf y=true then (t.defs y).map fun _=>W y else none,fun y=>(t.ini y).map fun p=>(p.1,I y),fun y=>(t.mt y).map fun p=>(p.1,M y),t.fo⟩
mutual
noncomputable def aD (t:Top):Nat->Str->XF
 | 0,_=>fun _ _=>none
 | d+1,x=>(match t.defs x with
  | some s=>jV t (fnT t fun y=>aD t d y) (obT t (fun y=>callW t d y) (fun y=>callI t d y) fun y=>callM t d y) x s
  | none=>fun _ _=>none)
noncomputable def callW (t:Top):Nat->Str->XFW
 | 0,_=>fun _ _=>none
 | d+1,x=>(match t.defs x with
  | some s=>gB t (fnT t fun y=>aD t d y) (obT t (fun y=>callW t d y) (fun y=>callI t d y) fun y=>callM t d y) x s
  | none=>fun _ _=>none)
noncomputable def callM (t:Top):Nat->Str->XFW
 | 0,_=>fun _ _=>none
 | d+1,x=>(match t.mt x with
  | some (_,s)=>gB t (fnT t fun y=>aD t d y) (obT t (fun y=>callW t d y) (fun y=>callI t d y) fun y=>callM t d y) x s
  | none=>fun _ _=>none)
noncomputable def callI (t:Top):Nat->Str->XFW
 | 0,_=>fun _ _=>none
 | 1,_=>fun _ _=>none
 | d+2,x=>(match t.ini x with
  | some (_,s)=>gB t (fnT t fun y=>aD t d y) (obT t (fun y=>callW t d y) (fun y=>callI t d y) fun y=>callM t d y) x s
  | none=>fun _ _=>none)
end
end CI
namespace CI
open PySem PySem.Spec PyProof.Rows L2 DL
noncomputable def Of {α:Type} (x:XR α):DSt->aA->(α->aA->Prop)->Prop:=fun δ h Q=>∃ a h',x δ h=some (a,h')/\Q a h'
def OfG (g:XG):DTG:=fun w δ h Q=>∃ δ' h',g w δ h=some (δ',h')/\Q δ' h'
noncomputable def bI8 (E:DEnds) (h:aA):Fl->Prop
 | .nx δ=>E.nx δ h
 | .rt w=>E.rt w h
 | .bk δ=>E.bk δ h
 | .ct δ=>E.ct δ h
def OfS (x:XS):DTS:=fun E δ h=>∃ fl h',x δ h=some (fl,h')/\bI8 E h' fl
def OfI (x:XR (List PyData×Option Nat)):DTI:=fun δ h Q=>∃ xs c h',x δ h=some ((xs,c),h')/\Q xs c h'
def Of2 (f:W->W->aA->Option (W×aA)):D2:=fun u w h Q=>∃ r h',f u w h=some (r,h')/\Q r h'
def OfC (f:List W->aA->Option (W×aA)):DC:=fun ws h Q=>∃ r h',f ws h=some (r,h')/\Q r h'
noncomputable def mP (m:XF):DSp:=fun ws h k=>∃ z h',m ws h=some (z,h')/\k z h'
section
variable {α β:Type} {x:XR α} {f:α->XR β} {δ:DSt} {h:aA} {Q:α->aA->Prop} {Q':β->aA->Prop}
theorem bD (q:Of (xb x f) δ h Q'):Of x δ h fun a h1=>Of (f a) δ h1 Q':=by
 obtain ⟨b,h',e,q⟩:=q;unfold xb at e;cases e1:x δ h with
 | none=>rw [e1] at e;cases e
 | some p =>
  rw [e1] at e;obtain ⟨a,h1⟩:=p;exact ⟨a,h1,e1,b,h',e,q⟩
theorem bK (q:Of (xno:XR α) δ h Q):False:=by obtain ⟨_,_,e,_⟩:=q;cases e
theorem aS {a:α} (q:Of (aC a) δ h Q):Q a h:=by
 obtain ⟨b,h',e,q⟩:=q;cases e;exact q
end
theorem bind_some {α β:Type} {x:Option α} {f:α->Option β} {b:β} (e:x.bind f=some b):∃ a,x=some a/\f a=some b:=Option.bind_eq_some_iff.mp e
theorem map_some {α β:Type} {x:Option α} {f:α->β} {b:β} (e:x.map f=some b):∃ a,x=some a/\f a=b:=Option.map_eq_some_iff.mp e
section
variable {X:Cx} {e tg:Expr} {es:List Expr} {eo:Option Expr} {s:Stmt} {ss:List Stmt}
theorem bE {t t':DTE} (d:DE X e t) (m:∀ δ h Q,t' δ h Q->t δ h Q):DE X e t':=aH d fun σ H Q ⟨δ,h,A,μ,k,R,q,c⟩=>⟨δ,h,A,μ,k,R,m δ h k q,c⟩
theorem aK7 {t t':DTT} (d:DT X e t) (m:∀ δ h Q,t' δ h Q->t δ h Q):DT X e t':=gE d fun σ H Q ⟨δ,h,A,μ,k,R,q,c⟩=>⟨δ,h,A,μ,k,R,m δ h k q,c⟩
theorem cM5 {t t':DTT} (d:DW X e t) (m:∀ δ h Q,t' δ h Q->t δ h Q):DW X e t':=pB d fun σ H Q ⟨δ,h,A,μ,k,R,q,c⟩=>⟨δ,h,A,μ,k,R,m δ h k q,c⟩
theorem cM6 {t t':DTA} (d:DA X es t) (m:∀ δ h Q,t' δ h Q->t δ h Q):DA X es t':=pC d fun σ H Q ⟨δ,h,A,μ,k,R,q,c⟩=>⟨δ,h,A,μ,k,R,m δ h k q,c⟩
theorem pU {t t':DTF} (d:DF X e t) (m:∀ δ h Q,t' δ h Q->t δ h Q):DF X e t':=aH d fun σ H Q ⟨δ,h,A,μ,k,R,q,c⟩=>⟨δ,h,A,μ,k,R,m δ h k q,c⟩
theorem cM7 {t t':DTO} (d:DO X eo t) (m:∀ δ h Q,t' δ h Q->t δ h Q):DO X eo t':=pD d fun σ H Q ⟨δ,h,A,μ,k,R,q,c⟩=>⟨δ,h,A,μ,k,R,m δ h k q,c⟩
theorem pV {t t':DTS} (d:DS X s t) (m:∀ E δ h,t' E δ h->t E δ h):DS X s t':=bN d fun D σ H ⟨δ,h,A,μ,E,R,q,L⟩=>⟨δ,h,A,μ,E,R,m E δ h q,L⟩
theorem bI9 {t t':DTS} (d:DSs X ss t) (m:∀ E δ h,t' E δ h->t E δ h):DSs X ss t':=kW d fun D σ H ⟨δ,h,A,μ,E,R,q,L⟩=>⟨δ,h,A,μ,E,R,m E δ h q,L⟩
theorem bY0 {t t':DTG} (d:DG X e t) (m:∀ w δ h Q,t' w δ h Q->t w δ h Q):DG X e t':=kJ d fun v σ H Q ⟨w,δ,h,A,μ,k,R,r,q,c⟩=>⟨w,δ,h,A,μ,k,R,r,m w δ h k q,c⟩
theorem zN {t t':DTI} (d:DI X tg e t) (m:∀ δ h Q,t' δ h Q->t δ h Q):DI X tg e t':=gF d fun σ H R ⟨δ,h,A,μ,k,R0,q,c⟩=>⟨δ,h,A,μ,k,R0,m δ h k q,c⟩
theorem cM8 {t t':DTT} (d:DIf X es t) (m:∀ δ h Q,t' δ h Q->t δ h Q):DIf X es t':=fun pins s σ H Q I ⟨δ,h,A,μ,k,R,q,c⟩=>d pins s σ H Q I ⟨δ,h,A,μ,k,R,m δ h k q,c⟩
theorem aK8 {t t':DTE} (d:DE X e t) (d':DE X e t'):DE X e (fun δ h Q=>t δ h Q\/t' δ h Q):=fun pins s σ H Q I ⟨δ,h,A,μ,k,R,q,c⟩=>q.elim (fun q=>d pins s σ H Q I ⟨δ,h,A,μ,k,R,q,c⟩) fun q=>d' pins s σ H Q I ⟨δ,h,A,μ,k,R,q,c⟩
theorem bW:DE X e (Of xno):=bE eT fun _ _ _ q=>bK q
theorem uR:DF X e (Of xno):=pU bI1 fun _ _ _ q=>(bK q).elim
theorem kB:DT X e (Of xno):=fun pins s σ H Q I ⟨_,_,_,_,_,_,q,_⟩=>(bK q).elim
theorem sH {x:XS} (n:∀ δ h,x δ h=none):DS X s (OfS x):=pV cK2 fun E δ h q=>by obtain ⟨_,_,e,_⟩:=q;rw [n] at e;cases e
theorem zO {x:XG} (n:∀ w δ h,x w δ h=none):DG X e (OfG x):=fun pins s σ H v u Q I r ⟨w,δ,h,A,μ,k,R,rr,q,c⟩=>by obtain ⟨_,_,e,_⟩:=q;rw [n] at e;cases e
theorem fR {f:Value->Value->Sem Value} {r r':D2} (ho:OpR X f (upR X.K r)) (m:∀ u w h Q,r' u w h Q->r u w h Q):OpR X f (upR X.K r'):=fun pins s σ H x y v u Q I rx ry ⟨a,b,h,A,μ,k,R,ra,rb,q,c⟩=>ho pins s σ H x y v u Q I rx ry ⟨a,b,h,A,μ,k,R,ra,rb,m _ _ _ _ q,c⟩
theorem aK9 {f:Value->Value->Sem Value} {r r':D2} (ho:OpR X f (upR X.K r)) (ho':OpR X f (upR X.K r')):OpR X f (upR X.K fun u w h Q=>r u w h Q\/r' u w h Q):=fun pins s σ H x y v u Q I rx ry ⟨a,b,h,A,μ,k,R,ra,rb,q,c⟩ =>
 q.elim (fun q=>ho pins s σ H x y v u Q I rx ry ⟨a,b,h,A,μ,k,R,ra,rb,q,c⟩) fun q=>ho' pins s σ H x y v u Q I rx ry ⟨a,b,h,A,μ,k,R,ra,rb,q,c⟩
theorem cM9 {f:Value->Value->Sem Value} {r:D2} (m:∀ u w h Q,¬ r u w h Q):OpR X f (upR X.K r):=fun pins s σ H x y v u Q I rx ry ⟨a,b,h,A,μ,k,R,ra,rb,q,c⟩=>(m _ _ _ _ q).elim
theorem uS {f:Value} {r r':DC} (ho:cN X f (upC X.K r)) (m:∀ ws h Q,r' ws h Q->r ws h Q):cN X f (upC X.K r'):=fun pins s σ H xs us Q I rx ⟨ws,h,A,μ,k,R,rw',q,c⟩=>ho pins s σ H xs us Q I rx ⟨ws,h,A,μ,k,R,rw',m _ _ _ q,c⟩
end
mutual
theorem wP {K:Frag} {A:List Addr} {H:Hp}:∀ {x:PyData} {v:V} (n:Nat),Rep K A H x v->aM n x=true->x.canLay0=true/\x.depth<=n
 | .none,_,n,_,_=>by simp [PyData.canLay0,PyData.depth]
 | .bool _,_,n,_,_=>by simp [PyData.canLay0,PyData.depth]
 | .int _,_,n,_,_=>by simp [PyData.canLay0,PyData.depth]
 | .str x,_,n,h,_=>by
  rw [Rep] at h;simp [PyData.canLay0,PyData.depth,h.2]
 | .list xs,_,0,_,p=>by simp [aM] at p
 | .tuple xs,_,0,_,p=>by simp [aM] at p
 | .list xs,_,n+1,h,p=>by
  rw [Rep] at h;obtain ⟨a,vs,_,_,h⟩:=h;have z:=Reps_lay n h (by simpa [aM] using p);simp [PyData.canLay0,PyData.depth,z.1,z.2]
 | .tuple xs,_,n+1,h,p=>by
  rw [Rep] at h;obtain ⟨a,vs,_,_,h⟩:=h;have z:=Reps_lay n h (by simpa [aM] using p);simp [PyData.canLay0,PyData.depth,z.1,z.2]
 | .dict _,_,n,_,p=>by cases n<;>simp [aM] at p
theorem Reps_lay {K:Frag} {A:List Addr} {H:Hp}:∀ {xs:List PyData} {vs:List V} (n:Nat),Reps K A H xs vs->plainsB n xs=true->PyData.canLayAll0 xs=true/\PyData.depthAll xs<=n
 | [],_,n,_,_=>by simp [PyData.canLayAll0,PyData.depthAll]
 | x::xs,_,n,h,p=>by
  rw [Reps] at h;obtain ⟨v,r,_,h1,h2⟩:=h;rw [plainsB,Bool.and_eq_true] at p;have a:=wP n h1 p.1;have b:=Reps_lay n h2 p.2;simp [PyData.canLayAll0,PyData.depthAll,a.1,b.1];omega
end
theorem zP {K:Frag} {A:List Addr} {H:Hp} {x:PyData} {v:V} (r:Rep K A H x v) (p:aM 64 x=true):SeqAt.shaped x=true:=by
 have z:=wP 64 r p;unfold SeqAt.shaped;rw [z.1]
 simpa using z.2
theorem bZ {K:Frag} {A μ:List Addr} {H:Hp} {h:aA} {w:W} {v:V} {x:PyData} (R:HeapRep K A μ h H) (r:RepW K A μ H w v) (e:ref h w=some x) (p:aM 64 x=true):SeqAt.shaped x=true:=by
 cases w with
 | d y=>cases e;exact zP r p
 | v u=>cases e
 | c i =>
  obtain ⟨a,e1,rfl⟩:=r;dsimp only [DL.ref] at e;cases q:h[i]? with
  | none=>rw [q] at e;cases e
  | some cc =>
   cases cc with
   | t _ _ _=>rw [q] at e;cases e
   | o _ _=>rw [q] at e;cases e
   | r _=>rw [q] at e;cases e
   | k ys=>rw [q] at e;cases e;simp [aM] at p
   | l ys =>
    rw [q] at e;cases e;obtain ⟨vs,z1,z2⟩:=R.val i a ys e1 q;have z:=Reps_lay 63 z2 (by simpa [aM] using p);unfold SeqAt.shaped;simp [PyData.canLay0,PyData.depth,z.1];exact z.2
abbrev fO (m:XFW):lM:=fun ws h k=>∃ w h',m ws h=some (w,h')/\k w h'
structure aT (X:Cx) (st:Sta) (d:Nat):Prop where
 bl:∀ x,st.bl.contains x=true->X.mg x=none
 gc:∀ x z,st.gc x=some z->∃ v u,X.mg x=some u/\RelV v u/\∀ A H,Rep X.K A H z v
 tk:∀ x f,st.tk x=some f->∃ p,X.mg x=some (.ref p)/\TabK X.w X.K p f
 fn:∀ x m,st.fn x=some m->DFn X.prog X.w X.K X.mg X.base d x (mP m)
 N:X.N=st.N
 S:X.env.scope=st.S
 nd:st.N.Nodup
 xe:X.xe=fun _ _=>False
 calm:X.calm=true
 rm:Room d X.A
 fnT:st.top=true->∀ x,X.fn x=true
 kind:st.S.kind=.function
 fnW:∀ x m,st.ob.fnW x=some m->DFnW X.prog X.w X.K X.mg X.base d x (fO m)
 cls:∀ x C m,st.ob.cls x=some (C,m)->(∀ ws h,m ws h=none)\/∃ k f fd ps,k+1<=d/\Mk X.K C f/\FnOk X.prog X.w X.K X.mg X.base CX0 k f fd ps (cZ X.K (fO m))/\X.mg x=some (.ref C)/\Binds X.K fd ps []
 om:∀ x C m,st.ob.om x=some (C,m)->Cls X.K C/\∃ f fd ps,Meth X.K C x f/\FnOk X.prog X.w X.K X.mg X.base CX0 d f fd ps (cZ X.K (fO m))/\Binds X.K fd ps []
 fo:∀ C f,st.ob.fo C f=true->Cls X.K C/\NoAttr X.K C f
structure Snd (v:Evs):Prop where
 E:∀ {X:Cx} {st:Sta} {d:Nat},aT X st d->∀ e,DE X e (Of (v.E st e))
 T:∀ {X:Cx} {st:Sta} {d:Nat},aT X st d->∀ e,DT X e (Of (v.T st e))
 F:∀ {X:Cx} {st:Sta} {d:Nat},aT X st d->∀ e,DF X e (Of (v.F st e))
 G:∀ {X:Cx} {st:Sta} {d:Nat},aT X st d->∀ e,DG X e (OfG (v.G st e))
 S:∀ {X:Cx} {st:Sta} {d:Nat},aT X st d->∀ s,DS X s (OfS (v.S st s))
section
variable {X:Cx} {st:Sta} {d:Nat} {x:Str}
theorem bY1 {N:List Str} {i:Nat} (e:N.findIdx? (·==x)=some i):N[i]?=some x:=by
 obtain ⟨h1,h2,_⟩:=List.findIdx?_eq_some_iff_getElem.mp e;rw [List.getElem?_eq_getElem h1,eq_of_beq h2]
theorem fH (G:aT X st d) {i:Nat} (e:slot st x=some i):X.N[i]?=some x:=by rw [G.N];exact bY1 e
theorem bY2 (G:aT X st d) (h:bW9 st.S x=true):Vis X.env.scope x:=by
 unfold Vis;rw [G.S];unfold bW9 at h;split at h
 ·rename_i e;exact .inl e
 ·rename_i e;exact .inr (.inl e)
 ·rename_i e;exact .inr (.inr e)
 ·cases h
theorem lO (G:aT X st d) (h:uP st.S x=true):L2.Loc X.env.scope x:=by
 unfold L2.Loc;rw [G.S];unfold uP at h;split at h
 ·rename_i e;exact .inl e
 ·rename_i e;exact .inr e
 ·cases h
theorem sJ (h:dX st.S x=true):st.S.names.lookup x=some .local:=by
 unfold dX at h;split at h
 ·rename_i e;exact e
 ·cases h
theorem aL0 (G:aT X st d) (h:(st.top||dX st.S x)=true):X.fn x=true\/X.env.scope.names.lookup x=some .local:=by
 rw [Bool.or_eq_true] at h;rcases h with h | h
 ·exact .inl (G.fnT h x)
 ·rw [G.S];exact .inr (sJ h)
theorem bJ0 (G:aT X st d) (h:glB st.S x=true):Gl X x:=by
 unfold Gl Env.kindOf;rw [G.S];unfold glB at h;split at h
 ·rename_i e;exact e
 ·cases h
theorem bO (h:eL x=true):(x==("__debug__":Str))=false:=by
 unfold eL at h;rw [Bool.and_eq_true] at h
 simpa using h.1
theorem zQ (h:eL x=true):(x==("__classdict__":Str))=false:=by
 unfold eL at h;rw [Bool.and_eq_true,Bool.and_eq_true] at h
 simpa using h.2.1
theorem jC (h:eL x=true):x≠"__name__":=by
 unfold eL at h;rw [Bool.and_eq_true,Bool.and_eq_true] at h
 simpa using h.2.2
theorem eQ (G:aT X st d) (h:jZ st x=true):eL x=true/\Gl X x:=by
 unfold jZ at h;rw [Bool.and_eq_true] at h;exact ⟨h.1,bJ0 G h.2⟩
theorem bY3 (G:aT X st d) {pos:Pos}:DE X (.Name x pos) (Of (aJ3 st x)):=by
 unfold aJ3;split
 ·rename_i hn;split
  ·rename_i i hi;split
   ·rename_i hv;refine bE (dv i (fH G hi) (bY2 G hv) (bO hn) (zQ hn)) fun δ h Q q=>?_;obtain ⟨w,h',e,q⟩:=q;unfold aB at e;unfold bO9;split at e
    ·rename_i w' e';try rw [e']
     cases e;exact q
    ·cases e
   ·exact bW
  ·split
   ·rename_i z hz;split
    ·rename_i hg;obtain ⟨v,u,m,r1,r2⟩:=G.gc _ _ hz;exact bE (aT6 m r1 r2 (bJ0 G hg) (bO hn)) fun δ h Q q=>aS q
    ·exact bW
   ·exact bW
 ·exact bW
theorem bA4 {c:Const} {j:Nat} {pos:Pos}:DE X (.Constant c j pos) (Of (aJ4 c)):=by
 cases c with
 | none=>exact bE bP1 fun _ _ _ q=>aS q
 | bool b=>exact bE cI1 fun _ _ _ q=>aS q
 | int i=>exact bE bP0 fun _ _ _ q=>aS q
 | str x =>
  show DE X _ (Of (if PyData.strOk x=true then aC (.d (.str x)) else xno));split
  ·rename_i hx;exact bE (bP2 hx) fun _ _ _ q=>aS q
  ·exact bW
 | _=>exact bW
theorem aL1 {K:Frag} {A μ:List Addr} {H:Hp} {h:aA} {p:Addr} {xs:List PyData} {vs:List V} (R:HeapRep K A μ h H) (hp:H p=none) (r:Reps K A H xs vs):Rep K A (upd H p (.lst vs)) (.list xs) (.ref p):=by
 rw [Rep];exact ⟨p,vs,rfl,.inl ⟨R.notA hp,.inl aR⟩,r.ext (bI (μ:=μ) hp) R.sub⟩
def aL2:D2:=fun u w h Q=>match ref h u,ref h w with
 | some (.list xs),some (.list ys)=>xs.length+ys.length<=sizeLine/\Q (.d (.list (xs++ys))) h
 | _,_=>False
theorem bA5:OpR X (binaryOp .Add) (upR X.K aL2):=by
 intro pins s σ H x y v u Q I rx ry h;obtain ⟨a,b,h,A,μ,k,R,ra,rb,q,c⟩:=h;unfold aL2 at q;split at q
 ·rename_i xs ys ea eb;obtain ⟨pa,va,rfl,sa,rra⟩:=bX R ra ea;obtain ⟨pb,vb,rfl,sb,rrb⟩:=bX R rb eb;refine wI pins s σ H _ _ v u Q I rx ry ⟨pa,pb,va,vb,rfl,rfl,sa,sb,by rw [rra.length,rrb.length];exact q.1,fun p hp=>?_⟩;exact c _ _ _ _ _ _ q.2 (bI hp) (R.fresh hp) (aL1 R hp (rrb.append rra))
 ·exact q.elim
theorem aL3:OpR X (binaryOp .FloorDiv) (rI (fun _ j=>0 < j/\j.natAbs.log2 < 9000) fun i j=>.int (i / j)):=opI fun i j _ _ _ _ _ hc q=>by
 have h1:(0:Int) < j:=hc.1;exact floordiv_int (by omega) (by rw [Int.fdiv_eq_ediv_of_nonneg i (by omega)];exact q) (.inl (PyProof.noPylong_of_log2 hc.2))
noncomputable def bJ1:D2
 | .d (.int i),.d (.int j),h,Q=>(0 < j/\j.natAbs.log2 < 9000)/\Q (.d (.int (i / j))) h
 | _,_,_,_=>False
theorem aL4:OpR X (binaryOp .FloorDiv) (upR X.K bJ1):=dR (f:=fun i j=>.int (i / j)) aL3 (fun _ _ _ _=>iB) fun u w h k q=>by
 unfold bJ1 at q;split at q
 ·exact ⟨_,_,rfl,rfl,q.1,q.2⟩
 ·exact q.elim
theorem bY4 {j:Int} (h:aU j=true):0 < j/\j.natAbs.log2 < 9000:=by
 unfold aU at h;simp only [Bool.and_eq_true,Bool.or_eq_true,decide_eq_true_eq] at h;refine ⟨h.1,?_⟩;rcases h.2 with h2 | h2
 ·have h0:j.natAbs≠0:=by omega
  have:=(Nat.log2_lt h0 (k:=30)).mpr (by omega);omega
 ·omega
theorem bY5 {i j:Int} (h:fN i j=true):CMul i j:=by
 unfold fN at h;unfold CMul
 simpa only [Bool.and_eq_true,Bool.or_eq_true,decide_eq_true_eq] using h
theorem bY6 {i j:Int} (h:sC i j=true):aR6 i j:=by
 unfold sC at h;unfold aR6
 simpa only [Bool.and_eq_true,decide_eq_true_eq] using h
theorem bA6:OpR X (binaryOp .Add) (upR X.K (Of2 bX0)):=by
 refine fR (aK9 aT9 bA5) fun u w h Q q=>?_;obtain ⟨r,h',e,q⟩:=q;unfold bX0 at e;split at e
 ·cases e;exact .inl q
 ·split at e
  ·rename_i hl;cases e;exact .inl ⟨hl,q⟩
  ·cases e
 ·refine .inr ?_;unfold aL2;split at e
  ·rename_i e1 e2;try rw [e1,e2]
   split at e
   ·rename_i hl;cases e;exact ⟨hl,q⟩
   ·cases e
  ·cases e
theorem bA7:OpR X (binaryOp .Mult) (upR X.K (Of2 bX1)):=by
 refine fR aU1 fun u w h Q q=>?_;obtain ⟨r,h',e,q⟩:=q;unfold bX1 at e;split at e
 ·split at e
  ·rename_i hl;cases e;exact ⟨bY5 hl,q⟩
  ·cases e
 ·cases e
theorem bA8 (op:Operator):OpR X (binaryOp op) (upR X.K (Of2 (eO op))):=by
 cases op with
 | Add=>exact bA6
 | Mult=>exact bA7
 | Sub =>
  refine fR aU0 fun u w h Q ⟨a,h',e,q⟩=>?_;dsimp only [eO] at e;split at e
  ·cases e;exact q
  ·cases e
 | FloorDiv =>
  refine fR aL4 fun u w h Q ⟨a,h',e,q⟩=>?_;dsimp only [eO] at e;split at e
  ·split at e
   ·rename_i hd;cases e;exact ⟨bY4 hd,q⟩
   ·cases e
  ·cases e
 | Mod =>
  refine fR aU2 fun u w h Q ⟨a,h',e,q⟩=>?_;dsimp only [eO] at e;split at e
  ·split at e
   ·rename_i hd;cases e;exact ⟨hd,q⟩
   ·cases e
  ·cases e
 | Pow =>
  refine fR aU3 fun u w h Q ⟨a,h',e,q⟩=>?_;dsimp only [eO] at e;split at e
  ·split at e
   ·rename_i hd;cases e;exact ⟨bY6 hd,q⟩
   ·cases e
  ·cases e
 | RShift =>
  refine fR aX5 fun u w h Q ⟨a,h',e,q⟩=>?_;dsimp only [eO] at e;split at e
  ·split at e
   ·rename_i hd;cases e;exact ⟨hd,q⟩
   ·cases e
  ·cases e
 | BitAnd =>
  refine fR aG3 fun u w h Q ⟨a,h',e,q⟩=>?_;dsimp only [eO] at e;split at e
  ·cases e;exact q
  ·cases e
 | _ =>
  refine cM9 fun u w h Q ⟨a,h',e,q⟩=>?_;dsimp only [eO] at e;split at e<;>cases e
theorem sK {x:Str}:aY (.str x)=if PyData.strOk x=true then some (Sum.inr x) else none:=rfl
theorem aL5 {K:Frag} {A:List Addr} {H:Hp} {z:PyData} {k:Key} {v:V} (e:aY z=some k) (r:Rep K A H z v):v=kV k:=by
 cases z with
 | int i=>cases e;rw [Rep] at r;exact r
 | str x =>
  rw [sK] at e;split at e
  ·cases e;rw [Rep] at r;exact r.1
  ·cases e
 | _=>cases e
theorem fI {K:Frag} {A:List Addr} {H:Hp} (k:Key):∀ {kvs:List (PyData×PyData)} {r:List (Key×V)},RepKs K A H kvs r ->
  (∀ p,(kvs.find? fun p=>decide (aY p.1=some k))=some p->∃ v,dZ r k=some v/\Rep K A H p.2 v)/\((kvs.find? fun p=>decide (aY p.1=some k))=none->dZ r k=none)
 | [],r,h=>by
  rw [RepKs] at h;subst h;exact ⟨fun p e=>(nomatch e),fun _=>rfl⟩
 | (a,b)::kvs,r,h=>by
  rw [RepKs] at h;obtain ⟨q,r',rfl,hp,hr⟩:=h;rw [RepP] at hp;obtain ⟨h1,h2⟩:=fI k hr;obtain ⟨qk,qv⟩:=q
  by_cases e:qk=k
  ·subst e;have ek:decide (aY a=some qk)=true:=decide_eq_true hp.1;refine ⟨fun p ep=>?_,fun ep=>?_⟩
   ·rw [List.find?_cons_of_pos (by exact ek)] at ep;cases ep;exact ⟨qv,by unfold dZ;rw [List.find?_cons_of_pos (by simp)];rfl,hp.2⟩
   ·rw [List.find?_cons_of_pos (by exact ek)] at ep;cases ep
  ·have ek:¬ decide (aY a=some k)=true:=fun z=>e (Option.some.inj (hp.1.symm.trans (of_decide_eq_true z)));have ev:dZ ((qk,qv)::r') k=dZ r' k:=by unfold dZ;rw [List.find?_cons_of_neg (by simpa using e)]
   rw [ev];refine ⟨fun p ep=>?_,fun ep=>?_⟩
   ·rw [List.find?_cons_of_neg (by exact ek)] at ep;exact h1 p ep
   ·rw [List.find?_cons_of_neg (by exact ek)] at ep;exact h2 ep
theorem lP {α:Type} (p:α->Bool):∀ xs:List α,xs.any p=(xs.find? p).isSome
 | []=>rfl
 | x::r=>by
  rw [List.any_cons];cases e:p x with
  | true=>rw [List.find?_cons_of_pos e];rfl
  | false=>rw [List.find?_cons_of_neg (by rw [e];exact Bool.false_ne_true),<- lP p r];rfl
theorem lQ {K:Frag} {A μ:List Addr} {H:Hp} {h:aA} {w:W} {v:V} {kvs:List (PyData×PyData)} (R:HeapRep K A μ h H) (r:RepW K A μ H w v) (e:ref h w=some (.dict kvs)):∃ a rs,v=.ref a/\Rd H a (.dK rs)/\RepKs K A H kvs rs:=by
 cases w with
 | d x =>
  cases e;have z:Rep K A H (.dict kvs) v:=r;rw [Rep] at z;obtain ⟨a,rs,e,h1,h2⟩:=z;exact ⟨a,rs,e,h1.2,h2⟩
 | v u=>cases e
 | c i =>
  obtain ⟨a,e1,rfl⟩:=r;dsimp only [DL.ref] at e;cases q:h[i]? with
  | none=>rw [q] at e;cases e
  | some cc =>
   cases cc with
   | t _ _ _=>rw [q] at e;cases e
   | o _ _=>rw [q] at e;cases e
   | r _=>rw [q] at e;cases e
   | l ys=>rw [q] at e;cases e
   | k ys =>
    rw [q] at e;cases e;obtain ⟨vs,z1,z2⟩:=R.vad i a kvs e1 q;exact ⟨a,vs,rfl,.inl z1,z2⟩
def zR (neg:Bool):D2:=fun u w h Q=>match ref h u,ref h w with
 | some d,some (.dict kvs)=>(match aY d with
  | some k=>Q (.d (.bool (neg ^^ kvs.any fun p=>decide (aY p.1=some k)))) h
  | none=>False)
 | _,_=>False
theorem wQ {K:Frag} {H:Hp} {z:PyData} {k:Key} {v:V} (e:aY z=some k) (r:See K H z v):v=kV k:=by
 cases z with
 | int i=>cases e;rw [See] at r;exact r
 | str x =>
  rw [sK] at e;split at e
  ·cases e;rw [See] at r;exact r
  ·cases e
 | _=>cases e
theorem aL6 {A:Around} {n:Nat} (hr:Room n A):A.units+1 < cLine:=by have:=hr.un;omega
theorem bA9 (hr:Room d X.A):OpR X (compareOp .In) (upR X.K (zR false)):=by
 intro pins s σ H x y v u Q I rx ry h;obtain ⟨a,b,h,A,μ,k,R,ra,rb,q,c⟩:=h;unfold zR at q;split at q
 ·rename_i z kvs ea eb;split at q
  ·rename_i kk ek;obtain ⟨p,rs,rfl,hd,rr⟩:=lQ R rb eb;obtain ⟨f1,f2⟩:=fI kk rr;have ev:=wQ ek (bH R ra ea);subst ev;cases ry;refine cY8 (aL6 hr) I (o:=dZ rs kk) (.inl ⟨rs,kk,hd,rfl,rfl⟩) rx fun s' I'=>?_;have e:(kvs.any fun p=>decide (aY p.1=some kk))=(dZ rs kk).isSome:=by
    rw [lP];cases z:kvs.find? (fun p=>decide (aY p.1=some kk)) with
    | none=>rw [f2 z];rfl
    | some p=>obtain ⟨v,e1,_⟩:=f1 p z;rw [e1];rfl
   rw [e] at q;exact ⟨.bl _,H,I',rfl,c _ _ _ _ _ _ q .refl R (by simpa using bA)⟩
  ·exact q.elim
 ·exact q.elim
theorem uT (hr:Room d X.A):OpR X (compareOp .NotIn) (upR X.K (zR true)):=by
 intro pins s σ H x y v u Q I rx ry h;obtain ⟨a,b,h,A,μ,k,R,ra,rb,q,c⟩:=h;unfold zR at q;split at q
 ·rename_i z kvs ea eb;split at q
  ·rename_i kk ek;obtain ⟨p,rs,rfl,hd,rr⟩:=lQ R rb eb;obtain ⟨f1,f2⟩:=fI kk rr;have ev:=wQ ek (bH R ra ea);subst ev;cases ry;refine aS9 (aL6 hr) I (o:=dZ rs kk) (.inl ⟨rs,kk,hd,rfl,rfl⟩) rx fun s' I'=>?_;have e:(kvs.any fun p=>decide (aY p.1=some kk))=(dZ rs kk).isSome:=by
    rw [lP];cases z:kvs.find? (fun p=>decide (aY p.1=some kk)) with
    | none=>rw [f2 z];rfl
    | some p=>obtain ⟨v,e1,_⟩:=f1 p z;rw [e1];rfl
   rw [e] at q;exact ⟨.bl _,H,I',rfl,c _ _ _ _ _ _ q .refl R (by simpa using bA)⟩
  ·exact q.elim
 ·exact q.elim
def bB0:D2:=fun u w h Q=>match ref h u,w with
 | some (.dict kvs),.d z=>(match aY z with
  | some k=>(match kvs.find? fun p=>decide (aY p.1=some k) with
   | some p=>Q (.d p.2) h
   | none=>False)
  | none=>False)
 | _,_=>False
theorem cN0 (hr:Room d X.A):IxR X (upR X.K bB0):=by
 intro value slice pins s σ H x y v u Q I rx ry h hs;obtain ⟨a,b,h,A,μ,k,R,ra,rb,q,c⟩:=h;unfold bB0 at q;split at q
 ·rename_i kvs z ea;split at q
  ·rename_i kk ek;split at q
   ·rename_i p ep;obtain ⟨pa,rs,rfl,hd,rr⟩:=lQ R ra ea;obtain ⟨v0,e1,r1⟩:=(fI kk rr).1 p ep;have ev:=aL5 ek rb;subst ev;cases rx;have g:DGet H pa (kV kk) (some v0):=.inl ⟨rs,kk,hd,rfl,e1.symm⟩;exact tail_any (rK I g) slot_dict_getitem.lookup (yC (aL6 hr) I g ry fun w' s' I' rw'=>⟨v0,H,I',rw',c _ _ _ _ _ _ q .refl R r1⟩) hs
   ·exact q.elim
  ·exact q.elim
 ·exact q.elim
def zS (neg:Bool):D2:=fun x y h Q=>match ref h x,ref h y with
 | some a,some b=>(aM 64 a&&aM 64 b)=true/\Q (.d (.bool (neg ^^ PyData.eqv a b))) h
 | _,_=>False
theorem bY7 (hr:Room d X.A):OpR X (compareOp .Eq) (upR X.K (zS false)):=fun pins s σ H x y v u Q I rx ry ⟨a,b,h,A,μ,k,R,ra,rb,q,c⟩=>by
 unfold zS at q;split at q
 ·rename_i z1 z2 e1 e2;rw [Bool.and_eq_true] at q;refine bQ9 hr pins s σ H x y v u Q I rx ry ⟨a,b,h,A,μ,k,R,ra,rb,?_,c⟩;unfold dEq;rw [e1,e2];exact ⟨bZ R ra e1 q.1.1,bZ R rb e2 q.1.2,by simpa using q.2⟩
 ·exact q.elim
theorem bY8 (hr:Room d X.A):OpR X (compareOp .NotEq) (upR X.K (zS true)):=fun pins s σ H x y v u Q I rx ry ⟨a,b,h,A,μ,k,R,ra,rb,q,c⟩=>by
 unfold zS at q;split at q
 ·rename_i z1 z2 e1 e2;rw [Bool.and_eq_true] at q;refine bR0 hr pins s σ H x y v u Q I rx ry ⟨a,b,h,A,μ,k,R,ra,rb,?_,c⟩;unfold dNe;rw [e1,e2];exact ⟨bZ R ra e1 q.1.1,bZ R rb e2 q.1.2,by simpa using q.2⟩
 ·exact q.elim
def aL7 (neg:Bool):D2:=fun x y h Q=>match ref h x,ref h y with
 | some d,some (.list xs)=>(aM 64 (.list xs)&&aM 64 d)=true/\Q (.d (.bool (neg ^^ xs.any fun z=>PyData.eqv z d))) h
 | some d,some (.tuple xs)=>(aM 64 (.tuple xs)&&aM 64 d)=true/\Q (.d (.bool (neg ^^ xs.any fun z=>PyData.eqv z d))) h
 | _,_=>False
theorem inP {neg:Bool} {f:Value->Value->Sem Value} (ho:OpR X f (upR X.K (yT neg))):OpR X f (upR X.K (aL7 neg)):=fun pins s σ H x y v u Q I rx ry ⟨a,b,h,A,μ,k,R,ra,rb,q,c⟩=>by
 refine ho pins s σ H x y v u Q I rx ry ⟨a,b,h,A,μ,k,R,ra,rb,?_,c⟩;unfold aL7 at q;unfold yT;split at q
 ·rename_i z1 xs e1 e2;rw [Bool.and_eq_true] at q;try rw [e1,e2]
  exact ⟨bZ R rb e2 q.1.1,bZ R ra e1 q.1.2,q.2⟩
 ·rename_i z1 xs e1 e2;rw [Bool.and_eq_true] at q;try rw [e1,e2]
  exact ⟨bZ R rb e2 q.1.1,bZ R ra e1 q.1.2,q.2⟩
 ·exact q.elim
theorem sL {neg:Bool} {u w:W} {h:aA} {b:Bool} {Q:DK} (e:xIn u w h=some b) (q:Q (.d (.bool (neg ^^ b))) h):aL7 neg u w h Q\/zR neg u w h Q:=by
 unfold xIn at e;split at e
 ·rename_i z1 z2;split at e
  ·rename_i hs;cases e;refine .inl ?_;unfold aL7;rw [z1,z2];exact ⟨hs,q⟩
  ·cases e
 ·rename_i z1 z2;split at e
  ·rename_i hs;cases e;refine .inl ?_;unfold aL7;rw [z1,z2];exact ⟨hs,q⟩
  ·cases e
 ·rename_i z1 z2;split at e
  ·rename_i k ek;cases e;refine .inr ?_;unfold zR;rw [z1,z2];dsimp only;rw [ek];exact q
  ·cases e
 ·cases e
theorem wR {neg:Bool} {u w:W} {h:aA} {b:Bool} {Q:DK} (e:xEq u w h=some b) (q:Q (.d (.bool (neg ^^ b))) h):zS neg u w h Q:=by
 unfold xEq at e;split at e
 ·rename_i x y e1 e2;split at e
  ·rename_i hs;cases e;unfold zS;rw [e1,e2];exact ⟨hs,q⟩
  ·cases e
 ·cases e
theorem dH (hr:Room d X.A) (op:CmpOp):OpR X (compareOp op) (upR X.K (Of2 fun u w h=>(cC op u w h).map asW)):=by
 have isc:∀ {u w:W} {b:Bool},xIs u w=some b->∃ x y,u=.d x/\w=.d y/\DL.isSame x y=some b:=fun {u w b} e=>by
  unfold xIs at e;split at e
  ·exact ⟨_,_,rfl,rfl,e⟩
  ·cases e
 cases op with
 | Eq =>
  refine fR (bY7 hr) fun u w h Q ⟨a,h',e,q⟩=>?_;obtain ⟨p,e1,e2⟩:=map_some e;obtain ⟨b,e3,e4⟩:=map_some e1;subst e4;cases e2;exact wR e3 (by simpa using q)
 | NotEq =>
  refine fR (bY8 hr) fun u w h Q ⟨a,h',e,q⟩=>?_;obtain ⟨p,e1,e2⟩:=map_some e;obtain ⟨b,e3,e4⟩:=map_some e1;subst e4;cases e2;exact wR e3 (by simpa using q)
 | Is =>
  refine fR bR1 fun u w h Q ⟨a,h',e,q⟩=>?_;obtain ⟨p,e1,e2⟩:=map_some e;obtain ⟨b,e3,e4⟩:=map_some e1;subst e4;cases e2;obtain ⟨x,y,rfl,rfl,e5⟩:=isc e3;show (match DL.isSame x y with | some k=>_ | none=>_);rw [e5];exact q
 | IsNot =>
  refine fR yF fun u w h Q ⟨a,h',e,q⟩=>?_;obtain ⟨p,e1,e2⟩:=map_some e;obtain ⟨b,e3,e4⟩:=map_some e1;subst e4;cases e2;obtain ⟨x,y,rfl,rfl,e5⟩:=isc e3;show (match DL.isSame x y with | some k=>_ | none=>_);rw [e5];exact q
 | In =>
  refine fR (aK9 (inP (bU8 hr)) (bA9 hr)) fun u w h Q ⟨a,h',e,q⟩=>?_;obtain ⟨p,e1,e2⟩:=map_some e;obtain ⟨b,e3,e4⟩:=map_some e1;subst e4;cases e2;exact sL e3 (by simpa using q)
 | NotIn =>
  refine fR (aK9 (inP (yU hr)) (uT hr)) fun u w h Q ⟨a,h',e,q⟩=>?_;obtain ⟨p,e1,e2⟩:=map_some e;obtain ⟨b,e3,e4⟩:=map_some e1;subst e4;cases e2;exact sL e3 (by simpa using q)
 | Lt =>
  refine fR bQ5 fun u w h Q ⟨a,h',e,q⟩=>?_;obtain ⟨p,e1,e2⟩:=map_some e;dsimp only [cC,aJ5,Option.map] at e1;split at e1
  ·cases e1;cases e2;exact q
  ·cases e1
 | LtE =>
  refine fR bQ6 fun u w h Q ⟨a,h',e,q⟩=>?_;obtain ⟨p,e1,e2⟩:=map_some e;dsimp only [cC,aJ5,Option.map] at e1;split at e1
  ·cases e1;cases e2;exact q
  ·cases e1
 | Gt =>
  refine fR bQ7 fun u w h Q ⟨a,h',e,q⟩=>?_;obtain ⟨p,e1,e2⟩:=map_some e;dsimp only [cC,aJ5,Option.map] at e1;split at e1
  ·cases e1;cases e2;exact q
  ·cases e1
 | GtE =>
  refine fR bQ8 fun u w h Q ⟨a,h',e,q⟩=>?_;obtain ⟨p,e1,e2⟩:=map_some e;dsimp only [cC,aJ5,Option.map] at e1;split at e1
  ·cases e1;cases e2;exact q
  ·cases e1
end
section
variable {X:Cx} {st:Sta} {d:Nat} {x:Str} {v:Evs} {a b c e:Expr} {es:List Expr} {pos:Pos}
theorem aF (h:aK e=true) (env:Env):starEach (e::es) env=(false,eval e env)::starEach es env:=by
 cases e<;>first | rfl | cases h
theorem cA:∀ (es:List Expr) (env:Env) (pos:Pos),es.all aK=true->(backTo pos (starEach es env)).any (·.1)=false
 | [],_,_,_=>rfl
 | e::es,env,pos,h=>by
  rw [List.all_cons,Bool.and_eq_true] at h;rw [aF h.1];show (false||(backTo pos (starEach es env)).any (·.1))=false;rw [cA es env pos h.2];rfl
theorem sM:∀ (es:List Expr) (env:Env) (pos:Pos),es.all aK=true->(backTo pos (starEach es env)).all (fun x=>!x.1)=true
 | [],_,_,_=>rfl
 | e::es,env,pos,h=>by
  rw [List.all_cons,Bool.and_eq_true] at h;rw [aF h.1];show (true&&(backTo pos (starEach es env)).all fun x=>!x.1)=true;rw [sM es env pos h.2];rfl
theorem cS:∀ (es:List Expr) (δ:DSt) (h:aA) (p:List W×aA),cK v st es δ h=some p->es.all aK=true
 | [],_,_,_,_=>rfl
 | e::es,δ,h,p,q=>by
  unfold cK at q;split at q
  ·rename_i hn;obtain ⟨a,e1,q⟩:=bind_some q;obtain ⟨b,e2,q⟩:=bind_some q;rw [List.all_cons,hn,cS es δ _ _ e2];rfl
  ·cases q
theorem zT {x:XR W} (p:Prop) (hp:∀ δ h r,x δ h=some r->p) (he:p->DE X e (Of x)):DE X e (Of x):=by
 by_cases h:p
 ·exact he h
 ·exact bE eT fun δ h' Q q=>by
   obtain ⟨r,h2,e,_⟩:=q;exact (h (hp _ _ _ e)).elim
theorem dC6 {x:XR (List PyData)} (p:Prop) (hp:∀ δ h r,x δ h=some r->p) (he:p->DF X e (Of x)):DF X e (Of x):=by
 by_cases h:p
 ·exact he h
 ·exact pU bI1 fun δ h' Q q=>by
   obtain ⟨r,h2,e,_⟩:=q;exact (h (hp _ _ _ e)).elim
theorem cL (S:Snd v) (G:aT X st d):∀ es,DA X es (Of (cK v st es))
 | []=>cM6 kX fun δ h Q q=>aS q
 | e::es=>by
  unfold cK;split
  ·rename_i hn;refine cM6 (fE (S.E G e) (cL S G es) (aF hn _)) fun δ h Q q=>?_;obtain ⟨w,h1,e1,q⟩:=bD q;obtain ⟨ws,h2,e2,q⟩:=bD q;exact ⟨w,h1,e1,ws,h2,e2,aS q⟩
  ·exact fun p pins s σ H Q I ⟨_,_,_,_,_,_,q,_⟩=>(bK q).elim
theorem bY9 {x:XR (List PyData)} (h:DF X e (Of x)):DE X e (Of (bR x)):=bE (aE3 h) fun δ h Q q=>by
 obtain ⟨w,h',e,q⟩:=q;obtain ⟨p,e1,e2⟩:=bind_some e;cases e2;exact ⟨p.1,p.2,e1,q⟩
theorem wS {x:XR (List PyData)} (h:DF X e (Of x)):DE X e (Of (aQ x)):=bE (aE2 h) fun δ h Q q=>by
 obtain ⟨w,h',e,q⟩:=q;obtain ⟨p,e1,e2⟩:=bind_some e;cases e2;exact ⟨p.1,p.2,e1,q⟩
theorem oF (S:Snd v) (G:aT X st d):∀ eo,DO X eo (Of (zM v st eo))
 | none=>cM7 aU5 fun δ h Q q=>aS q
 | some e=>cM7 (aU6 (S.E G e)) fun δ h Q q=>by
  unfold zM at q;obtain ⟨w,h1,e1,q⟩:=bD q;refine ⟨w,h1,e1,?_⟩;dsimp only at q ⊢;split at q
  ·exact aS q
  ·exact (bK q).elim
theorem aL8 (S:Snd v) (G:aT X st d):∀ vs,DE X (.BoolOp .And vs pos) (Of (aJ6 v st vs))
 | []=>bW
 | [a]=>aE5 (S.E G a)
 | a::b::r=>bE (bQ3 (S.E G a) (aL8 S G (b::r))) fun δ h Q q=>by
  obtain ⟨w,h1,e1,q⟩:=bD q;refine ⟨w,h1,e1,?_⟩;dsimp only at q ⊢;split at q
  ·exact (if_pos rfl).mpr q
  ·exact (if_neg Bool.false_ne_true).mpr (aS q)
  ·exact (bK q).elim
theorem bJ2 (S:Snd v) (G:aT X st d):∀ vs,DE X (.BoolOp .Or vs pos) (Of (bX4 v st vs))
 | []=>bW
 | [a]=>aE5 (S.E G a)
 | a::b::r=>bE (cI7 (S.E G a) (bJ2 S G (b::r))) fun δ h Q q=>by
  obtain ⟨w,h1,e1,q⟩:=bD q;refine ⟨w,h1,e1,?_⟩;dsimp only at q ⊢;split at q
  ·exact (if_pos rfl).mpr (aS q)
  ·exact (if_neg Bool.false_ne_true).mpr q
  ·exact (bK q).elim
theorem aL9 (S:Snd v) (G:aT X st d):∀ vs,DW X (.BoolOp .And vs pos) (Of (aJ7 v st vs))
 | []=>fun wh pins s σ H Q I ⟨_,_,_,_,_,_,q,_⟩=>(bK q).elim
 | [a]=>aT7 (S.T G a)
 | a::b::r=>cM5 (bQ2 (S.T G a) (aL9 S G (b::r))) fun δ h Q q=>by
  obtain ⟨w,h1,e1,q⟩:=bD q;refine ⟨w,h1,e1,?_⟩;dsimp only at q ⊢;split at q
  ·rename_i hw;rw [if_pos hw];exact q
  ·rename_i hw;rw [if_neg hw];exact aS q
theorem bJ3 (S:Snd v) (G:aT X st d):∀ vs,DW X (.BoolOp .Or vs pos) (Of (bX5 v st vs))
 | []=>fun wh pins s σ H Q I ⟨_,_,_,_,_,_,q,_⟩=>(bK q).elim
 | [a]=>bQ1 (S.T G a)
 | a::b::r=>cM5 (cI4 (S.T G a) (bJ3 S G (b::r))) fun δ h Q q=>by
  obtain ⟨w,h1,e1,q⟩:=bD q;refine ⟨w,h1,e1,?_⟩;dsimp only at q ⊢;split at q
  ·rename_i hw;rw [if_pos hw];exact aS q
  ·rename_i hw;rw [if_neg hw];exact q
theorem uU {f:Str->Option Int} (G:aT X st d) (e1:jS st b=some f):∃ y p q,b=.Name y q/\eL y=true/\Gl X y/\X.mg y=some (.ref p)/\TabK X.w X.K p f:=by
 cases b with
 | Name y q =>
  unfold jS at e1;dsimp only at e1;split at e1
  ·rename_i ht;rw [Bool.and_eq_true] at ht;obtain ⟨h1,h2⟩:=eQ G ht.1;obtain ⟨p,h3,h4⟩:=G.tk _ _ e1;exact ⟨y,p,q,rfl,h1,h2,h3,h4⟩
  ·cases e1
 | _=>cases e1
section
variable {xa xb' xc xd:XR W} {op op' op'':CmpOp} {c':Expr}
theorem hJ {x:XR Bool} {δ:DSt} {h:aA} {Q:DK} (q:Of (cE x) δ h Q):Of x δ h fun b h'=>Q (.d (.bool b)) h':=by
 obtain ⟨w,h',e,q⟩:=q;obtain ⟨⟨b,h2⟩,e1,e2⟩:=map_some e;cases e2;exact ⟨b,_,e1,q⟩
theorem cN1 {δ:DSt} {h:aA} {Q:Bool->aA->Prop} (q:Of (xC1 op xa xb') δ h Q):dOp (Of2 fun u w h=>(cC op u w h).map asW) (Of xa) (Of xb') δ h (fun w h'=>match w with | .d (.bool b)=>Q b h' | _=>False):=by
 obtain ⟨x,h1,e1,q⟩:=bD q;obtain ⟨y,h2,e2,q⟩:=bD q;obtain ⟨k,h3,e3,q⟩:=q;exact ⟨x,h1,e1,y,h2,e2,.d (.bool k),h3,congrArg (Option.map asW) e3,q⟩
theorem cN2 {δ:DSt} {h:aA} {Q:Bool->aA->Prop} (q:Of (xC2 op op' xa xb' xc) δ h Q):iU (Of2 fun u w h=>(cC op u w h).map asW) (Of2 fun u w h=>(cC op' u w h).map asW) (Of xa) (Of xb') (Of xc) δ h (fun w h'=>match w with | .d (.bool b)=>Q b h' | _=>False):=by
 obtain ⟨x,h1,e1,q⟩:=bD q;obtain ⟨y,h2,e2,q⟩:=bD q;obtain ⟨r,hr,e,q⟩:=q;obtain ⟨⟨k,h3⟩,e3,e⟩:=bind_some e;refine ⟨x,h1,e1,y,h2,e2,.d (.bool k),h3,congrArg (Option.map asW) e3,?_⟩;dsimp only at e ⊢;cases k with
 | false =>
  rw [if_neg Bool.false_ne_true] at e ⊢;cases e;exact q
 | true =>
  rw [if_pos rfl] at e ⊢;obtain ⟨⟨z,h4⟩,e4,e⟩:=bind_some e;exact ⟨z,h4,e4,.d (.bool r),hr,congrArg (Option.map asW) e,q⟩
theorem dC7 {δ:DSt} {h:aA} {Q:Bool->aA->Prop} (q:Of (xC3 op op' op'' xa xb' xc xd) δ h Q):kK (Of2 fun u w h=>(cC op u w h).map asW) (Of2 fun u w h=>(cC op' u w h).map asW) (Of2 fun u w h=>(cC op'' u w h).map asW) (Of xa) (Of xb') (Of xc) (Of xd) δ h (fun w h'=>match w with | .d (.bool b)=>Q b h' | _=>False):=by
 obtain ⟨x,h1,e1,q⟩:=bD q;obtain ⟨y,h2,e2,q⟩:=bD q;obtain ⟨r,hr,e,q⟩:=q;obtain ⟨⟨k,h3⟩,e3,e⟩:=bind_some e;refine ⟨x,h1,e1,y,h2,e2,.d (.bool k),h3,congrArg (Option.map asW) e3,?_⟩;dsimp only at e ⊢;cases k with
 | false =>
  rw [if_neg Bool.false_ne_true] at e ⊢;cases e;exact q
 | true =>
  rw [if_pos rfl] at e ⊢;obtain ⟨⟨z,h4⟩,e4,e⟩:=bind_some e;obtain ⟨⟨k',h5⟩,e5,e⟩:=bind_some e;refine ⟨z,h4,e4,.d (.bool k'),h5,congrArg (Option.map asW) e5,?_⟩;dsimp only at e ⊢;cases k' with
  | false =>
   rw [if_neg Bool.false_ne_true] at e ⊢;cases e;exact q
  | true =>
   rw [if_pos rfl] at e ⊢;obtain ⟨⟨z',h6⟩,e6,e⟩:=bind_some e;exact ⟨z',h6,e6,.d (.bool r),hr,congrArg (Option.map asW) e,q⟩
theorem aM0 {Q:DK} {w:W} {h:aA} (q:match w with | .d (.bool b)=>Q (.d (.bool b)) h | _=>False):Q w h:=by
 split at q
 ·exact q
 ·exact q.elim
end
theorem dI {α:Type} {x:XR α} {δ:DSt} {h:aA} {Q Q':α->aA->Prop} (m:∀ a h,Q a h->Q' a h) (q:Of x δ h Q):Of x δ h Q':=by
 obtain ⟨a,h',e,q⟩:=q;exact ⟨a,h',e,m _ _ q⟩
theorem fA {f:W->W->aA->Option (W×aA)} {u w:W} {h:aA} {Q Q':DK} (m:∀ a h,Q a h->Q' a h) (q:Of2 f u w h Q):Of2 f u w h Q':=by
 obtain ⟨a,h',e,q⟩:=q;exact ⟨a,h',e,m _ _ q⟩
theorem bB1 {f g:W->W->aA->Option (W×aA)} {xa xb' xc:XR W} {δ:DSt} {h:aA} {Q Q':DK} (m:∀ a h,Q a h->Q' a h) (q:iU (Of2 f) (Of2 g) (Of xa) (Of xb') (Of xc) δ h Q):iU (Of2 f) (Of2 g) (Of xa) (Of xb') (Of xc) δ h Q':=by
 refine dI (fun x h1 q=>dI (fun y h2 q=>fA (fun z h3 q=>?_) q) q) q;split at q
 ·rename_i k;cases k with
  | false=>exact m _ _ q
  | true=>exact dI (fun u h4 q=>fA m q) q
 ·exact q.elim
theorem bB2 {f g k:W->W->aA->Option (W×aA)} {xa xb' xc xd:XR W} {δ:DSt} {h:aA} {Q Q':DK} (m:∀ a h,Q a h->Q' a h) (q:kK (Of2 f) (Of2 g) (Of2 k) (Of xa) (Of xb') (Of xc) (Of xd) δ h Q):kK (Of2 f) (Of2 g) (Of2 k) (Of xa) (Of xb') (Of xc) (Of xd) δ h Q':=by
 refine dI (fun x h1 q=>dI (fun y h2 q=>fA (fun z h3 q=>?_) q) q) q;split at q
 ·rename_i k;cases k with
  | false=>exact m _ _ q
  | true =>
   refine dI (fun u h4 q=>fA (fun z' h5 q=>?_) q) q;split at q
   ·rename_i k';cases k' with
    | false=>exact m _ _ q
    | true=>exact dI (fun u' h6 q=>fA m q) q
   ·exact q.elim
 ·exact q.elim
theorem uV (S:Snd v) (G:aT X st d):∀ {ops:List CmpOp} {cs:List Expr},DE X (.Compare a ops cs pos) (Of (cE (iJ v st a ops cs)))
 | [op],[b]=>by
  show DE X _ (Of (cE (match jS st b with
   | some f=>if op=.NotIn then oB f (v.E st a) else xno
   | none=>if behindInMarks op b=true then xno else xC1 op (v.E st a) (v.E st b))))
  cases ht:jS st b with
  | some f =>
   obtain ⟨y,p,pp,rfl,h1,h2,h3,h4⟩:=uU G ht;dsimp only;split
   ·rename_i ho;subst ho;refine bE (yV h4 h3 (S.E G a) h2 (bO h1)) fun δ h Q q=>?_;obtain ⟨w,h1,e1,q⟩:=bD (hJ q);refine ⟨w,h1,e1,?_⟩;dsimp only at q ⊢;split at q
    ·have z:=aS q;exact z
    ·have z:=aS q;exact z
    ·exact (bK q).elim
   ·exact bE eT fun δ h Q q=>(bK (hJ q)).elim
  | none =>
   dsimp only;split
   ·exact bE eT fun δ h Q q=>(bK (hJ q)).elim
   ·rename_i hm;exact bE (bP7 (dH G.rm op) (S.E G a) (S.E G b) (by simpa using hm)) fun δ h Q q=>dI (fun x h1 q=>dI (fun y h2 q=>fA (fun _ _=>aM0) q) q) (cN1 (hJ q))
 | [op,op'],[b,c]=>by
  show DE X _ (Of (cE (if lastMarks [op,op'] [b,c]=true then xno else xC2 op op' (v.E st a) (v.E st b) (v.E st c))));split
  ·exact bE eT fun δ h Q q=>(bK (hJ q)).elim
  ·rename_i hm;exact bE (aG1 (dH G.rm op) (dH G.rm op') (S.E G a) (S.E G b) (S.E G c) (by simpa using hm)) fun δ h Q q=>bB1 (fun _ _=>aM0) (cN2 (hJ q))
 | [],_=>bE eT fun δ h Q q=>(bK (hJ q)).elim
 | [_],[]=>bE eT fun δ h Q q=>(bK (hJ q)).elim
 | [_],_::_::_=>bE eT fun δ h Q q=>(bK (hJ q)).elim
 | [_,_],[]=>bE eT fun δ h Q q=>(bK (hJ q)).elim
 | [_,_],[_]=>bE eT fun δ h Q q=>(bK (hJ q)).elim
 | [_,_],_::_::_::_=>bE eT fun δ h Q q=>(bK (hJ q)).elim
 | _::_::_::_,_=>bE eT fun δ h Q q=>(bK (hJ q)).elim
theorem zU (S:Snd v) (G:aT X st d):∀ {ops:List CmpOp} {cs:List Expr},DE X (.Compare a ops cs pos) (Of (cE (jB v st a ops cs))):=fun {ops cs}=>by
 unfold jB;split
 ·rename_i op op' op'' b c d';split
  ·exact bE eT fun δ h Q q=>(bK (hJ q)).elim
  ·rename_i hm;exact bE (yY (dH G.rm op) (dH G.rm op') (dH G.rm op'') (S.E G a) (S.E G b) (S.E G c) (S.E G d') (by simpa using hm)) fun δ h Q q=>bB2 (fun _ _=>aM0) (dC7 (hJ q))
 ·exact uV S G
theorem zV (S:Snd v) (G:aT X st d):∀ {ops:List CmpOp} {cs:List Expr},DT X (.Compare a ops cs pos) (Of (iJ v st a ops cs))
 | [op],[b]=>by
  show DT X _ (Of (match jS st b with
   | some f=>if op=.NotIn then oB f (v.E st a) else xno
   | none=>if behindInMarks op b=true then xno else xC1 op (v.E st a) (v.E st b)))
  cases ht:jS st b with
  | some f =>
   obtain ⟨y,p,pp,rfl,h1,h2,h3,h4⟩:=uU G ht;dsimp only;split
   ·rename_i ho;subst ho;refine aK7 (yW h4 h3 (S.E G a) h2 (bO h1)) fun δ h Q q=>?_;obtain ⟨w,h1,e1,q⟩:=bD q;refine ⟨w,h1,e1,?_⟩;dsimp only at q ⊢;split at q
    ·exact aS q
    ·exact aS q
    ·exact (bK q).elim
   ·exact kB
  | none =>
   dsimp only;split
   ·exact kB
   ·rename_i hm;exact aK7 (bP9 (dH G.rm op) (S.E G a) (S.E G b) (by simpa using hm)) fun δ h Q q=>cN1 q
 | [op,op'],[b,c]=>by
  show DT X _ (Of (if lastMarks [op,op'] [b,c]=true then xno else xC2 op op' (v.E st a) (v.E st b) (v.E st c)));split
  ·exact kB
  ·rename_i hm;exact aK7 (aG2 (dH G.rm op) (dH G.rm op') (S.E G a) (S.E G b) (S.E G c) (by simpa using hm)) fun δ h Q q=>cN2 q
 | [],_=>kB
 | [_],[]=>kB
 | [_],_::_::_=>kB
 | [_,_],[]=>kB
 | [_,_],[_]=>kB
 | [_,_],_::_::_::_=>kB
 | _::_::_::_,_=>kB
theorem aM1:(∀ x y:PyData,peq x y=true->x=y)/\True:=⟨fun x=>by
 intro y h;exact (PyData.rec (motive_1:=fun x=>∀ y,peq x y=true->x=y) (motive_2:=fun xs=>∀ ys,peqs xs ys=true->xs=ys) (motive_3:=fun _=>True) (motive_4:=fun _=>True)
  (fun y h=>by cases y<;>first | rfl | (simp [peq] at h))
  (fun b y h=>by cases y<;>first | (simp only [peq] at h;rw [eq_of_beq h]) | (simp [peq] at h))
  (fun b y h=>by cases y<;>first | (simp only [peq] at h;rw [eq_of_beq h]) | (simp [peq] at h))
  (fun b y h=>by cases y<;>first | (simp only [peq] at h;rw [eq_of_beq h]) | (simp [peq] at h))
  (fun xs ih y h=>by cases y<;>first | (simp only [peq] at h;rw [ih _ h]) | (simp [peq] at h))
  (fun xs ih y h=>by cases y<;>first | (simp only [peq] at h;rw [ih _ h]) | (simp [peq] at h))
  (fun kvs _ y h=>by cases y<;>simp [peq] at h)
  (fun ys h=>by cases ys<;>first | rfl | (simp [peqs] at h))
  (fun x xs ih1 ih2 ys h=>by
   cases ys with
   | nil=>simp [peqs] at h
   | cons y ys =>
    simp only [peqs,Bool.and_eq_true] at h;rw [ih1 _ h.1,ih2 _ h.2])
  trivial (fun _ _ _ _=>trivial) (fun _ _ _ _=>trivial) x) y h,trivial⟩
theorem wT:∀ {xs ys:List PyData},peqs xs ys=true->xs=ys
 | [],[],_=>rfl
 | [],_::_,h=>by simp [peqs] at h
 | _::_,[],h=>by simp [peqs] at h
 | x::xs,y::ys,h=>by
  simp only [peqs,Bool.and_eq_true] at h;rw [aM1.1 x y h.1,wT h.2]
theorem gK {c:Option Nat} {xs:List PyData} {h:aA} (e:condB c xs h=true):DL.cond c xs h:=by
 cases c with
 | none=>trivial
 | some i =>
  show h[i]?=some (.l xs);unfold condB at e;dsimp only at e;split at e
  ·rename_i ys q;rw [q,wT e]
  ·cases e
theorem uW {tg:Expr} {y:XR W} (h:DE X e (Of y)):DI X tg e (OfI (bU y)):=zN (aV7 h) fun δ h Q q=>by
 obtain ⟨xs,c,h',e,q⟩:=q;obtain ⟨⟨w,h1⟩,e1,e⟩:=bind_some e;refine ⟨w,h1,e1,?_⟩;dsimp only at e ⊢;split at e
 ·cases e;exact q
 ·cases e;exact q
 ·split at e
  ·rename_i ys ey;try dsimp only
   try rw [ey]
   cases e;exact q
  ·cases e
 ·cases e
theorem aM2 {i j:Int} (h:gA i j=true):j - i<=16000000/\-(2^62)<=i/\i < 2^62/\-(2^62)<=j/\j < 2^62:=by
 unfold gA at h
 simpa only [Bool.and_eq_true,decide_eq_true_eq] using h
theorem aM3 {tg:Expr} {y:XR (List PyData×Option Nat)} (n:∀ δ h,y δ h=none):DI X tg e (OfI y):=zN cK1 fun δ h Q q=>by
 obtain ⟨_,_,_,e,_⟩:=q;rw [n] at e;cases e
theorem pW (S:Snd v) (G:aT X st d) {tg:Expr}:∀ e,DI X tg e (OfI (sE v st tg e)):=fun e=>by
 unfold sE;split
 ·rename_i x p a p';split
  ·rename_i hx;subst hx;split
   ·rename_i hc;simp only [Bool.and_eq_true] at hc;obtain ⟨⟨⟨ht,_⟩,hb⟩,hs⟩:=hc;refine zN (yL (G.bl _ hb) (fE (S.E G a) kX (aF hs _)) (eQ G ht).2 (aF hs _)) fun δ h Q q=>?_;obtain ⟨xs,c,h',e,q⟩:=q;obtain ⟨⟨w,h1⟩,e1,e⟩:=bind_some e;refine ⟨w,h1,e1,?_⟩;dsimp only [aE4] at e ⊢;split at e
    ·split at e
     ·rename_i hr;have z:=aM2 hr;cases e;exact ⟨⟨by omega,z.2.2.2.1⟩,q⟩
     ·cases e
    ·cases e
   ·exact aM3 fun _ _=>rfl
  ·split
   ·rename_i hx;subst hx;split
    ·rename_i hc;simp only [Bool.and_eq_true] at hc;obtain ⟨⟨⟨⟨ht,_⟩,hb⟩,hs⟩,htg⟩:=hc;have htu:∃ es n tp,tg=.Tuple es n tp:=by
      unfold sD at htg;split at htg
      ·exact ⟨_,_,_,rfl⟩
      ·cases htg
     obtain ⟨es,n,tp,rfl⟩:=htu;refine zN (aZ2 (G.bl _ hb) (fE (S.E G a) kX (aF hs _)) (eQ G ht).2 (aF hs _)) fun δ h Q q=>?_;obtain ⟨xs,c,h',e,q⟩:=q;obtain ⟨⟨u,h1⟩,e1,e⟩:=bind_some e;refine ⟨u,h1,e1,?_⟩;dsimp only [aE4] at e ⊢;split at e
     ·rename_i xs' ex;cases e;exact ⟨u,xs',rfl,ex,q⟩
     ·cases e
    ·exact aM3 fun _ _=>rfl
   ·exact uW (S.E G _)
 ·rename_i x p a b p';split
  ·rename_i hx;subst hx;split
   ·rename_i hc;simp only [Bool.and_eq_true] at hc;obtain ⟨⟨⟨⟨ht,_⟩,hb⟩,hs⟩,hs2⟩:=hc;refine zN (yM (G.bl _ hb) (fE (S.E G a) (fE (S.E G b) kX (aF hs2 _)) (aF hs _)) (eQ G ht).2 (by rw [aF hs,aF hs2];rfl) (aF hs2 _)) fun δ h Q q=>?_;obtain ⟨xs,c,h',e,q⟩:=q;obtain ⟨⟨u,h1⟩,e1,e⟩:=bind_some e;obtain ⟨⟨w,h2⟩,e2,e⟩:=bind_some e;refine ⟨u,h1,e1,w,h2,e2,?_⟩;dsimp only [aE4] at e ⊢;split at e
    ·split at e
     ·rename_i hr;have z:=aM2 hr;cases e;exact ⟨z,q⟩
     ·cases e
    ·cases e
   ·exact aM3 fun _ _=>rfl
  ·split
   ·rename_i hx;subst hx;split
    ·rename_i hc;simp only [Bool.and_eq_true] at hc;obtain ⟨⟨⟨⟨⟨ht,_⟩,hb⟩,hs⟩,hs2⟩,htg⟩:=hc;have htu:∃ es n tp,tg=.Tuple es n tp:=by
      unfold sD at htg;split at htg
      ·exact ⟨_,_,_,rfl⟩
      ·cases htg
     obtain ⟨es,n,tp,rfl⟩:=htu;refine zN (bV8 (G.bl _ hb) (fE (S.E G a) (fE (S.E G b) kX (aF hs2 _)) (aF hs _)) (eQ G ht).2 (by rw [aF hs,aF hs2];rfl) (aF hs2 _)) fun δ h Q q=>?_;obtain ⟨xs,c,h',e,q⟩:=q;obtain ⟨⟨u,h1⟩,e1,e⟩:=bind_some e;obtain ⟨⟨w,h2⟩,e2,e⟩:=bind_some e;refine ⟨u,h1,e1,w,h2,e2,?_⟩;dsimp only [aE4] at e ⊢;split at e
     ·rename_i xs' ys' ex ey;cases e;exact ⟨u,w,xs',ys',rfl,ex,ey,q⟩
     ·cases e
    ·exact aM3 fun _ _=>rfl
   ·exact uW (S.E G _)
 ·split
  ·exact aM3 fun _ _=>rfl
  ·exact uW (S.E G _)
theorem pX (h:jT e=false) (env:Env) (y:Value):foldedSetIterable e env y=pure y:=by
 cases e<;>first | rfl | cases h
theorem iK {g:XG} {tt:XR Bool} {te:XR W} {c:Option Nat} {all:List PyData} {Q:List PyData->aA->Prop}:∀ (rest:List PyData) (δ:DSt) (h:aA) (ac r:List PyData) (h':aA),aO g tt te c all rest δ h ac=some (r,h')->Q r h'->rS (OfG g) (Of tt) (Of te) c all rest δ h ac Q
 | [],δ,h,ac,r,h',e,q=>by
  unfold aO at e;split at e
  ·rename_i hc;cases e;exact ⟨gK hc,q⟩
  ·cases e
 | x::rest,δ,h,ac,r,h',e,q=>by
  unfold aO at e;split at e
  ·rename_i hc;obtain ⟨⟨δ2,h2⟩,e1,e⟩:=bind_some e;obtain ⟨⟨k,h3⟩,e2,e⟩:=bind_some e;refine ⟨gK hc,δ2,h2,e1,k,h3,e2,?_⟩;dsimp only at e ⊢;split at e
   ·rename_i hk;rw [if_pos hk];obtain ⟨⟨w,h4⟩,e3,e⟩:=bind_some e;refine ⟨w,h4,e3,?_⟩;cases w with
    | d z=>exact iK rest δ2 h4 (ac++[z]) r h' e q
    | c i=>cases e
    | v u=>cases e
   ·rename_i hk;rw [if_neg hk];exact iK rest δ2 h3 ac r h' e q
  ·cases e
theorem zW (N:List Str) (sc:Scope):(oC N sc).length=(uQ sc).length:=by unfold oC;rw [List.length_map]
theorem kL {N:List Str} {sc S:Scope} (h:sG N sc S=true):CompSc N (uQ sc) (oC N sc) S sc:=by
 unfold sG at h;simp only [Bool.and_eq_true,decide_eq_true_eq,List.all_eq_true] at h;obtain ⟨h1,h2,h3,h4,h5,h6⟩:=h;refine ⟨h1,fun y hy e=>?_,fun y hy e=>?_,fun y hy e=>?_,h5,zW N sc,?_⟩
 ·have:=h2 y hy;rw [e] at this;simp at this
 ·have:=h3 y hy;rw [e] at this
  simpa using this
 ·have:=h4 y hy;rw [e] at this
  simpa using this
 ·rw [List.all_eq_true];exact h6
theorem cM (G:aT X st d) {sc:Scope} (hc:sG st.N sc st.S=true) (cl:List (Str×Addr)) (C:Addr) (s:Shared) (H:Hp) (fp:List Addr):aT (blk X (uQ sc) sc cl C s H fp) (st.blk sc) d:=by
 have SC:=kL hc;refine ⟨G.bl,G.gc,G.tk,G.fn,rfl,?_,SC.nd,G.xe,G.calm,G.rm,(fun z=>nomatch z),SC.kind,G.fnW,G.cls,G.om,G.fo⟩;show relabel sc X.env=bX6 sc st.S;unfold relabel bX6 Env.kindOf;rw [G.S]
theorem uX (S:Snd v) (G:aT X st d):∀ ifs,DIf X ifs (Of (bX7 v st ifs))
 | []=>cM8 aW0 fun δ h Q q=>aS q
 | [c]=>aW1 (S.T G c)
 | _::_::_=>fun pins s σ H Q I ⟨_,_,_,_,_,_,q,_⟩=>(bK q).elim
theorem bZ0 (S:Snd v) (G:aT X st d) {elt tg iter:Expr} {ifs:List Expr} {sc:Scope}:DF X (.ListComp elt [⟨tg,iter,ifs,0⟩] sc pos) (Of (oE v st elt tg iter ifs sc)):=by
 unfold oE;split
 ·rename_i hc;rw [Bool.and_eq_true] at hc;have hs:jT iter=false:=by simpa using hc.2
  refine pU (aW2 G.xe G.calm G.S G.N (kL hc.1) (pW S G iter) (fun cl C s H fp=>S.G (cM G hc.1 cl C s H fp) tg) (fun cl C s H fp=>uX S (cM G hc.1 cl C s H fp) ifs)
   (fun cl C s H fp=>S.E (cM G hc.1 cl C s H fp) elt) (pX hs _)) fun δ h Q q=>?_
  obtain ⟨r,h',e,q⟩:=q;obtain ⟨⟨⟨xs,c⟩,h1⟩,e1,e⟩:=bind_some e;exact ⟨xs,c,h1,e1,iK _ _ _ _ _ _ e q⟩
 ·exact uR
theorem bZ1 (S:Snd v) (G:aT X st d):DF X (.List es pos) (Of (xPl (cK v st es))):=pU (bP6 (cL S G es)) fun δ h Q q=>by
 obtain ⟨ws,h1,e1,q⟩:=bD q;refine ⟨ws,h1,e1,?_⟩;obtain ⟨r,h',e,q⟩:=q;dsimp only at e ⊢;split at e
 ·rename_i xs ex;try rw [ex]
  split at e
  ·rename_i hl;cases e;exact ⟨hl,q⟩
  ·cases e
 ·cases e
theorem bZ2 {l:List Expr} {b:Expr} (e:rgA l=some b):∃ p q,l=[.Call (.Name "range" p) [b] [] q]:=by
 unfold rgA at e;split at e
 ·split at e
  ·rename_i hy;subst hy;cases e;exact ⟨_,_,rfl⟩
  ·cases e
 ·cases e
theorem pY (G:aT X st d) (h:okC st x=true):Gl X x/\X.mg x=none:=by
 unfold okC at h;simp only [Bool.and_eq_true] at h;exact ⟨(eQ G h.1.1).2,G.bl _ h.2⟩
theorem jD (S:Snd v) (G:aT X st d):∀ e,DF X e (Of (eY v st e)):=fun e=>by
 unfold eY;split
 ·exact bZ1 S G
 ·rename_i elt tg iter ifs a' sc p;split
  ·rename_i ha;subst ha;exact bZ0 S G
  ·exact uR
 ·rename_i a lo hi p2 p;refine pU (aE8 (S.E G a) (oF S G lo) (oF S G hi)) fun δ h Q q=>?_;obtain ⟨x,h1,e1,q⟩:=bD q;obtain ⟨l,h2,e2,q⟩:=bD q;obtain ⟨u,h3,e3,q⟩:=bD q;obtain ⟨r,h',e,q⟩:=q;refine ⟨x,h1,e1,l,h2,e2,u,h3,e3,?_⟩;dsimp only at e ⊢;split at e
  ·rename_i xs ex;try rw [ex]
   cases e;exact q
  ·cases e
 ·rename_i a b p;refine pU (aY6 (S.E G a) (S.E G b)) fun δ h Q q=>?_;obtain ⟨x,h1,e1,q⟩:=bD q;obtain ⟨y,h2,e2,q⟩:=bD q;obtain ⟨r,h',e,q⟩:=q;refine ⟨x,h1,e1,y,h2,e2,?_⟩;dsimp only at e ⊢;split at e
  ·rename_i xs ys ex ey;try rw [ex,ey]
   split at e
   ·rename_i hl;cases e;exact ⟨hl,q⟩
   ·cases e
  ·cases e
 ·rename_i es p b p';refine pU (bV5 (bY9 (bZ1 S G)) (S.E G b)) fun δ h Q q=>?_;obtain ⟨x,h1,e1,q⟩:=bD q;obtain ⟨y,h2,e2,q⟩:=bD q;obtain ⟨r,h',e,q⟩:=q;refine ⟨x,h1,e1,y,h2,e2,?_⟩;dsimp only at e ⊢;split at e
  ·split at e
   ·rename_i xs ex;try dsimp only
    try rw [ex]
    split at e
    ·rename_i hl;cases e;exact ⟨hl,q⟩
    ·cases e
   ·cases e
  ·cases e
 ·rename_i x p a es p';split
  ·rename_i hx;subst hx;split
   ·rename_i b hb;obtain ⟨p1,p2,hb⟩:=bZ2 hb;cases hb;split
    ·rename_i hc;simp only [Bool.and_eq_true] at hc;obtain ⟨⟨h1,h2⟩,h3⟩:=hc;refine pU (zL G.calm (pY G h1).1 (pY G h1).2 (pY G h2).1 (pY G h2).2 (cL S G [b]) (aF h3 _)) fun δ h Q q=>?_;obtain ⟨ws,h1,e1,q⟩:=bD q;obtain ⟨r,h',e,q⟩:=q;refine ⟨ws,h1,e1,?_⟩;dsimp only at e;split at e
     ·split at e
      ·rename_i hz;cases e;exact ⟨_,rfl,hz,q⟩
      ·cases e
     ·cases e
    ·exact uR
   split
   ·rename_i hc;simp only [Bool.and_eq_true] at hc;obtain ⟨⟨ht,_⟩,hb⟩:=hc;refine dC6 ((a::es).all aK=true) (fun δ h r e=>?_) fun hst=>?_
    ·obtain ⟨p,e1,_⟩:=bind_some e;exact cS _ _ _ _ e1
    ·have hst':=hst;rw [List.all_cons,Bool.and_eq_true] at hst';refine pU (aU8 (G.bl _ hb) (cL S G (a::es)) (eQ G ht).2 (aF hst'.1 _) (cA es _ _ hst'.2)) fun δ h Q q=>?_;obtain ⟨ws,h1,e1,q⟩:=bD q;obtain ⟨r,h',e,q⟩:=q;refine ⟨ws,h1,e1,?_⟩;dsimp only at e ⊢;split at e
     ·split at e
      ·rename_i xs ex;try dsimp only
       try rw [ex]
       cases e;exact q
      ·rename_i xs ex;try dsimp only
       try rw [ex]
       cases e;exact q
      ·cases e
     ·cases e
   ·exact uR
  ·exact uR
 ·exact uR
end
section
variable {X:Cx} {st:Sta} {d:Nat} {x:Str} {v:Evs} {a b c e:Expr} {es:List Expr} {pos:Pos}
theorem bfun_ok (G:aT X st d) {g:List W->aA->Option (W×aA)} (e:bX2 x=some g) :
  (∃ id,bootBuiltins x=some (.builtin id)/\cN X (.builtin id) (upC X.K (OfC g)))\/∃ T,bootBuiltins x=some (.type T)/\cN X (.type T) (upC X.K (OfC g)):=by
 unfold bX2 at e;split at e
 ·rename_i hx;subst hx;cases e;refine .inl ⟨"len",rfl,uS yJ fun ws h Q ⟨r,h',e,q⟩=>?_⟩;unfold cD at e;unfold bR3;split at e
  ·split at e
   ·rename_i ey;dsimp only;rw [ey];cases e;exact q
   ·rename_i ey;dsimp only;rw [ey];cases e;exact q
   ·cases e
  ·cases e
 split at e
 ·rename_i hx;subst hx;cases e;refine .inr ⟨"tuple",rfl,uS rQ fun ws h Q ⟨r,h',e,q⟩=>?_⟩;unfold bY at e;unfold uJ;split at e
  ·split at e
   ·rename_i ey;dsimp only;rw [ey];cases e;exact q
   ·rename_i ey;dsimp only;rw [ey];cases e;exact q
   ·cases e
  ·cases e
 split at e
 ·rename_i hx;subst hx;cases e;refine .inl ⟨"all",rfl,uS (yR G.calm) fun ws h Q ⟨r,h',e,q⟩=>?_⟩;unfold iI at e;unfold bS5;split at e
  ·split at e
   ·rename_i ey;dsimp only;rw [ey];obtain ⟨bs,e1,e2⟩:=map_some e;dsimp only;rw [e1];cases e2;exact q
   ·cases e
  ·cases e
 split at e
 ·rename_i hx;subst hx;cases e;exact .inr ⟨"int",rfl,zK⟩
 ·cases e
theorem bZ3 {T:Str} {Ts:String} (e:bX3 T=some Ts):jP Ts/\bootBuiltins T=some (.type Ts):=by
 unfold bX3 at e
 repeat' split at e
 all_goals first | (rename_i h;subst h;cases e;exact ⟨aW3,rfl⟩) | (rename_i h;subst h;cases e;exact ⟨aF8,rfl⟩) | (rename_i h;subst h;cases e;exact ⟨aW4,rfl⟩) | (rename_i h;subst h;cases e;exact ⟨yS,rfl⟩) | (rename_i h;subst h;cases e;exact ⟨aF9,rfl⟩) | cases e
theorem base_of {o:Expr} (h:gZ o=true) (m:Str) (env:Env):attributeBase o m env (eval o env)=eval o env:=by
 cases o<;>first | rfl | cases h
theorem pZ (h:(e::es).all aK=true) (hl:(e::es).length < 29) (env:Env) (cpos:Pos) :
  ((backTo cpos (starEach (e::es) env)).all (fun x=>!x.1)&&(backToKw cpos (keywordEach [] env)).all (fun x=>x.1.isSome)
   && decide ((e::es).length+([]:List Keyword).length+(if ([]:List Keyword).isEmpty then 0 else 1) < 30))=true:=by
 rw [sM _ _ _ h];have:(e::es).length+0+0 < 30:=by omega
 show (true&&true&&decide _)=true;simp only [Bool.true_and,decide_eq_true_eq];exact this
theorem aM4 (S:Snd v) (G:aT X st d) {o:Expr} {m:Str} {apos:Pos} {g:W->List W->aA->Option (W×aA)} (ho:gZ o=true) (hl:(apos.endLine==pos.line)=true) (hn:(a::es).length < 29) (hm:bX8 m=some g) :
  DE X (.Call (.Attribute o m apos) (a::es) [] pos) (Of (bI6 v st o m g (a::es))):=by
 refine zT ((a::es).all aK=true) (fun δ h r e=>?_) fun hst=>?_
 ·obtain ⟨p,e1,e⟩:=bind_some e;dsimp only at e;split at e
  ·obtain ⟨p,e2,e⟩:=bind_some e;exact cS _ _ _ _ e2
  ·cases e
 have hst':=hst;rw [List.all_cons,Bool.and_eq_true] at hst';unfold bX8 at hm;split at hm
 ·rename_i hx;subst hx;cases hm;refine bE (bS1 (S.E G o) (cL S G (a::es)) (base_of ho _ _) (pZ hst hn _ _) hl (aF hst'.1 _) (cA _ _ _ hst'.2)) fun δ h Q q=>?_;obtain ⟨w,h1,e1,q⟩:=bD q;refine ⟨w,h1,e1,?_⟩;obtain ⟨r,h',e,q⟩:=q;dsimp only at e ⊢;split at e
  ·rename_i hp;obtain ⟨⟨ws,h2⟩,e2,e⟩:=bind_some e;dsimp only at e;split at e
   ·rename_i j x _;dsimp only;have hp':∃ ys,h1[j]?=some (.l ys):=by
     unfold kA at hp;rw [if_pos rfl] at hp;dsimp only at hp;split at hp
     ·rename_i ys ey;exact ⟨ys,ey⟩
     ·cases hp
    obtain ⟨ys,ey⟩:=hp';rw [ey];refine ⟨_,h2,e2,?_⟩;dsimp only;split at e
    ·rename_i xs ex;rw [ex];split at e
     ·rename_i hl;cases e;exact ⟨hl,q⟩
     ·cases e
    ·cases e
   ·cases e
  ·cases e
 ·cases hm
theorem cN3 (S:Snd v) (G:aT X st d) {o:Expr} {apos:Pos} (ho:gZ o=true) (hl:(apos.endLine==pos.line)=true) (ha:aK a=true) :
  DE X (.Call (.Attribute o "pop" apos) [a] [] pos) (Of (cL9 v st o a)):=by
 intro pins s σ H Q I hq;obtain ⟨δ,h,A,μ,k,R,⟨r,h',e,q⟩,c⟩:=hq;obtain ⟨⟨w,h1⟩,e1,e⟩:=bind_some e;dsimp only at e;have hst:[a].all aK=true:=by simp [ha]
 split at e
 ·rename_i j;split at e
  ·rename_i xs ex;obtain ⟨⟨ws,h2⟩,e2,e⟩:=bind_some e;refine bW4 (S.E G o) (cL S G [a]) (base_of ho _ _) (pZ hst (by simp) _ _) hl (aF ha _) (cA _ _ _ rfl) pins s σ H Q I ⟨δ,h,A,μ,k,R,⟨.c j,h1,e1,?_⟩,c⟩;dsimp only;rw [ex];refine ⟨ws,h2,e2,?_⟩;unfold aJ8 at e;dsimp only at e ⊢;split at e
   ·rename_i i ys ey;obtain ⟨n,e3,e⟩:=bind_some e;obtain ⟨x,e4,e⟩:=bind_some e;split at e
    ·rename_i hi;cases e;try rw [ey]
     exact ⟨n,x,e3,e4,hi.1,hi.2,q⟩
    ·cases e
   ·cases e
  ·cases e
 ·cases e
theorem zX {o:Expr} (h:wN o=true) (m:Str) (env:Env):attributeBase o m env (eval o env)=eval o env:=by
 unfold wN at h;split at h
 ·rfl
 ·rfl
 ·cases h
theorem dC8 (S:Snd v) (G:aT X st d) {o:Expr} {m:Str} {apos:Pos} {C:Addr} {g:XFW} (hm:st.ob.om m=some (C,g)) (ho:wN o=true) (hl:(apos.endLine==pos.line)=true) (hn:(a::es).length < 29) (hst:(a::es).all aK=true) :
  DE X (.Call (.Attribute o m apos) (a::es) [] pos) (Of (xMo v st o m C g (a::es))):=by
 obtain ⟨hc,f,fd,ps,hM,F,hb⟩:=G.om m C g hm;have hst':=hst;rw [List.all_cons,Bool.and_eq_true] at hst';refine bE (aZ9 hc hM F G.rm hb (S.E G o) (cL S G (a::es)) (zX ho _ _) (pZ hst hn _ _) hl (aF hst'.1 _) (cA _ _ _ hst'.2)) fun δ h Q q=>?_;obtain ⟨w,h1,e1,q⟩:=bD q;refine ⟨w,h1,e1,?_⟩;obtain ⟨r,h',e,q⟩:=q;dsimp only at e ⊢;split at e
 ·rename_i j;split at e
  ·rename_i C' fs ej;split at e
   ·rename_i hz;obtain ⟨⟨ws,h2⟩,e2,e⟩:=bind_some e;try dsimp only
    try rw [ej]
    exact ⟨hz.1,hz.2,ws,h2,e2,r,h',e,q⟩
   ·cases e
  ·cases e
 ·cases e
theorem cN4 (S:Snd v) (G:aT X st d) {o:Expr} {f:Str} {pos:Pos} (ho:gZ o=true):DE X (.Attribute o f pos) (Of (cM1 v st o f)):=by
 refine bE (bW5 (S.E G o) (base_of ho _ _)) fun δ h Q q=>?_;obtain ⟨w,h1,e1,q⟩:=bD q;refine ⟨w,h1,e1,?_⟩;obtain ⟨r,h',e,q⟩:=q;dsimp only at e ⊢;split at e
 ·rename_i j;split at e
  ·rename_i C fs ej;split at e
   ·rename_i hf;obtain ⟨w2,e3,e4⟩:=map_some e;cases e4;obtain ⟨h5,h6⟩:=G.fo C f hf;try dsimp only
    try rw [ej]
    refine ⟨h5,h6,?_⟩;rw [e3];exact q
   ·cases e
  ·cases e
 ·cases e
theorem cN5 (S:Snd v) (G:aT X st d) {o:Expr} {apos:Pos} (ho:gZ o=true) (hl:(apos.endLine==pos.line)=true) (ha:aK a=true) :
  DE X (.Call (.Attribute o "extend" apos) [a] [] pos) (Of (cM0 v st o a)):=by
 refine bE (bW8 (S.E G o) (S.F G a) (base_of ho _ _) (pZ (by simp [ha]) (by simp) _ _) hl (aF ha _)) fun δ h Q q=>?_;obtain ⟨w,h1,e1,q⟩:=bD q;refine ⟨w,h1,e1,?_⟩;obtain ⟨r,h',e,q⟩:=q;dsimp only at e ⊢;split at e
 ·rename_i j;split at e
  ·rename_i ys ey;obtain ⟨⟨zs,h2⟩,e2,e⟩:=bind_some e;try dsimp only
   try rw [ey]
   refine ⟨zs,h2,e2,?_⟩;try dsimp only at e ⊢
   split at e
   ·rename_i xs ex;try rw [ex]
    split at e
    ·rename_i hz;cases e;exact ⟨hz,q⟩
    ·cases e
   ·cases e
  ·cases e
 ·cases e
theorem aM5 (S:Snd v) (G:aT X st d) {f:Expr} {args:List Expr}:DE X (.Call f args [] pos) (Of (wO v st f args pos)):=by
 unfold wO;split
 ·rename_i y p;split
  ·rename_i hc;rw [Bool.and_eq_true] at hc;obtain ⟨ht,hs⟩:=hc;obtain ⟨hn,hg⟩:=eQ G ht;split
   ·rename_i m hm;split
    ·exact bW
    ·rename_i a es;refine zT ((a::es).all aK=true) (fun δ h r e=>?_) fun hst=>?_
     ·obtain ⟨p,e1,e⟩:=bind_some e;exact cS _ _ _ _ e1
     have hst':=hst;rw [List.all_cons,Bool.and_eq_true] at hst';refine bE (aI7 (G.fnW y m hm) G.rm (cL S G (a::es)) hg (bO hn) (aF hst'.1 _) (cA _ _ _ hst'.2)) fun δ h Q q=>?_;obtain ⟨ws,h1,e1,q⟩:=bD q;exact ⟨ws,h1,e1,q⟩
   split
   ·rename_i C m hm;split
    ·exact bW
    ·rename_i a es;refine zT ((a::es).all aK=true) (fun δ h r e=>?_) fun hst=>?_
     ·obtain ⟨p,e1,e⟩:=bind_some e;exact cS _ _ _ _ e1
     have hst':=hst;rw [List.all_cons,Bool.and_eq_true] at hst';rcases G.cls y C m hm with hno | ⟨k,f,fd,ps,hk,hM,F,hmg,hb⟩
     ·refine zT False (fun δ h r e=>?_) fun z=>z.elim;obtain ⟨p,e1,e⟩:=bind_some e;unfold xMk at e;dsimp only at e;rw [hno] at e;cases e
     refine bE (aZ8 hM F (G.rm.mono hk) hmg hb (cL S G (a::es)) hg (bO hn) (aF hst'.1 _) (cA _ _ _ hst'.2)) fun δ h Q q=>?_;obtain ⟨ws,h1,e1,q⟩:=bD q;refine ⟨ws,h1,e1,?_⟩;obtain ⟨r,h',e,q⟩:=q;unfold xMk at e;obtain ⟨⟨w2,h2⟩,e2,e⟩:=bind_some e;dsimp only at e;split at e
     ·cases e;exact ⟨_,_,e2,rfl,q⟩
     ·cases e
   split
   ·rename_i m hm;split
    ·exact bW
    ·rename_i a es;refine zT ((a::es).all aK=true) (fun δ h r e=>?_) fun hst=>?_
     ·obtain ⟨p,e1,e⟩:=bind_some e;exact cS _ _ _ _ e1
     have hst':=hst;rw [List.all_cons,Bool.and_eq_true] at hst';refine bE (aV0 (G.fn y m hm) G.rm (cL S G (a::es)) hg (bO hn) (aF hst'.1 _) (cA _ _ _ hst'.2)) fun δ h Q q=>?_;obtain ⟨ws,h1,e1,q⟩:=bD q;refine ⟨ws,h1,e1,?_⟩;obtain ⟨r,h',e,q⟩:=q;obtain ⟨p,e2,e3⟩:=bind_some e;cases e3;exact ⟨p.1,p.2,e2,q⟩
   ·split
    ·rename_i hb;split
     ·rename_i g hg';split
      ·exact bW
      ·rename_i a es;refine zT ((a::es).all aK=true) (fun δ h r e=>?_) fun hst=>?_
       ·obtain ⟨p,e1,e⟩:=bind_some e;exact cS _ _ _ _ e1
       have hst':=hst;rw [List.all_cons,Bool.and_eq_true] at hst';rcases bfun_ok G hg' with ⟨id,hv,hcr⟩ | ⟨T,hv,hcr⟩
       ·refine bE (aE9 hcr (G.bl _ hb) (cL S G (a::es)) hv hg (jC hn) (bO hn) (aF hst'.1 _) (cA _ _ _ hst'.2)) fun δ h Q q=>?_;obtain ⟨ws,h1,e1,q⟩:=bD q;exact ⟨ws,h1,e1,q⟩
       ·refine bE (yI hcr (G.bl _ hb) (cL S G (a::es)) hv hg (jC hn) (bO hn) (aF hst'.1 _) (cA _ _ _ hst'.2)) fun δ h Q q=>?_;obtain ⟨ws,h1,e1,q⟩:=bD q;exact ⟨ws,h1,e1,q⟩
     ·split
      ·rename_i hx;subst hx;split
       ·rename_i e0 T pT;split
        ·rename_i hc;simp only [Bool.and_eq_true] at hc;obtain ⟨⟨⟨h1,h2⟩,h3⟩,h4⟩:=hc;obtain ⟨hnT,hgT⟩:=eQ G h2;split
         ·rename_i Ts hT;obtain ⟨hk,hv⟩:=bZ3 hT;refine bE (bS6 hk (G.bl _ hb) (G.bl _ h4) (S.E G e0) hv hg hgT (jC hnT) (bO hnT) (aF h1 _) (aF rfl _) (cA _ _ _ rfl)) fun δ h Q q=>?_;obtain ⟨w,h1,e1,q⟩:=bD q;refine ⟨w,h1,e1,?_⟩;obtain ⟨r,h',e,q⟩:=q;obtain ⟨z,e2,e3⟩:=bind_some e;rw [e2];cases e3;exact q
         ·exact bW
        ·exact bW
       ·exact bW
      ·exact wS (jD S G _)
    ·exact bW
  ·exact bW
 ·rename_i o m apos;split
  ·rename_i C g hm;split
   ·exact bW
   ·rename_i a es;split
    ·rename_i hc;simp only [Bool.and_eq_true,decide_eq_true_eq] at hc;obtain ⟨⟨⟨h1,h2⟩,h3⟩,h4⟩:=hc;exact dC8 S G hm h1 h2 h3 h4
    ·exact bW
  split
  ·rename_i hc;rw [Bool.and_eq_true] at hc;split
   ·exact bW
   ·rename_i a es;split
    ·rename_i hm;subst hm;split
     ·split
      ·rename_i hz;exact cN3 S G hc.1 hc.2 hz
      ·exact bW
     ·exact bW
    split
    ·rename_i hm;subst hm;split
     ·split
      ·rename_i hz;exact cN5 S G hc.1 hc.2 hz
      ·exact bW
     ·exact bW
    split
    ·rename_i hl;split
     ·rename_i g hg;exact aM4 S G hc.1 hc.2 (by simpa using hl) hg
     ·exact bW
    ·exact bW
  ·exact bW
 ·exact bW
theorem bB3 (h:bA3 e=false):hX e:=by
 intro o i;cases e<;>first | rfl | cases h
theorem qA (G:aT X st d) (h:okB st x=true):Gl X x/\X.mg x=none:=by
 unfold okB at h;simp only [Bool.and_eq_true] at h;exact ⟨(eQ G h.1.1.1).2,G.bl _ h.1.2⟩
theorem bZ4 (S:Snd v) (G:aT X st d) {f:Expr} {args:List Expr}:DE X (.Call f args [] pos) (Of (aJ9 v st f args pos)):=by
 unfold aJ9;split
 ·rename_i x p y p2 as pos2;split
  ·rename_i hxy;obtain ⟨rfl,rfl⟩:=hxy;split
   ·rename_i a;split
    ·rename_i hc;simp only [Bool.and_eq_true] at hc;obtain ⟨⟨h1,h2⟩,h3⟩:=hc;refine bE (bA2 G.calm (qA G h1).1 (qA G h1).2 (qA G h2).1 (qA G h2).2 (cL S G [a]) (aF h3 _)) fun δ h Q q=>?_;obtain ⟨ws,h1,e1,q⟩:=bD q;refine ⟨ws,h1,e1,?_⟩;obtain ⟨r,h',e,q⟩:=q;dsimp only at e;unfold xLS at e;split at e
     ·split at e
      ·rename_i en;split at e
       ·rename_i hl;cases e;exact ⟨_,_,rfl,en,hl,q⟩
       ·cases e
      ·cases e
     ·cases e
    ·exact bW
   ·exact bW
  ·exact aM5 S G
 ·exact aM5 S G
theorem bZ5 (S:Snd v) (G:aT X st d):∀ e,DE X e (Of (aK0 v st e)):=fun e=>by
 unfold aK0;split
 ·exact bY3 G
 ·exact bA4
 ·rename_i a op b p;split
  ·rename_i es p';exact wS (jD S G (.BinOp (.List es p') .Mult b p))
  ·refine bE (cI3 (bA8 op) (S.E G a) (S.E G b)) fun δ h Q q=>?_;obtain ⟨x,h1,e1,q⟩:=bD q;obtain ⟨y,h2,e2,q⟩:=bD q;exact ⟨x,h1,e1,y,h2,e2,q⟩
 ·exact zU S G
 ·exact aL8 S G _
 ·exact bJ2 S G _
 ·rename_i a p;refine bE (bQ4 (S.E G a)) fun δ h Q q=>?_;obtain ⟨w,h1,e1,q⟩:=bD q;refine ⟨w,h1,e1,?_⟩;dsimp only at q ⊢;split at q
  ·exact aS q
  ·exact (bK q).elim
 ·rename_i a p;refine bE (bU9 (S.E G a)) fun δ h Q q=>?_;obtain ⟨w,h1,e1,q⟩:=bD q;refine ⟨w,h1,e1,?_⟩;dsimp only at q ⊢;split at q
  ·exact aS q
  ·exact (bK q).elim
 ·rename_i c a b p;refine bE (aE6 (S.T G c) (S.E G a) (S.E G b)) fun δ h Q q=>?_;obtain ⟨t,h1,e1,q⟩:=bD q;refine ⟨t,h1,e1,?_⟩;dsimp only at q ⊢;split at q
  ·rename_i ht;rw [if_pos ht];exact q
  ·rename_i ht;rw [if_neg ht];exact q
 ·rename_i es k p;refine bE (bP5 (cL S G es)) fun δ h Q q=>?_;obtain ⟨xs,h1,e1,q⟩:=bD q;obtain ⟨⟨ws,h2⟩,e2,e3⟩:=bind_some e1;refine ⟨ws,h2,e2,?_⟩;dsimp only at e3 ⊢;split at e3
  ·rename_i ys ey;try rw [ey]
   split at e3
   ·rename_i hl;cases e3;exact ⟨hl,aS q⟩
   ·cases e3
  ·cases e3
 ·exact wS (jD S G _)
 ·exact wS (jD S G _)
 ·rename_i a s p;split
  ·rename_i lo hi p2;refine bE (aK8 (bR2 (S.E G a) (oF S G lo) (oF S G hi)) (aE2 (aE8 (S.E G a) (oF S G lo) (oF S G hi)))) fun δ h Q q=>?_;obtain ⟨x,h1,e1,q⟩:=bD q;obtain ⟨l,h2,e2,q⟩:=bD q;obtain ⟨u,h3,e3,q⟩:=bD q;obtain ⟨r,h',e,q⟩:=q;dsimp only at e;unfold xSl at e;split at e
   ·cases e;exact .inl ⟨_,h1,e1,l,h2,e2,u,_,e3,q⟩
   ·split at e
    ·rename_i xs ex;cases e;refine .inr ⟨x,h1,e1,l,h2,e2,u,_,e3,?_⟩;dsimp only;rw [ex];exact q
    ·cases e
  ·split
   ·exact bW
   ·rename_i hsl;have hs:hX s:=bB3 (by simpa using hsl);split
    ·rename_i f hf;obtain ⟨y,p,pp,rfl,h1,h2,h3,h4⟩:=uU G hf;refine bE (bV0 h4 h3 (S.E G s) h2 (bO h1) hs) fun δ h Q q=>?_;obtain ⟨w,h1,e1,q⟩:=bD q;refine ⟨w,h1,e1,?_⟩;dsimp only at q ⊢;split at q
     ·split at q
      ·rename_i ei;try dsimp only
       try rw [ei]
       exact aS q
      ·exact (bK q).elim
     ·exact (bK q).elim
    ·refine bE (aK8 (bW7 (S.E G a) (S.E G s) hs) (aH (aD6 (cN0 G.rm) (S.E G a) (S.E G s) hs) fun _ _ _ q=>rN q)) fun δ h Q q=>?_;obtain ⟨x,h1,e1,q⟩:=bD q;obtain ⟨y,h2,e2,q⟩:=bD q;obtain ⟨r,h',e,q⟩:=q;dsimp only at e;unfold xIx at e;split at e
     ·rename_i xs i ex;obtain ⟨z,e3,e4⟩:=map_some e;cases e4;refine .inl ⟨x,h1,e1,_,h2,e2,.inl ?_⟩;show dIx x _ h2 Q;unfold dIx;rw [ex];dsimp only;rw [e3];exact q
     ·rename_i xs i ex;obtain ⟨z,e3,e4⟩:=map_some e;cases e4;refine .inl ⟨x,h1,e1,_,h2,e2,.inl ?_⟩;show dIx x _ h2 Q;unfold dIx;rw [ex];dsimp only;rw [e3];exact q
     ·rename_i kvs z ex;split at e
      ·rename_i k ek;obtain ⟨p,e3,e4⟩:=map_some e;cases e4;refine .inr ⟨x,h1,e1,_,h2,e2,?_⟩;show bB0 x _ h2 Q;unfold bB0;rw [ex];dsimp only;rw [ek];dsimp only;rw [e3];exact q
      ·cases e
     ·rename_i k ex;unfold xIr at e;split at e
      ·rename_i j;split at e
       ·rename_i is ej;obtain ⟨m,e3,e4⟩:=map_some e;cases e4;refine .inl ⟨_,h1,e1,_,h2,e2,.inr ?_⟩;show bA0 _ _ h2 Q;unfold bA0;dsimp only;rw [ej];dsimp only;rw [e3];exact q
       ·cases e
      ·cases e
     ·cases e
 ·exact bZ4 S G
 ·split
  ·rename_i hz;exact cN4 S G hz
  ·exact bW
 ·exact bE aG9 fun δ h Q q=>aS q
 ·exact bW
theorem bZ6 (S:Snd v) (G:aT X st d):∀ e,DT X e (Of (aK1 v st e)):=fun e=>by
 have val:∀ {e:Expr},(∀ whole,isTrue e X.env whole=(do let v <- whole;standAt e.pos;holding [v] (truthy v)))->DT X e (Of (xb (v.E st e) fun w=>(match w with
  | .d (.bool b)=>aC b
  | _=>xno))):=fun {e} he=>aK7 (bP8 (S.E G e) he) fun δ h Q q=>by
   obtain ⟨w,h1,e1,q⟩:=bD q;refine ⟨w,h1,e1,?_⟩;dsimp only at q ⊢;split at q
   ·exact aS q
   ·exact (bK q).elim
 unfold aK1;split
 ·rename_i a p;refine aK7 (bQ0 (S.T G a)) fun δ h Q q=>?_;obtain ⟨w,h1,e1,q⟩:=bD q;exact ⟨w,h1,e1,aS q⟩
 ·exact (aL9 S G _).dt
 ·exact (bJ3 S G _).dt
 ·exact zV S G
 ·exact kB
 ·rename_i h1 h2 h3 h4 h5;refine val ?_;cases e with
  | UnaryOp op a p =>
   cases op with
   | Not=>exact absurd rfl (h1 _ _)
   | _=>intro _;rfl
  | BoolOp op vs p =>
   cases op with
   | And=>exact absurd rfl (h2 _ _)
   | Or=>exact absurd rfl (h3 _ _)
  | Compare a ops cs p=>exact absurd rfl (h4 _ _ _ _)
  | IfExp a b c p=>exact absurd rfl (h5 _ _ _ _)
  | _=>intro _;rfl
end
section
variable {X:Cx} {st:Sta} {d:Nat} {x:Str} {v:Evs} {a b c e:Expr} {es:List Expr} {pos:Pos}
theorem sN (h:aK e=true) (env:Env):(assignEach (e::es) env).map (·.2)=assign e env::(assignEach es env).map (·.2):=by
 cases e<;>first | rfl | cases h
theorem lR:∀ (es:List Expr) (env:Env),(assignEach es env).length=es.length
 | [],_=>rfl
 | e::es,env=>by
  cases e<;>(show (assignEach es env).length+1=es.length+1;rw [lR es env])
theorem jW:∀ (es:List Expr) (env:Env),es.all aK=true->(assignEach es env).findIdx? (·.1)=none
 | [],_,_=>rfl
 | e::es,env,h=>by
  rw [List.all_cons,Bool.and_eq_true] at h;have ih:=jW es env h.2;rw [List.findIdx?_eq_none_iff] at ih ⊢;intro p hp;have:assignEach (e::es) env=(false,assign e env)::assignEach es env:=by cases e<;>first | rfl | cases h.1
  rw [this] at hp;rcases List.mem_cons.mp hp with z | z
  ·rw [z]
  ·exact ih p z
theorem bJ4:∀ (es:List Expr) (xs:List PyData) (δ:DSt) (h:aA) (p:DSt×aA),cM2 v st es xs δ h=some p->xs.length=es.length
 | [],[],_,_,_,_=>rfl
 | [],_::_,_,_,_,e=>by cases e
 | _::_,[],_,_,_,e=>by cases e
 | e::es,x::xs,δ,h,p,q=>by
  obtain ⟨⟨δ2,h2⟩,_,q⟩:=bind_some (show (v.G st e (.d x) δ h).bind _=some p from q);rw [List.length_cons,List.length_cons,bJ4 es xs _ _ p q]
theorem bJ5 (S:Snd v) (G:aT X st d):∀ es,es.all aK=true->DGs X es (fun xs δ h Q=>∃ δ' h',cM2 v st es xs δ h=some (δ',h')/\Q δ' h')
 | [],_=>iC aV5 fun vs σ H Q ⟨xs,δ,h,A,μ,k,R,r,⟨δ',h',e,q⟩,c⟩=>by
  refine ⟨xs,δ,h,A,μ,k,R,r,?_,c⟩;cases xs with
  | nil=>cases e;exact ⟨rfl,q⟩
  | cons y ys=>cases e
 | e::es,hs=>by
  rw [List.all_cons,Bool.and_eq_true] at hs;refine iC (aF2 (S.G G e) (bJ5 S G es hs.2) (sN hs.1 _)) fun vs σ H Q ⟨xs,δ,h,A,μ,k,R,r,⟨δ',h',e,q⟩,c⟩=>?_;refine ⟨xs,δ,h,A,μ,k,R,r,?_,c⟩;cases xs with
  | nil=>cases e
  | cons y ys =>
   obtain ⟨⟨δ2,h2⟩,e1,e⟩:=bind_some e;exact ⟨δ2,h2,e1,δ',h',e,q⟩
theorem uY {o i:Expr} (h:bA3 i=false) (env:Env) (v:Value):assign (.Subscript o i pos) env v=(do
   let ov <- holding [v] (eval o env)
   let iv <- holding [v,ov] (eval i env)
   standAt pos
   holding [v,ov,iv] (setItem ov iv v)
   release [v,ov,iv] []):=by
 cases i<;>first | rfl | cases h
theorem bZ7 (S:Snd v) (G:aT X st d):∀ e,DG X e (OfG (aK3 v st e)):=fun e=>by
 unfold aK3;split
 ·split
  ·rename_i i hi;split
   ·rename_i hc;rw [Bool.and_eq_true] at hc;refine bY0 (aV4 (i:=i) (by rw [G.N];exact G.nd) (fH G hi) (lO G hc.1) (aL0 G hc.2)) fun w δ h Q q=>?_;obtain ⟨δ',h',e,q⟩:=q;cases e;exact q
   ·exact zO fun _ _ _=>rfl
  ·exact zO fun _ _ _=>rfl
 ·rename_i es k p
  by_cases hs:es.all aK=true
  ·rw [if_pos hs];refine bY0 (bR7 (n:=es.length) G.calm (bJ5 S G es hs) (lR _ _) (jW _ _ hs)) fun w δ h Q q=>?_;obtain ⟨δ',h',e,q⟩:=q;unfold eX at e;unfold aF0;split at e
   ·rename_i xs;exact ⟨bJ4 es xs δ h _ e,δ',h',e,q⟩
   ·cases e
  ·rw [if_neg hs];exact zO fun w δ h=>rfl
 ·rename_i o i p;split
  ·exact zO fun _ _ _=>rfl
  ·rename_i hsl;refine bY0 (aZ4 (S.E G o) (S.E G i) (uY (by simpa using hsl) _)) fun w δ h Q q=>?_;obtain ⟨δ',h',e,q⟩:=q;dsimp only at e;obtain ⟨⟨u,h1⟩,e1,e⟩:=bind_some e;obtain ⟨⟨z,h2⟩,e2,e⟩:=bind_some e;refine ⟨u,h1,e1,z,h2,e2,?_⟩;dsimp only at e ⊢;split at e
   ·split at e
    ·rename_i xs ex;obtain ⟨n,e3,e4⟩:=map_some e;cases e4;try dsimp only
     try rw [ex]
     try dsimp only
     try rw [e3]
     exact q
    ·rename_i kvs ex;split at e
     ·rename_i hk;cases e;try dsimp only
      try rw [ex]
      try dsimp only
      exact ⟨hk.1,hk.2,q⟩
     ·cases e
    ·cases e
   ·cases e
 ·exact zO fun _ _ _=>rfl
theorem oG (S:Snd v) (G:aT X st d):∀ ss,DSs X ss (OfS (xSs v st ss))
 | []=>bI9 aV1 fun E δ h q=>by
  obtain ⟨fl,h',e,q⟩:=q;cases e;exact q
 | s::r=>bI9 (aF1 (S.S G s) (oG S G r)) fun E δ h q=>by
  obtain ⟨fl,h',e,q⟩:=q;obtain ⟨⟨f1,h1⟩,e1,e⟩:=bind_some e;refine ⟨f1,h1,e1,?_⟩;dsimp only at e;cases f1 with
  | nx δ'=>exact ⟨fl,h',e,q⟩
  | rt w=>cases e;exact q
  | bk δ'=>cases e;exact q
  | ct δ'=>cases e;exact q
theorem qB {g:XG} {tb:XS} {c:Option Nat} {all:List PyData} {E:DEnds}:∀ (rest:List PyData) (δ:DSt) (h:aA) (fl:Fl) (h':aA),cI g tb c all rest δ h=some (fl,h')->bI8 E h' fl->yN (OfG g) (OfS tb) c all rest E δ h
 | [],δ,h,fl,h',e,q=>by
  unfold cI at e;split at e
  ·rename_i hc;cases e;exact ⟨gK hc,q⟩
  ·cases e
 | x::rest,δ,h,fl,h',e,q=>by
  unfold cI at e;split at e
  ·rename_i hc;obtain ⟨⟨δ2,h2⟩,e1,e⟩:=bind_some e;obtain ⟨⟨f2,h3⟩,e2,e⟩:=bind_some e;refine ⟨gK hc,δ2,h2,e1,f2,h3,e2,?_⟩;dsimp only at e;cases f2 with
   | nx δ'=>exact qB rest δ' h3 fl h' e q
   | ct δ'=>exact qB rest δ' h3 fl h' e q
   | bk δ'=>cases e;exact q
   | rt w=>cases e;exact q
  ·cases e
theorem aM6:DS X (.Break pos) (OfS fun δ h=>some (.bk δ,h)):=bN aC3 fun D σ H q=>by
 obtain ⟨δ,h,A,μ,E,R,⟨fl,h',e,q⟩,L⟩:=q;cases e;exact L.bk δ _ σ H A μ q .refl R
theorem sO:DS X (.Continue pos) (OfS fun δ h=>some (.ct δ,h)):=bN qZ fun D σ H q=>by
 obtain ⟨δ,h,A,μ,E,R,⟨fl,h',e,q⟩,L⟩:=q;cases e;exact L.ct δ _ σ H A μ q .refl R
theorem lS (h:lN e=false) (t:Option Expr) (l:Nat) (env:Env):swapsWith e t l env=pure false:=by
 cases e<;>first | rfl | cases h
theorem aM7 (G:aT X st d):X.env.blockKind=.function:=by
 unfold Env.blockKind;rw [G.S,G.kind];rfl
theorem sP (G:aT X st d) {elt:Expr} {gs:List Comprehension} {sc:Scope} {p px:Pos} {l:Nat} :
  swapsWith (.ListComp elt gs sc p) (some (.Name x px)) l X.env=pure (swB st (.ListComp elt gs sc p) x px):=by
 show (pure (X.env.blockKind==.function&&X.env.kindOf x==some .local&&px.line==p.line&&!(sc.names.any fun (n,k)=>n==x&&(k==.local||k==.cell))):Sem Bool)=_;unfold swB;dsimp only;have e1:(X.env.blockKind==.function)=true:=by rw [aM7 G];rfl
 have e2:(X.env.kindOf x==some .local)=dX st.S x:=by
  unfold Env.kindOf dX;rw [G.S];cases q:st.S.names.lookup x with
  | none=>rfl
  | some k=>cases k<;>rfl
 rw [e1,e2,Bool.true_and]
theorem sQ {i:Nat} {px:Pos} {y:XR W} {te:DTE} (hd:DS X (.Assign [.Name x px] e pos) (yK te (nL i))) (m:∀ δ h Q,Of y δ h Q->te δ h Q):DS X (.Assign [.Name x px] e pos) (OfS (aZ i y)):=pV hd fun E δ h q=>by
 obtain ⟨fl,h',e,q⟩:=q;obtain ⟨⟨w,h1⟩,e1,e⟩:=bind_some e;cases e;exact m δ h _ ⟨w,h1,e1,q⟩
theorem qC {y:XR (List PyData)} (δ:DSt) (h:aA) (Q:DK) (q:Of (bR y) δ h Q):bP4 (Of y) δ h Q:=by
 obtain ⟨w,h',e,q⟩:=q;obtain ⟨p,e1,e2⟩:=bind_some e;cases e2;exact ⟨p.1,p.2,e1,q⟩
theorem bZ8 {y:XR (List PyData)} (δ:DSt) (h:aA) (Q:DK) (q:Of (aQ y) δ h Q):bP3 (Of y) δ h Q:=by
 obtain ⟨w,h',e,q⟩:=q;obtain ⟨p,e1,e2⟩:=bind_some e;cases e2;exact ⟨p.1,p.2,e1,q⟩
theorem bB4 (S:Snd v) (G:aT X st d) {i:Nat} {px:Pos} (hi:slot st x=some i) (hl:uP st.S x=true) (hf:(st.top||dX st.S x)=true) (hc:lN e=true) (hs:(swB st e x px||!(dX st.S x))=true) :
  DFS X i (.Assign [.Name x px] e pos) (Of (eY v st e)):=by
 have no:∀ {e:Expr},(∀ δ h,eY v st e δ h=none)->DFS X i (.Assign [.Name x px] e pos) (Of (eY v st e)):=fun {e} n pins s σ H D I q=>by
  obtain ⟨δ,h,A,μ,k,R,⟨r,h',e,_⟩,c⟩:=q;rw [n] at e;cases e
 cases e with
 | ListComp elt gs sc p =>
  by_cases hw:swB st (.ListComp elt gs sc p) x px=true
  ·match gs with
   | [⟨tg,iter,ifs,a⟩] =>
    by_cases ha:a=0
    ·subst ha;have e0:eY v st (.ListComp elt [⟨tg,iter,ifs,0⟩] sc p)=oE v st elt tg iter ifs sc:=rfl;rw [e0];unfold oE;split
     ·rename_i hc;rw [Bool.and_eq_true] at hc;have hset:jT iter=false:=by simpa using hc.2
      have hloc:st.S.names.lookup x=some .local:=by
       unfold swB at hw;simp only [Bool.and_eq_true] at hw;exact sJ hw.1.1
      refine bN (aF7 (by rw [G.N];exact G.nd) G.xe G.calm G.S G.N (kL hc.1) (pW S G iter) (fun cl C s H fp=>S.G (cM G hc.1 cl C s H fp) tg) (fun cl C s H fp=>uX S (cM G hc.1 cl C s H fp) ifs)
       (fun cl C s H fp=>S.E (cM G hc.1 cl C s H fp) elt) (fH G hi) (by rw [G.S];exact hloc) (by rw [sP G,hw]) (pX hset _)) fun D σ H q=>?_
      obtain ⟨δ,h,A,μ,k,R,⟨r,h',e,q⟩,c⟩:=q;refine ⟨δ,h,A,μ,k,R,?_,c⟩;obtain ⟨⟨⟨xs,c⟩,h1⟩,e1,e⟩:=bind_some e;exact ⟨xs,c,h1,e1,iK _ _ _ _ _ _ e q⟩
     ·exact fun pins s σ H D I q=>by
       obtain ⟨δ,h,A,μ,k,R,q,c⟩:=q;exact (bK q).elim
    ·exact no fun δ h=>by
      show (if a=0 then oE v st elt tg iter ifs sc else xno) δ h=none;rw [if_neg ha];rfl
   | []=>exact no fun _ _=>rfl
   | ⟨_,_,_,_⟩::_::_=>exact no fun _ _=>rfl
  ·have hw':swB st (.ListComp elt gs sc p) x px=false:=by simpa using hw
   exact aF3 (by rw [G.N];exact G.nd) (jD S G _) (fH G hi) (lO G hl) (by rw [sP G,hw']) (aL0 G hf)
 | SetComp elt gs sc p=>exact no fun _ _=>rfl
 | DictComp k w gs sc p=>exact no fun _ _=>rfl
 | _=>cases hc
theorem uZ {tg:Expr} (h:cM3 e tg=false) (env:Env):swappedStores [tg] e env=pure none:=by
 cases tg<;>first | rfl | (cases e<;>first | rfl | cases h)
theorem bB5 (h:∀ t p,e≠.Starred t p) (env:Env):(assignEach [e] env).map (·.2)=[assign e env]:=by
 cases e<;>first | rfl | exact absurd rfl (h _ _)
theorem jE {g:XG} {tt:XR Bool} {te:XR W} {c:Option Nat} {all:List PyData} {Q:List Nat->aA->Prop}:∀ (rest:List PyData) (δ:DSt) (h:aA) (ac r:List Nat) (h':aA),dF g tt te c all rest δ h ac=some (r,h')->Q r h'->sB (OfG g) (Of tt) (Of te) c all rest δ h ac Q
 | [],δ,h,ac,r,h',e,q=>by
  unfold dF at e;split at e
  ·rename_i hc;cases e;exact ⟨gK hc,q⟩
  ·cases e
 | x::rest,δ,h,ac,r,h',e,q=>by
  unfold dF at e;split at e
  ·rename_i hc;obtain ⟨⟨δ2,h2⟩,e1,e⟩:=bind_some e;obtain ⟨⟨b,h3⟩,e2,e⟩:=bind_some e;dsimp only at e;refine ⟨gK hc,δ2,h2,e1,b,h3,e2,?_⟩;split at e
   ·rename_i hb;rw [if_pos hb];obtain ⟨⟨w,h4⟩,e3,e⟩:=bind_some e;dsimp only at e;refine ⟨w,h4,e3,?_⟩;split at e
    ·exact jE rest δ2 h4 _ r h' e q
    ·cases e
   ·rename_i hb;rw [if_neg hb];exact jE rest δ2 h3 _ r h' e q
  ·cases e
theorem cN6 (S:Snd v) (G:aT X st d):DE X e (Of (bX9 v st e)):=by
 unfold bX9;split
 ·rename_i lp tg iter ifs a sc p;split
  ·rename_i ha;subst ha;unfold aK4;split
   ·rename_i hc;rw [Bool.and_eq_true] at hc;have hset:jT iter=false:=by simpa using hc.2
    refine bE (aJ0 G.xe G.calm G.S G.N (kL hc.1) (pW S G iter) (fun cl C s H fp=>S.G (cM G hc.1 cl C s H fp) tg) (fun cl C s H fp=>uX S (cM G hc.1 cl C s H fp) ifs) (fun cl C s H fp=>bE (aE3 (bZ1 S (cM G hc.1 cl C s H fp) (es:=[]))) fun δ h Q q=>qC δ h Q q) (pX hset _)) fun δ h Q q=>?_;obtain ⟨r,h',e,q⟩:=q;obtain ⟨⟨⟨xs,c⟩,h1⟩,e1,e⟩:=bind_some e;obtain ⟨⟨is,h2⟩,e2,e3⟩:=bind_some e;cases e3;exact ⟨xs,c,h1,e1,jE _ _ _ _ _ _ e2 q⟩
   ·exact bW
  ·exact bW
 ·exact S.E G _
theorem bZ9 (S:Snd v) (G:aT X st d) {o:Expr} {f:Str} {pa pos:Pos}:DS X (.Assign [.Attribute o f pa] e pos) (OfS (bI7 v st o f e)):=by
 refine pV (bW6 (S.E G o) (cN6 S G) (by cases e<;>rfl)) fun E δ h q=>?_;obtain ⟨fl,h',e',q⟩:=q;obtain ⟨⟨w,h1⟩,e1,e'⟩:=bind_some e';obtain ⟨⟨u,h2⟩,e2,e'⟩:=bind_some e';refine ⟨w,h1,e1,u,h2,e2,?_⟩;dsimp only at e' ⊢;split at e'
 ·rename_i j;split at e'
  ·rename_i C fs ej;split at e'
   ·rename_i hz;cases e';obtain ⟨h5,h6⟩:=G.fo C f hz.1;try dsimp only
    try rw [ej]
    exact ⟨h5,h6,hz.2,q⟩
   ·cases e'
  ·cases e'
 ·cases e'
theorem cA0 (S:Snd v) (G:aT X st d):∀ s,DS X s (OfS (aK6 v st s)):=fun s=>by
 unfold aK6;split
 ·rename_i e p;refine pV (bR6 (S.E G e)) fun E δ h q=>?_;obtain ⟨fl,h',e,q⟩:=q;obtain ⟨⟨w,h1⟩,e1,e⟩:=bind_some e;cases e;exact ⟨w,_,e1,q⟩
 ·rename_i c a b p;refine pV (cJ7 (S.T G c) (oG S G a) (oG S G b)) fun E δ h q=>?_;obtain ⟨fl,h',e,q⟩:=q;obtain ⟨⟨t,h1⟩,e1,e⟩:=bind_some e;refine ⟨t,h1,e1,?_⟩;dsimp only at e ⊢;split at e
  ·rename_i ht;rw [if_pos ht];exact ⟨fl,h',e,q⟩
  ·rename_i ht;rw [if_neg ht];exact ⟨fl,h',e,q⟩
 ·rename_i e p;split
  ·exact sH fun _ _=>rfl
  ·rename_i hc;refine pV (aV3 (S.E G e) (lS (by simpa using hc) _ _ _)) fun E δ h q=>?_;obtain ⟨fl,h',e,q⟩:=q;obtain ⟨⟨w,h1⟩,e1,e⟩:=bind_some e;cases e;exact ⟨w,_,e1,q⟩
 ·refine pV aV2 fun E δ h q=>?_;obtain ⟨fl,h',e,q⟩:=q;cases e;exact q
 ·exact aM6
 ·exact sO
 ·rename_i tg iter body p;split
  ·exact sH fun _ _=>rfl
  ·rename_i hs;refine pV (bS3 G.xe G.calm (pW S G iter) (S.G G tg) (oG S G body) (pX (by simpa using hs) _)) fun E δ h q=>?_;obtain ⟨fl,h',e,q⟩:=q;obtain ⟨⟨⟨xs,c⟩,h1⟩,e1,e⟩:=bind_some e;exact ⟨xs,c,h1,e1,qB _ _ _ _ _ e q⟩
 ·rename_i y px e p;split
  ·rename_i i hi;split
   ·rename_i hc;rw [Bool.and_eq_true] at hc;split
    ·rename_i hcm;split
     ·rename_i hw;have hfs:=bB4 S G hi hc.1 hc.2 hcm hw (pos:=p);split
      ·exact sQ (aF4 hfs) qC
      ·exact sQ (bS0 hfs) bZ8
     ·exact sH fun _ _=>rfl
    ·rename_i hcm;have hsw:∀ t l,swapsWith e t l X.env=pure false:=fun t l=>lS (by simpa using hcm) _ _ _;split
     ·rename_i hz;rw [Bool.and_eq_true] at hz;have hd:∃ pp,e=.Dict [] [] pp:=by
       unfold cM4 at hz;have:=hz.2;split at this
       ·exact ⟨_,rfl⟩
       ·cases this
      obtain ⟨pp,rfl⟩:=hd;refine sQ (aZ5 (by rw [G.N];exact G.nd) (fH G hi) (lO G hc.1) (hsw _ _) (aL0 G hc.2)) fun δ h Q q=>?_;obtain ⟨w,h',e,q⟩:=q;cases e;exact q
     split
     ·exact sQ (aF4 (aF3 (by rw [G.N];exact G.nd) (S.F G e) (fH G hi) (lO G hc.1) (hsw _ _) (aL0 G hc.2))) qC
     ·exact sQ (bR9 (by rw [G.N];exact G.nd) (S.E G e) (fH G hi) (lO G hc.1) (hsw _ _) (aL0 G hc.2)) fun _ _ _ q=>q
   ·exact sH fun _ _=>rfl
  ·exact sH fun _ _=>rfl
 ·exact bZ9 S G
 ·rename_i tg e p hne hne2;split
  ·exact sH fun _ _=>rfl
  ·rename_i hc;simp only [Bool.or_eq_true,not_or,Bool.not_eq_true,Bool.not_eq_true',Bool.not_eq_false] at hc;have hst:aK tg=true:=by simpa using hc.2
   refine pV (bR8 (S.E G e) (S.G G tg) (lS hc.1.1 _ _ _) (uZ hc.1.2 _) (bB5 (fun t p z=>by rw [z] at hst;cases hst) _)) fun E δ h q=>?_;obtain ⟨fl,h',e,q⟩:=q;obtain ⟨⟨w,h1⟩,e1,e⟩:=bind_some e;obtain ⟨⟨δ2,h2⟩,e2,e⟩:=bind_some e;cases e;exact ⟨w,h1,e1,δ2,_,e2,q⟩
 ·exact sH fun _ _=>rfl
end
theorem aM8 {v:Evs} (S:Snd v):Snd (step v):=⟨fun G=>bZ5 S G,fun G=>bZ6 S G,fun G=>jD S G,fun G=>bZ7 S G,fun G=>cA0 S G⟩
theorem cA1:Snd Evs.no:=⟨fun _ _=>bW,fun _ _=>kB,fun _ _=>uR,fun _ _=>zO fun _ _ _=>rfl,fun _ _=>sH fun _ _=>rfl⟩
theorem qD:∀ n,Snd (evs n)
 | 0=>cA1
 | n+1=>aM8 (qD n)
theorem iL {s:Stmt} (h:fnB s=true):FnScope (hG s) (aP s) (aE s):=by
 unfold fnB at h;simp only [Bool.and_eq_true,decide_eq_true_eq,List.all_eq_true,Bool.not_eq_true'] at h;obtain ⟨h1,h2,h3,h4,h5,h6⟩:=h;refine ⟨h1,h2,h3,h4,?_,fun x hx=>?_,fun y hy e=>?_⟩
 ·unfold hG;rw [List.take_left'];rfl
 ·have:=h5 x hx;unfold uP at this;split at this
  ·rename_i q;exact .inl q
  ·rename_i q;exact .inr q
  ·cases this
 ·have:=h6 y hy;rw [e] at this;cases this
section
variable {P:Program} {w:World} {K:Frag} {mg:Str->Option Value} {base:Heap}
structure TopOk (t:Top) (P:Program) (w:World) (K:Frag) (mg:Str->Option Value) (base:Heap):Prop where
 bl:∀ x,t.bl.contains x=true->mg x=none
 gc:∀ x z,t.gc x=some z->∃ v u,mg x=some u/\RelV v u/\∀ A H,Rep K A H z v
 tk:∀ x f,t.tk x=some f->∃ p,mg x=some (.ref p)/\TabK w K p f
 defs:∀ x s,t.defs x=some s->∃ f fd,Fun K x x s f fd/\mg x=some (.ref f)/\Binds K fd (aP s) []
 ini:∀ x C s,t.ini x=some (C,s)->∃ n q f fd,Fun K n q s f fd/\Mk K C f/\mg x=some (.ref C)/\Binds K fd (aP s) []
 mt:∀ x C s,t.mt x=some (C,s)->Cls K C/\∃ n q f fd,Fun K n q s f fd/\Meth K C x f/\Binds K fd (aP s) []
 fo:∀ C f,t.fo C f=true->Cls K C/\NoAttr K C f
structure TabOk (P:Program) (w:World) (K:Frag) (mg:Str->Option Value) (base:Heap) (d:Nat) (fn:Str->Option XF) (ob:ObS):Prop where
 fn:∀ x m,fn x=some m->DFn P w K mg base d x (mP m)
 fnW:∀ x m,ob.fnW x=some m->DFnW P w K mg base d x (fO m)
 cls:∀ x C m,ob.cls x=some (C,m)->(∀ ws h,m ws h=none)\/∃ k f fd ps,k+1<=d/\Mk K C f/\FnOk P w K mg base CX0 k f fd ps (cZ K (fO m))/\mg x=some (.ref C)/\Binds K fd ps []
 om:∀ x C m,ob.om x=some (C,m)->Cls K C/\∃ f fd ps,Meth K C x f/\FnOk P w K mg base CX0 d f fd ps (cZ K (fO m))/\Binds K fd ps []
 fo:∀ C f,ob.fo C f=true->Cls K C/\NoAttr K C f
theorem wU {t:Top} {fn:Str->Option XF} {ob:ObS} {x q:Str} {s:Stmt} {f:Addr} {k:Nat} {cdv:Value} {A:Around} {outer:List Env} {s':Shared} {H:Hp} {E:XK} (T:TopOk t P w K mg base) (B:TabOk P w K mg base k fn ob) (hb:fnB s=true) (hr:Room k (A.deeper (envOfC q (aE s) s'.heap.objs.size f cdv))) :
  aT ((mL CX0 P w K mg base (hG s) q (aE s) f cdv A outer s' H E).nox) (t.sta fn ob x s) k :=
 ⟨T.bl,T.gc,T.tk,B.fn,rfl,rfl,(iL hb).nd,rfl,rfl,hr,fun _ _=>rfl,(iL hb).kind,B.fnW,B.cls,B.om,B.fo⟩
theorem bJ6 {t:Top} {fn:Str->Option XF} {ob:ObS} {x n q:Str} {s:Stmt} {f:Addr} {fd:FuncData} {k:Nat} (T:TopOk t P w K mg base) (F:Fun K n q s f fd) (B:TabOk P w K mg base k fn ob) :
  FnOk P w K mg base CX0 (k+1) f fd (aP s) (lB K (mP (jV t fn ob x s))):=by
 by_cases hb:fnB s=true
 ·refine dfn F (iL hb) (fun ws h kk ⟨z,h',e,_⟩=>?_) fun cdv A outer s' H E hcd hr=>?_
  ·unfold jV at e;split at e
   ·rename_i hc;exact hc.2
   ·cases e
  ·refine ⟨_,oG (qD t.deep) (wU (x:=x) T B hb hr) _,fun ws h kk ⟨z,h',e,q⟩=>?_⟩;unfold jV at e;split at e
   ·obtain ⟨⟨fl,h1⟩,e1,e2⟩:=bind_some e;refine ⟨fl,h1,e1,?_⟩;unfold ends at e2;dsimp only at e2;split at e2
    ·rename_i ok;cases fl with
     | nx δ=>cases e2;exact ⟨ok,q⟩
     | bk δ=>cases e2
     | ct δ=>cases e2
     | rt w =>
      refine ⟨ok,?_⟩;cases w with
      | d z=>cases e2;exact q
      | v u=>cases e2
      | c i =>
       show (match h1[i]? with
        | some (.l xs)=>h.length<=i/\kk (.list xs) (h1.take h.length)
        | some (.k kvs)=>h.length<=i/\kk (.dict kvs) (h1.take h.length)
        | _=>False)
       dsimp only at e2;split at e2
       ·rename_i xs ex;try rw [ex]
        split at e2
        ·rename_i hi;cases e2;exact ⟨hi,q⟩
        ·cases e2
       ·rename_i xs ex;try rw [ex]
        split at e2
        ·rename_i hi;cases e2;exact ⟨hi,q⟩
        ·cases e2
       ·cases e2
    ·cases e2
   ·cases e
 ·have no:∀ ws h kk,¬ mP (jV t fn ob x s) ws h kk:=fun ws h kk ⟨z,h',e,_⟩=>by
   unfold jV at e;rw [if_neg fun z=>hb z.1] at e;cases e
  exact ⟨fun vs H Q E ⟨_,_,_,_,_,_,_,q,_⟩=>(no _ _ _ q).elim,fun A outer s H args us vs Q E _ _ _ _ ⟨_,_,_,_,_,_,_,q,_⟩=>(no _ _ _ q).elim⟩
theorem aM9 {t:Top} {fn:Str->Option XF} {ob:ObS} {x n q:Str} {s:Stmt} {f:Addr} {fd:FuncData} {k:Nat} (T:TopOk t P w K mg base) (F:Fun K n q s f fd) (B:TabOk P w K mg base k fn ob) :
  FnOk P w K mg base CX0 (k+1) f fd (aP s) (cZ K (fO (gB t fn ob x s))):=by
 by_cases hb:fnB s=true
 ·refine dC2 F (iL hb) (fun ws h kk ⟨z,h',e,_⟩=>?_) fun cdv A outer s' H E hcd hr=>?_
  ·unfold gB at e;split at e
   ·rename_i hc;exact hc.2
   ·cases e
  ·refine ⟨_,oG (qD t.deep) (wU (x:=x) T B hb hr) _,fun ws h kk ⟨z,h',e,q⟩=>?_⟩;unfold gB at e;split at e
   ·obtain ⟨⟨fl,h1⟩,e1,e2⟩:=bind_some e;refine ⟨fl,h1,e1,?_⟩;unfold jU at e2;dsimp only at e2;cases fl with
    | nx δ=>cases e2;exact q
    | bk δ=>cases e2
    | ct δ=>cases e2
    | rt w=>cases e2;exact q
   ·cases e
 ·have no:∀ ws h kk,¬ fO (gB t fn ob x s) ws h kk:=fun ws h kk ⟨z,h',e,_⟩=>by
   unfold gB at e;rw [if_neg fun z=>hb z.1] at e;cases e
  exact ⟨fun vs H Q E ⟨_,_,_,_,_,_,_,q,_⟩=>(no _ _ _ q).elim,fun A outer s H args us vs Q E _ _ _ _ ⟨_,_,_,_,_,_,_,q,_⟩=>(no _ _ _ q).elim⟩
theorem bJ7 {m:XFW} (hm:∀ ws h,m ws h=none) {f:Addr} {fd:FuncData} {ps:List Str} {d:Nat}:FnOk P w K mg base CX0 d f fd ps (cZ K (fO m)):=by
 have no:∀ ws h kk,¬ fO m ws h kk:=fun ws h kk ⟨z,h',e,_⟩=>by rw [hm] at e;cases e
 exact ⟨fun vs H Q E ⟨_,_,_,_,_,_,_,q,_⟩=>(no _ _ _ q).elim,fun A outer s H args us vs Q E _ _ _ _ ⟨_,_,_,_,_,_,_,q,_⟩=>(no _ _ _ q).elim⟩
abbrev wV (t:Top) (P:Program) (w:World) (K:Frag) (mg:Str->Option Value) (base:Heap) (d:Nat):Prop:=TabOk P w K mg base d (fnT t fun y=>aD t d y) (obT t (fun y=>callW t d y) (fun y=>callI t d y) fun y=>callM t d y)
theorem sR {t:Top} (T:TopOk t P w K mg base):wV t P w K mg base 0:=by
 refine ⟨fun x m e=>?_,fun x m e=>?_,fun x C m e=>?_,fun x C m e=>?_,T.fo⟩
 ·obtain ⟨s,hs,rfl⟩:=map_some e;obtain ⟨f,fd,F,hm,hb⟩:=T.defs x s hs;have no:∀ ws h kk,¬ mP (aD t 0 x) ws h kk:=fun ws h kk ⟨z,h',e,_⟩=>nomatch e
  exact ⟨f,fd,aP s,⟨fun vs H Q E ⟨_,_,_,_,_,_,_,q,_⟩=>(no _ _ _ q).elim,fun A outer s H args us vs Q E _ _ _ _ ⟨_,_,_,_,_,_,_,q,_⟩=>(no _ _ _ q).elim⟩,hm,F.kp,hb⟩
 ·dsimp only at e;split at e
  ·obtain ⟨s,hs,rfl⟩:=map_some e;obtain ⟨f,fd,F,hm,hb⟩:=T.defs x s hs;exact ⟨f,fd,aP s,bJ7 fun _ _=>rfl,hm,F.kp,hb⟩
  ·cases e
 ·obtain ⟨p,hs,e2⟩:=map_some e;cases e2;exact .inl fun _ _=>rfl
 ·obtain ⟨⟨C',s⟩,hs,e2⟩:=map_some e;cases e2;obtain ⟨hc,n,q,f,fd,F,hM,hb⟩:=T.mt x _ s hs;exact ⟨hc,f,fd,aP s,hM,bJ7 fun _ _=>rfl,hb⟩
theorem sS {t:Top} (T:TopOk t P w K mg base) {d:Nat} (B:wV t P w K mg base d) (hI:∀ x C s,t.ini x=some (C,s)->(∀ ws h,callI t (d+1) x ws h=none)\/∃ k f fd ps,k+1<=d+1/\Mk K C f/\FnOk P w K mg base CX0 k f fd ps (cZ K (fO (callI t (d+1) x)))/\mg x=some (.ref C)/\Binds K fd ps []):wV t P w K mg base (d+1):=by
 refine ⟨fun x m e=>?_,fun x m e=>?_,fun x C m e=>?_,fun x C m e=>?_,T.fo⟩
 ·obtain ⟨s,hs,rfl⟩:=map_some e;obtain ⟨f,fd,F,hm,hb⟩:=T.defs x s hs;have e:aD t (d+1) x=jV t (fnT t fun y=>aD t d y) (obT t (fun y=>callW t d y) (fun y=>callI t d y) fun y=>callM t d y) x s:=by
   rw [aD,hs]
  dsimp only;rw [e];exact bS4 (bJ6 T F B) hm F hb
 ·dsimp only at e;split at e
  ·obtain ⟨s,hs,rfl⟩:=map_some e;obtain ⟨f,fd,F,hm,hb⟩:=T.defs x s hs;have e:callW t (d+1) x=gB t (fnT t fun y=>aD t d y) (obT t (fun y=>callW t d y) (fun y=>callI t d y) fun y=>callM t d y) x s:=by
    rw [callW,hs]
   try dsimp only
   rw [e];exact ⟨f,fd,aP s,aM9 T F B,hm,F.kp,hb⟩
  ·cases e
 ·obtain ⟨⟨C',s⟩,hs,e2⟩:=map_some e;cases e2;exact hI x _ s hs
 ·obtain ⟨⟨C',s⟩,hs,e2⟩:=map_some e;cases e2;obtain ⟨hc,n,q,f,fd,F,hM,hb⟩:=T.mt x _ s hs;have e:callM t (d+1) x=gB t (fnT t fun y=>aD t d y) (obT t (fun y=>callW t d y) (fun y=>callI t d y) fun y=>callM t d y) x s:=by
   rw [callM,hs]
  dsimp only;rw [e];exact ⟨hc,f,fd,aP s,hM,aM9 T F B,hb⟩
theorem vA {t:Top} (T:TopOk t P w K mg base):∀ d,wV t P w K mg base d
 | 0=>sR T
 | 1=>sS T (sR T) fun x C s _=>.inl fun _ _=>rfl
 | d+2=>sS T (vA T (d+1)) fun x C s hs=>by
  obtain ⟨n,q,f,fd,F,hM,hm,hb⟩:=T.ini x C s hs;have e:callI t (d+2) x=gB t (fnT t fun y=>aD t d y) (obT t (fun y=>callW t d y) (fun y=>callI t d y) fun y=>callM t d y) x s:=by
   rw [callI,hs]
  refine .inr ⟨d+1,f,fd,aP s,Nat.le_refl _,hM,?_,hm,hb⟩;show FnOk P w K mg base CX0 (d+1) f fd (aP s) (cZ K (fO (callI t (d+2) x)));rw [e];exact aM9 T F (vA T d)
end
noncomputable def aN0 (x:Str):Stmt->Bool
 | .FunctionDef n _ _ _ _ _ _ _ _ _=>n==x
 | _=>false
noncomputable def vB (b:List Stmt) (x:Str):Option Stmt:=b.find? (aN0 x)
noncomputable def aN1:Nat->Expr->Option PyData
 | _,.Constant (.int i) _ _=>some (.int i)
 | _,.Constant (.str x) _ _=>some (.str x)
 | _,.Constant (.bool x) _ _=>some (.bool x)
 | _,.Constant .none _ _=>some .none
 | n+1,.Tuple es _ _=>(es.mapM (aN1 n)).map .tuple
 | _,_=>none
noncomputable def cA2 (b:List Stmt) (x:Str):Option PyData:=b.findSome? fun s=>match s with
 | .Assign [.Name y _] e _=>if y==x&&!(x==("__name__":Str)) then aN1 4 e else none
 | _=>none
noncomputable def cA3:List (Option Expr)->List Expr->Option (List (Str×Int))
 | [],[]=>some []
 | some (.Constant (.str x) _ _)::ks,.Constant (.int i) _ _::vs=>(cA3 ks vs).map ((x,i)::·)
 | _,_=>none
noncomputable def cA4 (b:List Stmt) (x:Str):Option (Str->Option Int):=b.findSome? fun s=>match s with
 | .Assign [.Name y _] (.Dict ks vs _) _=>if y==x then (cA3 ks vs).map fun t z=>t.lookup z else none
 | _=>none
noncomputable def blAll:List Str:=["len","tuple","all","any","isinstance","int","bool","str","list","range","sorted","set","zip","enumerate","dict","max","min","sum","reversed","abs"]
noncomputable def cN7 (b:List Stmt) (ac:Str->List Nat) (cv:Str->List Str) (fuel deep:Nat) (wf:Str->Bool:=fun _=>false) (ini mt:Str->Option (Addr×Stmt):=fun _=>none) (fo:Addr->Str->Bool:=fun _ _=>false):Top:=⟨blAll,cA2 b,cA4 b,vB b,ac,cv,fuel,deep,wf,ini,mt,fo⟩
end CI
namespace CI
open PySem DL
@[simp] theorem cN8 {α β:Type} (x:XR α) (f:α->XR β) (δ:DSt) (h:aA):xb x f δ h=(x δ h).bind fun p=>f p.1 δ p.2:=rfl
@[simp] theorem lT {α:Type} (a:α) (δ:DSt) (h:aA):aC a δ h=some (a,h):=rfl
@[simp] theorem dC9 {α:Type} (δ:DSt) (h:aA):(xno:XR α) δ h=none:=rfl
@[simp] theorem cU7 (i:Nat) (δ:DSt) (h:aA):aB i δ h=match δ[i]? with
 | some (some w)=>some (w,h)
 | _=>none:=rfl
theorem fJ (h:aA):okP h h:=fun i c _ e=>.inr e
theorem lU {h h1:aA} (L:aA) (hl:h1.length=h.length) (k:okP h h1):okP h (h1++L):=fun i c hi e=>k i c hi (by rwa [List.getElem?_append_left (by omega)] at e)
theorem cA5 {h h1:aA} (i:Nat) (xs:List PyData) (k:okP h h1):okP h (h1.set i (.l xs)):=fun j c hj e=>by
 by_cases q:i=j
 ·subst q
  by_cases hi:i < h1.length
  ·rw [List.getElem?_set_self hi] at e;cases e;exact .inl fun m hm=>by cases hm
  ·rw [List.set_eq_of_length_le (by omega)] at e;exact k i c hj e
 ·rw [List.getElem?_set_ne q] at e;exact k j c hj e
@[simp] theorem dI1 (h:aA):okP h h=True:=eq_true (fJ h)
@[simp] theorem dI2 (h L:aA):okP h (h++L)=True:=eq_true (lU L rfl (fJ h))
theorem aN2 (h0:aA) (z:PyData) (h:aA) (ok:okP h0 h):ends h0 (.rt (.d z),h)=some (z,h.take h0.length):=by
 unfold ends;rw [if_pos ok]
theorem aN3 (h0:aA) (δ:DSt) (h:aA) (ok:okP h0 h):ends h0 (.nx δ,h)=some (.none,h.take h0.length):=by
 unfold ends;rw [if_pos ok]
@[simp] theorem bB6 (h:aA) (z:PyData):ends h (.rt (.d z),h)=some (z,h):=by rw [aN2 _ _ _ (fJ h),List.take_length]
@[simp] theorem cU8 (h:aA) (δ:DSt):ends h (.nx δ,h)=some (.none,h):=by rw [aN3 _ _ _ (fJ h),List.take_length]
@[simp] theorem cU9 (h L:aA) (z:PyData):ends h (.rt (.d z),h++L)=some (z,h):=by rw [aN2 _ _ _ (lU L rfl (fJ h)),List.take_left'];rfl
@[simp] theorem cV0 (h L:aA) (δ:DSt):ends h (.nx δ,h++L)=some (.none,h):=by rw [aN3 _ _ _ (lU L rfl (fJ h)),List.take_left'];rfl
@[simp] theorem cV1 (δ:DSt) (h:aA):jU (.nx δ,h)=some (.d .none,h):=rfl
@[simp] theorem cV2 (w:W) (h:aA):jU (.rt w,h)=some (w,h):=rfl
@[simp] theorem cE7 (δ:DSt):aW [] δ=[]:=rfl
@[simp] theorem cA6 (r:List (Option Nat)) (δ:DSt):aW (none::r) δ=none::aW r δ:=rfl
@[simp] theorem cA7 (i:Nat) (r:List (Option Nat)) (δ:DSt):aW (some i::r) δ=(δ[i]?).bind id::aW r δ:=rfl
@[simp] theorem cN9 (gs:List XG) (xs:List PyData) (δ:DSt) (h:aA):eX gs (.d (.tuple xs)) δ h=pQ gs xs δ h:=rfl
@[simp] theorem cO0 (δ:DSt) (h:aA):pQ [] [] δ h=some (δ,h):=rfl
@[simp] theorem cE8 (g:XG) (gs:List XG) (x:PyData) (xs:List PyData) (δ:DSt) (h:aA):pQ (g::gs) (x::xs) δ h=(g (.d x) δ h).bind fun p=>pQ gs xs p.1 p.2:=rfl
@[simp] theorem dG3 (h:aA) (x:PyData):ref h (.d x)=some x:=rfl
end CI
namespace CI
open PySem PySem.Spec PyProof.Rows L2 DL
section
variable {δ:DSt} {h:aA}
@[simp] theorem cO1 (x:XR Bool):cE x δ h=(x δ h).map asW:=rfl
@[simp] theorem dD0 (b:Bool):asW (b,h)=(.d (.bool b),h):=rfl
@[simp] theorem dD1 (op:CmpOp) (x y:XR W):xC1 op x y δ h=(x δ h).bind fun u=>(y δ u.2).bind fun w=>cC op u.1 w.1 w.2:=rfl
@[simp] theorem dD2 (op op':CmpOp) (x y z:XR W):xC2 op op' x y z δ h=(x δ h).bind fun u=>(y δ u.2).bind fun w=>(cC op u.1 w.1 w.2).bind fun p=>if p.1=true then (z δ p.2).bind fun q=>cC op' w.1 q.1 q.2 else some (false,p.2):=rfl
@[simp] theorem dD3 (op op' op'':CmpOp) (x y z t:XR W):xC3 op op' op'' x y z t δ h=(x δ h).bind fun u=>(y δ u.2).bind fun w=>(cC op u.1 w.1 w.2).bind fun p =>
 if p.1=true then (z δ p.2).bind fun q=>(cC op' w.1 q.1 q.2).bind fun p'=>if p'.1=true then (t δ p'.2).bind fun q'=>cC op'' q.1 q'.1 q'.2 else some (false,p'.2) else some (false,p.2):=rfl
@[simp] theorem cO2 (f:Str->Option Int) (x:XR W):oB f x δ h=(x δ h).bind fun p=>(match p.1 with
 | .d (.str s)=>some (!(f s).isSome,p.2)
 | .d .none=>some (true,p.2)
 | _=>none):=by
 unfold oB;rw [cN8]
 congr 1
 funext p
 obtain ⟨w,h'⟩:=p;cases w with
 | d x=>cases x<;>rfl
 | c i=>rfl
 | v u=>rfl
@[simp] theorem cV3 (x:XR (List PyData)):aQ x δ h=(x δ h).bind fun p=>some (.d (.list p.1),p.2):=rfl
@[simp] theorem cO3 (x:XR (List PyData)):bR x δ h=(x δ h).bind fun p=>some (.c p.2.length,p.2++[.l p.1]):=rfl
@[simp] theorem dD4 (x:XR (List W)):xPl x δ h=(x δ h).bind fun p=>(match cQ p.1 with
 | some xs=>if xs.length<=sizeLine then some (xs,p.2) else none
 | none=>none):=rfl
@[simp] theorem cV4 (i:Nat) (x:XR W):aZ i x δ h=(x δ h).bind fun p=>some (.nx (δ.set i (some p.1)),p.2):=rfl
@[simp] theorem cO4 (x:XR W):bU x δ h=(x δ h).bind fun p=>(match p.1 with
 | .d (.list xs)=>some ((xs,none),p.2)
 | .d (.tuple xs)=>some ((xs,none),p.2)
 | .c i=>(match p.2[i]? with
  | some (.l xs)=>some ((xs,some i),p.2)
  | _=>none)
 | _=>none):=rfl
@[simp] theorem cA8:cQ []=some []:=rfl
@[simp] theorem cO5 (x:PyData) (r:List W):cQ (.d x::r)=(cQ r).map (x::·):=rfl
@[simp] theorem dD5 (i j:Int):cC .Lt (.d (.int i)) (.d (.int j)) h=some (decide (i < j),h):=rfl
@[simp] theorem dD6 (i j:Int):cC .LtE (.d (.int i)) (.d (.int j)) h=some (decide (i<=j),h):=rfl
@[simp] theorem dD7 (i j:Int):cC .Gt (.d (.int i)) (.d (.int j)) h=some (decide (j < i),h):=rfl
@[simp] theorem dD8 (i j:Int):cC .GtE (.d (.int i)) (.d (.int j)) h=some (decide (j<=i),h):=rfl
@[simp] theorem dD9 (u w:W):cC .Eq u w h=(xEq u w h).map fun b=>(b,h):=rfl
@[simp] theorem dE0 (u w:W):cC .NotEq u w h=(xEq u w h).map fun b=>(!b,h):=rfl
@[simp] theorem dE1 (u w:W):cC .Is u w h=(xIs u w).map fun b=>(b,h):=rfl
@[simp] theorem cE9 (u w:W):cC .IsNot u w h=(xIs u w).map fun b=>(!b,h):=rfl
@[simp] theorem dE2 (u w:W):cC .In u w h=(xIn u w h).map fun b=>(b,h):=rfl
@[simp] theorem cF0 (u w:W):cC .NotIn u w h=(xIn u w h).map fun b=>(!b,h):=rfl
theorem wW (a b:PyData):xEq (.d a) (.d b) h=if (aM 64 a&&aM 64 b)=true then some (PyData.eqv a b) else none:=rfl
@[simp] theorem cV5 (n:Nat):aM n .none=true:=by rw [aM]
@[simp] theorem cV6 (n:Nat) (b:Bool):aM n (.bool b)=true:=by rw [aM]
@[simp] theorem dE3 (n:Nat) (i:Int):aM n (.int i)=true:=by rw [aM]
@[simp] theorem dE4 (n:Nat) (x:Str):aM n (.str x)=true:=by rw [aM]
@[simp] theorem cV7 (n:Nat) (xs:List PyData):aM (n+1) (.list xs)=plainsB n xs:=by rw [aM]
@[simp] theorem cO6 (n:Nat) (xs:List PyData):aM (n+1) (.tuple xs)=plainsB n xs:=by rw [aM]
@[simp] theorem cV8 (n:Nat):plainsB n []=true:=by rw [plainsB]
@[simp] theorem cO7 (n:Nat) (x:PyData) (xs:List PyData):plainsB n (x::xs)=(aM n x&&plainsB n xs):=by rw [plainsB]
@[simp] theorem cV9 (i j:Int):xEq (.d (.int i)) (.d (.int j)) h=some (decide (i=j)):=by rw [wW];simp [PyData.eqv];exact Bool.beq_eq_decide_eq i j
@[simp] theorem cW0 (x y:Str):xEq (.d (.str x)) (.d (.str y)) h=some (x==y):=by simp [wW,PyData.eqv]
@[simp] theorem cO8 (x y:Bool):xEq (.d (.bool x)) (.d (.bool y)) h=some (x==y):=by cases x<;>cases y<;>simp [wW,PyData.eqv]
@[simp] theorem bJ8 (y:Str):xEq (.d .none) (.d (.str y)) h=some false:=by simp [wW,PyData.eqv]
@[simp] theorem dG4 (x:PyData):cD [.d x] h=(match x with
  | .list xs=>some (.d (.int xs.length),h)
  | .tuple xs=>some (.d (.int xs.length),h)
  | _=>none):=by cases x<;>rfl
@[simp] theorem cW1 (xs:List PyData):bY [.d (.list xs)] h=some (.d (.tuple xs),h):=rfl
@[simp] theorem cW2 (xs:List PyData):bY [.d (.tuple xs)] h=some (.d (.tuple xs),h):=rfl
@[simp] theorem bJ9 (xs:List PyData):iI [.d (.list xs)] h=(eE xs).map fun bs=>(.d (.bool (bs.all id)),h):=rfl
@[simp] theorem dI3 (xs:List PyData) (i:Int):xIx (.d (.tuple xs)) (.d (.int i)) h=(atI xs i).map fun v=>(.d v,h):=rfl
@[simp] theorem dI4 (xs:List PyData) (i:Int):xIx (.d (.list xs)) (.d (.int i)) h=(atI xs i).map fun v=>(.d v,h):=rfl
@[simp] theorem dI5 (xs:List PyData) (lo hi:Option Int):xSl (.d (.tuple xs)) lo hi h=some (.d (.tuple (cut xs lo hi)),h):=rfl
@[simp] theorem dI6 (xs:List PyData) (lo hi:Option Int):xSl (.d (.list xs)) lo hi h=some (.d (.list (cut xs lo hi)),h):=rfl
@[simp] theorem cF1 (i j:Int):eO .Add (.d (.int i)) (.d (.int j)) h=some (.d (.int (i+j)),h):=rfl
@[simp] theorem cF2 (i j:Int):eO .Sub (.d (.int i)) (.d (.int j)) h=some (.d (.int (i - j)),h):=rfl
@[simp] theorem cF3 (i j:Int):eO .Mult (.d (.int i)) (.d (.int j)) h=if fN i j=true then some (.d (.int (i*j)),h) else none:=rfl
@[simp] theorem cF4 (i j:Int):eO .FloorDiv (.d (.int i)) (.d (.int j)) h=if aU j=true then some (.d (.int (i / j)),h) else none:=rfl
@[simp] theorem cF5 (i j:Int):eO .Mod (.d (.int i)) (.d (.int j)) h=if 0 < j then some (.d (.int (i%j)),h) else none:=rfl
@[simp] theorem cF6 (i j:Int):eO .Pow (.d (.int i)) (.d (.int j)) h=if sC i j=true then some (.d (.int (i^j.toNat)),h) else none:=rfl
@[simp] theorem cF7 (xs ys:List PyData):eO .Add (.d (.tuple xs)) (.d (.tuple ys)) h=if xs.length+ys.length<=sizeLine then some (.d (.tuple (xs++ys)),h) else none:=rfl
@[simp] theorem cF8 (xs ys:List PyData):eO .Add (.d (.list xs)) (.d (.list ys)) h=if xs.length+ys.length<=sizeLine then some (.d (.list (xs++ys)),h) else none:=rfl
@[simp] theorem cJ (xs:List PyData):condB none xs h=true:=rfl
theorem bS {g:XG} {te:XR W} {all:List PyData} (f:PyData->PyData) (k:Nat) (hg:∀ w δ h,g w δ h=some (δ.set k (some w),h)) :
  ∀ (rest:List PyData) (δ:DSt) (ac:List PyData),(∀ x∈rest,∀ u,te ((δ.set k u).set k (some (.d x))) h=some (.d (f x),h))->aO g (aC true) te none all rest δ h ac=some (ac++rest.map f,h)
 | [],δ,ac,_=>by simp [aO]
 | x::r,δ,ac,hf=>by
  have e:=hf x List.mem_cons_self none;rw [List.set_set] at e;rw [aO,cJ,if_pos rfl,hg];simp only [Option.bind_some,lT,if_true,e];rw [bS f k hg r _ _ fun y hy u=>by
   have:=hf y (List.mem_cons_of_mem _ hy) u;rw [List.set_set] at this ⊢;rw [List.set_set];exact this]
  simp
theorem gL {f:PyData->Bool}:∀ xs:List PyData,eE (xs.map fun x=>.bool (f x))=some (xs.map f)
 | []=>rfl
 | x::r=>by rw [List.map_cons,eE,gL r];rfl
theorem all_map {f:PyData->Bool} {h:aA} (xs:List PyData):iI [.d (.list (xs.map fun x=>.bool (f x)))] h=some (.d (.bool (xs.all f)),h):=by
 rw [bJ9,gL,Option.map_some,List.all_map];rfl
end
abbrev S3:=Int×Int×Int
noncomputable def stL (s:S3):Cell:=.l [.int s.1,.int s.2.1,.int s.2.2]
theorem gM {i:Int} (h1:-(2^64) < i) (h2:i < 2^64) (j:Int):fN i j=true:=by
 unfold fN;rw [decide_eq_true h1,decide_eq_true h2];rfl
theorem wX {j:Int} (h1:-(2^64) < j) (h2:j < 2^64) (i:Int):fN i j=true:=by
 unfold fN;rw [decide_eq_true h1,decide_eq_true h2,Bool.and_self,Bool.or_true]
theorem cX {j:Int} (h1:0 < j) (h2:j < 1073741824):aU j=true:=by
 unfold aU;rw [decide_eq_true h1,decide_eq_true h2];rfl
theorem dN {h L:aA} {i:Nat} {c:Cell} (hi:i < h.length):h.set i c++L=(h++L).set i c:=(List.set_append_left _ _ hi).symm
theorem wY {h:aA} {i:Nat} {xs:List PyData} (hi:i < h.length):ref (h.set i (.l xs)) (.c i)=some (.list xs):=by
 simp [ref,hi]
@[simp] theorem dI7 {h:aA} {i:Nat} {xs:List PyData} (hi:i < h.length) (k:Int):xIx (.c i) (.d (.int k)) (h.set i (.l xs))=(atI xs k).map fun v=>(.d v,h.set i (.l xs)):=by
 unfold xIx;rw [wY hi]
noncomputable def thr (f:PyData->S3->PyData) (n:PyData->S3->S3):List PyData->S3->List PyData×S3
 | [],s=>([],s)
 | x::r,s=>(f x s::(thr f n r (n x s)).1,(thr f n r (n x s)).2)
theorem oH {g:XG} {te:XR W} {all:List PyData} {h:aA} {i:Nat} (f:PyData->S3->PyData) (n:PyData->S3->S3) (k:Nat) (hg:∀ w δ h,g w δ h=some (δ.set k (some w),h)) :
  ∀ (rest:List PyData) (δ:DSt) (ac:List PyData) (s:S3),(∀ x∈rest,∀ u s,te ((δ.set k u).set k (some (.d x))) (h.set i (stL s))=some (.d (f x s),h.set i (stL (n x s)))) ->
   aO g (aC true) te none all rest δ (h.set i (stL s)) ac=some (ac++(thr f n rest s).1,h.set i (stL (thr f n rest s).2))
 | [],δ,ac,s,_=>by simp [aO,thr]
 | x::r,δ,ac,s,hf=>by
  have e:=hf x List.mem_cons_self none s;rw [List.set_set] at e;rw [aO,cJ,if_pos rfl,hg];simp only [Option.bind_some,lT,if_true,e];rw [oH f n k hg r _ _ _ fun y hy u s=>by
   have:=hf y (List.mem_cons_of_mem _ hy) u s;rw [List.set_set] at this ⊢;rw [List.set_set];exact this]
  simp [thr]
variable (h:aA)
@[simp] theorem dE5 (L:aA) (i:Nat) (c:Cell):(h.set i c++L).take h.length=h.set i c:=by
 rw [List.take_append_of_le_length (by simp)];simp
end CI
namespace CI
open PySem PySem.Spec PyProof.Rows L2 DL
theorem oI {g:XG} {te:XR W} {all:List PyData} {h:aA} (f:PyData->PyData) (J:DSt->Prop) :
  ∀ (rest:List PyData) (δ:DSt) (ac:List PyData),J δ->(∀ x∈rest,∀ δ,J δ->∃ δ1,g (.d x) δ h=some (δ1,h)/\J δ1/\te δ1 h=some (.d (f x),h))->aO g (aC true) te none all rest δ h ac=some (ac++rest.map f,h)
 | [],δ,ac,_,_=>by simp [aO]
 | x::r,δ,ac,j,hf=>by
  obtain ⟨δ1,e1,j1,e2⟩:=hf x List.mem_cons_self δ j;rw [aO];simp [e1,e2,aC];rw [oI f J r δ1 (ac++[f x]) j1 fun y hy=>hf y (List.mem_cons_of_mem _ hy)];simp
theorem hU {g:XG} {te:XR W} {all:List PyData} {h:aA} (J:DSt->Prop) :
  ∀ (ps:List (PyData×PyData)) (δ:DSt) (ac:List PyData),J δ->(∀ p∈ps,∀ δ,J δ->∃ δ1,g (.d p.1) δ h=some (δ1,h)/\J δ1/\te δ1 h=some (.d p.2,h))->aO g (aC true) te none all (ps.map (·.1)) δ h ac=some (ac++ps.map (·.2),h)
 | [],δ,ac,_,_=>by simp [aO]
 | x::r,δ,ac,j,hf=>by
  obtain ⟨δ1,e1,j1,e2⟩:=hf x List.mem_cons_self δ j;rw [List.map_cons,aO];simp [e1,e2,aC];rw [hU J r δ1 (ac++[x.2]) j1 fun y hy=>hf y (List.mem_cons_of_mem _ hy)];simp
@[simp] theorem dE6 (xs:List PyData):fZ (.d (.tuple xs))=some xs:=rfl
@[simp] theorem dE7 (xs:List PyData):fZ (.d (.list xs))=some xs:=rfl
theorem cA9 (a:PyData) (xs:List PyData) (h:aA):xIn (.d a) (.d (.tuple xs)) h=if (aM 64 (.tuple xs)&&aM 64 a)=true then some (xs.any fun z=>PyData.eqv z a) else none:=rfl
@[simp] theorem cO9 (x a b:Str) (h:aA):xIn (.d (.str x)) (.d (.tuple [.str a,.str b])) h=some (a==x||b==x):=by
 rw [cA9];simp [PyData.eqv]
end CI
namespace CI
open PySem PySem.Spec PyProof.Rows L2 DL ST
theorem cB0 {a b:String} (h:Str.ofString a=Str.ofString b):a=b:=by
 simp only [Str.ofString_eq_byList] at h;unfold Str.ofStringByList at h;have h1:=congrArg Str.cps h;have h2:(a.toList.map Char.toNat)=(b.toList.map Char.toNat):=by
  have:=congrArg Array.toList h1
  simpa using this
 have h3:a.toList=b.toList:=by
  refine (List.map_inj_right ?_).mp h2;intro x y e;exact Char.toNat_inj.mp e
 exact String.toList_inj.mp h3
@[simp] theorem cP0 (a b:String):(Str.ofString a=Str.ofString b)=(a=b):=propext ⟨cB0,fun e=>by rw [e]⟩
@[simp] theorem dE8 (a b:String):(Str.ofString a==Str.ofString b)=(a==b):=by
 rw [Bool.eq_iff_iff,beq_iff_eq,beq_iff_eq,cP0]
theorem cB {x:Option (Fl×aA)} {f:Fl×aA->Option (Fl×aA)} {P:DSt->aA->Prop} (δ':DSt) (h':aA) (e:x=some (.nx δ',h')) (k:∃ δ2 h2,f (.nx δ',h')=some (.nx δ2,h2)/\P δ2 h2):∃ δ2 h2,x.bind f=some (.nx δ2,h2)/\P δ2 h2:=by
 rw [e];exact k
theorem cT {x:Option (Fl×aA)} {f:Fl×aA->Option (Fl×aA)} {P:DSt->aA->Prop} (J:DSt->aA->Prop) (e:∃ δ' h',x=some (.nx δ',h')/\J δ' h') (k:∀ δ' h',J δ' h'->∃ δ2 h2,f (.nx δ',h')=some (.nx δ2,h2)/\P δ2 h2):∃ δ2 h2,x.bind f=some (.nx δ2,h2)/\P δ2 h2:=by
 obtain ⟨δ',h',e,j⟩:=e;rw [e];exact k δ' h' j
section
variable (h:aA)
@[simp] theorem cP1:gQ []=some []:=rfl
@[simp] theorem cF9 (i:Int) (r:List PyData):gQ (.int i::r)=(gQ r).map (i::·):=rfl
@[simp] theorem dG5:xIs (.d .none) (.d .none)=some true:=rfl
@[simp] theorem dG6 (i:Int):xIs (.d (.int i)) (.d .none)=some false:=rfl
@[simp] theorem dG7 (xs:List PyData):xIs (.d (.tuple xs)) (.d .none)=some false:=rfl
theorem get_last (c:Cell):(h++[c])[h.length]?=some c:=by simp
theorem mpre_last (xs:List PyData):kA "append" (.c h.length) (h++[.l xs])=true:=by
 unfold kA;rw [if_pos rfl];simp
end
@[simp high] theorem bs {α β:Type} (a:α) (f:α->Option β):(some a).bind f=f a:=id rfl
theorem iM {g:XG} {tt:XR Bool} {te:XR W} {all:List PyData} {h:aA} (p:PyData->Bool) (f:PyData->PyData) (I:DSt->Prop):∀ (xs:List PyData) (δ:DSt) (ac:List PyData),I δ ->
  (∀ x∈xs,∀ δ,I δ->∃ δ',g (.d x) δ h=some (δ',h)/\I δ'/\tt δ' h=some (p x,h)/\(p x=true->te δ' h=some (.d (f x),h)))->aO g tt te none all xs δ h ac=some (ac++(xs.filter p).map f,h)
 | [],δ,ac,_,_=>by simp [aO]
 | x::r,δ,ac,i,hx=>by
  obtain ⟨δ',e1,i',e2,e3⟩:=hx x List.mem_cons_self δ i;have ih:=fun ac=>iM (all:=all) p f I r δ' ac i' fun y hy=>hx y (List.mem_cons_of_mem _ hy);rw [aO,cJ,if_pos rfl,e1];simp only [bs,e2];cases hp:p x with
  | true=>rw [if_pos rfl,e3 hp];simp only [bs];rw [ih];simp [hp]
  | false=>rw [if_neg (by simp)];rw [ih];simp [hp]
theorem cB1 {g:XG} {te:XR W} {all:List PyData} {h:aA} (f:PyData->PyData) (I:DSt->Prop) (xs:List PyData) (δ:DSt) (i:I δ)
  (hx:∀ x∈xs,∀ δ,I δ->∃ δ',g (.d x) δ h=some (δ',h)/\I δ'/\te δ' h=some (.d (f x),h)):aO g (aC true) te none all xs δ h []=some (xs.map f,h):=by
 have:=iM (g:=g) (tt:=aC true) (te:=te) (all:=all) (h:=h) (fun _=>true) f I xs δ [] i fun x m δ i=>by
  obtain ⟨δ',a,b,c⟩:=hx x m δ i;exact ⟨δ',a,b,rfl,fun _=>c⟩
 rw [this,List.filter_eq_self.mpr (fun _ _=>rfl),List.nil_append]
theorem vC {σ α:Type} {g:XG} {tb:XS} {all:List PyData} {P:DSt->aA->Prop} (F:α->PyData) (st:σ->α->σ) (R:σ->DSt->aA->Prop) (s:σ) (qs:List α) {δ:DSt} {h:aA} (hi:R s δ h) (hP:∀ δ h,R (qs.foldl st s) δ h->P δ h)
  (ht:∀ q∈qs,∀ s δ h,R s δ h->∃ δ1 h1,g (.d (F q)) δ h=some (δ1,h1)/\∃ δ2 h2,tb δ1 h1=some (.nx δ2,h2)/\R (st s q) δ2 h2):∃ δ' h',cI g tb none all (qs.map F) δ h=some (.nx δ',h')/\P δ' h':=by
 suffices H:∀ (qs:List α) (s:σ) (δ:DSt) (h:aA),R s δ h->(∀ q∈qs,∀ s δ h,R s δ h->∃ δ1 h1,g (.d (F q)) δ h=some (δ1,h1)/\∃ δ2 h2,tb δ1 h1=some (.nx δ2,h2)/\R (st s q) δ2 h2)->∃ δ' h',cI g tb none all (qs.map F) δ h=some (.nx δ',h')/\R (qs.foldl st s) δ' h' by
  obtain ⟨δ',h',e,r⟩:=H qs s δ h hi ht;exact ⟨δ',h',e,hP _ _ r⟩
 clear hP hi ht;intro qs;induction qs with
 | nil=>exact fun s δ h i _=>⟨δ,h,by simp [cI],i⟩
 | cons q r ih =>
  intro s δ h i ht;obtain ⟨δ1,h1,e1,δ2,h2,e2,i2⟩:=ht q List.mem_cons_self s δ h i;obtain ⟨δ3,h3,e3,i3⟩:=ih _ δ2 h2 i2 fun y hy=>ht y (List.mem_cons_of_mem _ hy);refine ⟨δ3,h3,?_,i3⟩;rw [List.map_cons,cI,cJ,if_pos rfl,e1];simp only [bs,e2];exact e3
theorem cU {g:XG} {tb:XS} {all:List PyData} {P:DSt->aA->Prop} (I:Nat->DSt->aA->Prop) {rest:List PyData} {δ:DSt} {h:aA} (hi:I 0 δ h) (hP:∀ δ h,I rest.length δ h->P δ h)
  (ht:∀ n (hn:n < rest.length) δ h,I n δ h->∃ δ1 h1,g (.d rest[n]) δ h=some (δ1,h1)/\∃ δ2 h2,tb δ1 h1=some (.nx δ2,h2)/\I (n+1) δ2 h2):∃ δ' h',cI g tb none all rest δ h=some (.nx δ',h')/\P δ' h':=by
 suffices H:∀ (r:List PyData) (n:Nat) (δ:DSt) (h:aA),(∃ p,rest=p++r/\p.length=n)->I n δ h->∃ δ' h',cI g tb none all r δ h=some (.nx δ',h')/\I rest.length δ' h' by
  obtain ⟨δ',h',e,i⟩:=H rest 0 δ h ⟨[],rfl,rfl⟩ hi;exact ⟨δ',h',e,hP δ' h' i⟩
 intro r;induction r with
 | nil =>
  rintro n δ h ⟨p,e1,e2⟩ i;subst e2;simp at e1;subst e1;exact ⟨δ,h,by simp [cI],i⟩
 | cons x r ih =>
  rintro n δ h ⟨p,e1,e2⟩ i;have hn:n < rest.length:=by rw [e1];simp;omega
  have hx:rest[n]=x:=by subst e2;subst e1;simp
  obtain ⟨δ1,h1,e1',δ2,h2,e2',i2⟩:=ht n hn δ h i;rw [hx] at e1';obtain ⟨δ3,h3,e3,i3⟩:=ih (n+1) δ2 h2 ⟨p++[x],by simp [e1],by simp [e2]⟩ i2;refine ⟨δ3,h3,?_,i3⟩;rw [cI,cJ,if_pos rfl,e1'];simp only [bs,e2'];exact e3
theorem rng_len (lo:Int) (n:Nat):(rng lo n).length=n:=by simp [rng]
@[simp] theorem at4 (a b c e f:PyData) (r:List PyData):atI (a::b::c::e::f::r) 4=some f:=fC (j:=4) (by simp)
@[simp] theorem at5 (a b c e f g:PyData) (r:List PyData):atI (a::b::c::e::f::g::r) 5=some g:=fC (j:=5) (by simp)
end CI
namespace CI
open PySem PySem.Spec PyProof.Rows L2 DL
noncomputable def gcl (b:List Stmt):List (Str×PyData):=b.filterMap fun s=>match s with
 | .Assign [.Name y _] e _=>if !(y==("__name__":Str)) then (aN1 4 e).map (y,·) else none
 | _=>none
theorem cB2 {b:List Stmt} {x:Str} {z:PyData} (h:cA2 b x=some z):(x,z)∈gcl b:=by
 obtain ⟨s,hs,e⟩:=List.exists_of_findSome?_eq_some h;refine List.mem_filterMap.mpr ⟨s,hs,?_⟩;split at e
 ·rename_i y p e0 q;split at e
  ·rename_i hc;rw [Bool.and_eq_true] at hc;have:y=x:=eq_of_beq hc.1;subst this;try simp only []
   rw [if_pos hc.2,e];rfl
  ·cases e
 ·cases e
noncomputable def tkl (b:List Stmt):List (Str×List (Str×Int)):=b.filterMap fun s=>match s with
 | .Assign [.Name y _] (.Dict ks vs _) _=>(cA3 ks vs).map (y,·)
 | _=>none
theorem cB3 {b:List Stmt} {x:Str} {f:Str->Option Int} (h:cA4 b x=some f):∃ t,(x,t)∈tkl b/\f=fun z=>t.lookup z:=by
 obtain ⟨s,hs,e⟩:=List.exists_of_findSome?_eq_some h;split at e
 ·rename_i y p ks vs p2 q;split at e
  ·rename_i hc;have:y=x:=eq_of_beq hc;subst this;obtain ⟨t,et,rfl⟩:=Option.map_eq_some_iff.mp e;refine ⟨t,List.mem_filterMap.mpr ⟨_,hs,?_⟩,rfl⟩;simp only [];rw [et];rfl
  ·cases e
 ·cases e
noncomputable def dfl (b:List Stmt):List (Str×Stmt):=b.filterMap fun s=>match s with
 | .FunctionDef n _ _ _ _ _ _ _ _ _=>some (n,s)
 | _=>none
theorem cB4 {b:List Stmt} {x:Str} {s:Stmt} (h:vB b x=some s):(x,s)∈dfl b:=by
 have h1:=List.find?_some h;have h2:=List.mem_of_find?_eq_some h;refine List.mem_filterMap.mpr ⟨s,h2,?_⟩;unfold aN0 at h1;split at h1
 ·simp only [eq_of_beq h1]
 ·cases h1
section
variable {P:Program} {w:World} {K:Frag} {mg:Str->Option Value} {base:Heap}
theorem law_fn {t:Top} {x:Str} {s:Stmt} {f:Addr} {fd:FuncData} {k:Nat} (T:TopOk t P w K mg base) (hs:t.defs x=some s) (F:Fun K x x s f fd):FnOk P w K mg base CX0 (k+1) f fd (aP s) (lB K (mP (aD t (k+1) x))):=by
 have e:aD t (k+1) x=jV t (fnT t fun y=>aD t k y) (obT t (fun y=>callW t k y) (fun y=>callI t k y) fun y=>callM t k y) x s:=by
  rw [aD,hs]
 rw [e];exact bJ6 T F (vA T k)
theorem jF (K:Frag) (A:List Addr) (H:Hp):∀ ns:List Int,Reps K A H (ns.map .int) (ns.map V.int)
 | []=>.nil
 | n::r=>.cons iB (jF K A H r)
theorem cB5 {t:Top} {x:Str} {d:Nat} (hL:∀ ns:List Int,∃ h',aD t d x [.d (.list (ns.map .int))] []=some (.bool true,h')) (K:Frag) (H:Hp) (a:Addr) (ns:List Int) (hS:SqL K H a (ns.map V.int)):lB K (mP (aD t d x)) [.ref a] H (fun v _=>v=.bl true) fun _ _ _=>False:=by
 obtain ⟨h',e⟩:=hL ns;refine ⟨[.d (.list (ns.map .int))],[],[],[],fun z _=>z=.bool true,⟨rfl,List.nodup_nil,fun _ z=>(nomatch z),fun _ z=>(nomatch z),fun i a xs e=>by simp at e⟩,⟨_,[],rfl,?_,rfl⟩,⟨.bool true,h',e,rfl⟩,fun z h' v H' A' e _ _ r=>?_⟩
 ·show Rep K [] H (.list (ns.map .int)) (.ref a);rw [Rep];refine ⟨a,_,rfl,?_,jF K [] H ns⟩;rcases hS with h | h
  ·exact .inl ⟨by simp,h⟩
  ·exact .inr h
 ·subst e;rw [Rep] at r;exact r
theorem sT {x k:Str} {hh:Int} {t:Tok} {v:Value} {es:List DictEntry}:findBy Value.isStrOf (⟨hh,.str k t,v⟩::es).toArray x=if k=x then some v else findBy Value.isStrOf es.toArray x:=by
 unfold findBy;simp only [List.find?_toArray,List.find?_cons,Value.isStrOf]
 by_cases e:k=x
 ·simp [e]
 ·have:(k==x)=false:=beq_eq_false_iff_ne.mpr e;simp [e,this]
end
theorem sU {K:Frag} {A:List Addr} {H:Hp}:∀ {ws:List Str},(ws.all PyData.strOk)=true->Reps K A H (ws.map .str) (ws.map V.str)
 | [],_=>by rw [List.map_nil,List.map_nil,Reps]
 | x::r,h=>by
  rw [List.all_cons,Bool.and_eq_true] at h;rw [List.map_cons,List.map_cons,Reps];exact ⟨_,_,rfl,by rw [Rep];exact ⟨rfl,h.1⟩,sU h.2⟩
theorem cB6 {K:Frag} {a:Addr} {n:Nat} {ws:List Str} {its:Array Value} (h:K.lookup a=some ⟨.type "tuple",none,.seq its n,#[]⟩) (hv:Vals (ws.map V.str) its.toList) (hs:its.size<=sizeLine) (ho:(ws.all PyData.strOk)=true) (A:List Addr) (H:Hp):Rep K A H (.tuple (ws.map .str)) (.ref a):=by
 rw [Rep];exact ⟨a,ws.map V.str,rfl,.inr ⟨_,its,n,h,rfl,rfl,rfl,hs,hv⟩,sU ho⟩
def FI (K:Frag) (n:Str) (s:Stmt):Prop:=∃ (f:Addr) (od an:Option Addr) (sl:Array (Option Value)) (oc kV dc pm cd ct:Value),PySem.W.nsIn K mainGlobals n=some (some (.ref f))/\K.lookup f=some ⟨oc,od,.func (PySem.W.fnOf n n (bM s) (aX s) (aE s) .none kV dc pm an cd ct),sl⟩/\PySem.W.codeIn K cd n=true/\PySem.W.keepIn K (.ref f)=true
theorem fi_mk {K:Frag} {n:Str} {s:Stmt} {f:Addr} {od an:Option Addr} {sl:Array (Option Value)} {oc kV dc pm cd ct:Value} (a:PySem.W.nsIn K mainGlobals n=some (some (.ref f))) (l:K.lookup f=some ⟨oc,od,.func (PySem.W.fnOf n n (bM s) (aX s) (aE s) .none kV dc pm an cd ct),sl⟩) (c:PySem.W.codeIn K cd n=true) (k:PySem.W.keepIn K (.ref f)=true):FI K n s:=⟨_,_,_,_,_,_,_,_,_,_,a,l,c,k⟩
theorem FI.ok {K:Frag} {n:Str} {s:Stmt} {h:Heap} {mg:Str->Option Value} {ps:List Str} (a:FI K n s) (X:K.In h) (G:h.Ns mainGlobals mg) (hp:aP s=ps)
  (hb:∀ (kV doc pm:Value) (an:Option Addr) (cdv ct:Value) (us:List Value),us.length=ps.length->bindArgs (PySem.W.fnOf n n (bM s) (aX s) (aE s) .none kV doc pm an cdv ct) ⟨us,[]⟩=pure (ps.zip us)):∃ f fd,Fun K n n s f fd/\mg n=some (.ref f)/\Binds K fd (aP s) []:=by
 obtain ⟨f,od,an,sl,oc,kV,dc,pm,cd,ct,a,l,c,k⟩:=a;have F:=uG (st:=s) l c k;exact ⟨f,_,F,PySem.W.mg_of X G a,by rw [hp];exact F.binds hb⟩
theorem cB7 {K:Frag} {a:Addr} {n:Nat} {ws:List Int} {its:Array Value} (h:K.lookup a=some ⟨.type "tuple",none,.seq its n,#[]⟩) (hv:Vals (ws.map V.int) its.toList) (hs:its.size<=sizeLine) (A:List Addr) (H:Hp):Rep K A H (.tuple (ws.map .int)) (.ref a):=by
 rw [Rep];exact ⟨a,ws.map V.int,rfl,.inr ⟨_,its,n,h,rfl,rfl,rfl,hs,hv⟩,jF K A H ws⟩
theorem FI.ok1 {K:Frag} {n:Str} {s:Stmt} {h:Heap} {mg:Str->Option Value} (a:FI K n s) (X:K.In h) (G:h.Ns mainGlobals mg) (hn:(aP s).length=1) (hb:∀ (kV doc pm:Value) (an:Option Addr) (cdv ct u:Value),bindArgs (PySem.W.fnOf n n (bM s) (aX s) (aE s) .none kV doc pm an cdv ct) ⟨[u],[]⟩=pure ((aP s).zip [u])):∃ f fd,Fun K n n s f fd/\mg n=some (.ref f)/\Binds K fd (aP s) []:=a.ok X G rfl fun kV doc pm an cdv ct us hl=>by
 rw [hn] at hl
 match us,hl with
 | [u],_=>exact hb kV doc pm an cdv ct u
theorem FI.ok2 {K:Frag} {n:Str} {s:Stmt} {h:Heap} {mg:Str->Option Value} (a:FI K n s) (X:K.In h) (G:h.Ns mainGlobals mg) (hn:(aP s).length=2) (hb:∀ (kV doc pm:Value) (an:Option Addr) (cdv ct u v:Value),bindArgs (PySem.W.fnOf n n (bM s) (aX s) (aE s) .none kV doc pm an cdv ct) ⟨[u,v],[]⟩=pure ((aP s).zip [u,v])):∃ f fd,Fun K n n s f fd/\mg n=some (.ref f)/\Binds K fd (aP s) []:=a.ok X G rfl fun kV doc pm an cdv ct us hl=>by
 rw [hn] at hl
 match us,hl with
 | [u,v],_=>exact hb kV doc pm an cdv ct u v
theorem FI.ok3 {K:Frag} {n:Str} {s:Stmt} {h:Heap} {mg:Str->Option Value} (a:FI K n s) (X:K.In h) (G:h.Ns mainGlobals mg) (hn:(aP s).length=3) (hb:∀ (kV doc pm:Value) (an:Option Addr) (cdv ct u v x:Value),bindArgs (PySem.W.fnOf n n (bM s) (aX s) (aE s) .none kV doc pm an cdv ct) ⟨[u,v,x],[]⟩=pure ((aP s).zip [u,v,x])):∃ f fd,Fun K n n s f fd/\mg n=some (.ref f)/\Binds K fd (aP s) []:=a.ok X G rfl fun kV doc pm an cdv ct us hl=>by
 rw [hn] at hl
 match us,hl with
 | [u,v,x],_=>exact hb kV doc pm an cdv ct u v x
theorem FI.ok4 {K:Frag} {n:Str} {s:Stmt} {h:Heap} {mg:Str->Option Value} (a:FI K n s) (X:K.In h) (G:h.Ns mainGlobals mg) (hn:(aP s).length=4) (hb:∀ (kV doc pm:Value) (an:Option Addr) (cdv ct u v x y:Value),bindArgs (PySem.W.fnOf n n (bM s) (aX s) (aE s) .none kV doc pm an cdv ct) ⟨[u,v,x,y],[]⟩=pure ((aP s).zip [u,v,x,y])):∃ f fd,Fun K n n s f fd/\mg n=some (.ref f)/\Binds K fd (aP s) []:=a.ok X G rfl fun kV doc pm an cdv ct us hl=>by
 rw [hn] at hl
 match us,hl with
 | [u,v,x,y],_=>exact hb kV doc pm an cdv ct u v x y
def FM (K:Frag) (C:Addr) (n q:Str) (s:Stmt):Prop:=∃ (f:Addr) (od an:Option Addr) (sl:Array (Option Value)) (oc kV dc pm cd ct:Value),PySem.W.findIn K (.ref C) n=some (some (.ref f))/\PySem.W.isFn K (.ref f)=true/\K.lookup f=some ⟨oc,od,.func (PySem.W.fnOf n q (bM s) (aX s) (aE s) .none kV dc pm an cd ct),sl⟩/\PySem.W.codeIn K cd q=true/\PySem.W.keepIn K (.ref f)=true
theorem fm_mk {K:Frag} {C:Addr} {n q:Str} {s:Stmt} {f:Addr} {od an:Option Addr} {sl:Array (Option Value)} {oc kV dc pm cd ct:Value} (a:PySem.W.findIn K (.ref C) n=some (some (.ref f))) (i:PySem.W.isFn K (.ref f)=true) (l:K.lookup f=some ⟨oc,od,.func (PySem.W.fnOf n q (bM s) (aX s) (aE s) .none kV dc pm an cd ct),sl⟩) (c:PySem.W.codeIn K cd q=true) (k:PySem.W.keepIn K (.ref f)=true):FM K C n q s:=⟨_,_,_,_,_,_,_,_,_,_,a,i,l,c,k⟩
theorem FM.ok {K:Frag} {C:Addr} {n q:Str} {s:Stmt} {ps:List Str} (a:FM K C n q s) (hp:aP s=ps)
  (hb:∀ (kV doc pm:Value) (an:Option Addr) (cdv ct:Value) (us:List Value),us.length=ps.length->bindArgs (PySem.W.fnOf n q (bM s) (aX s) (aE s) .none kV doc pm an cdv ct) ⟨us,[]⟩=pure (ps.zip us)):∃ f fd,Fun K n q s f fd/\Meth K C n f/\Binds K fd (aP s) []:=by
 obtain ⟨f,od,an,sl,oc,kV,dc,pm,cd,ct,a,i,l,c,k⟩:=a;have F:=uG (st:=s) l c k;exact ⟨f,_,F,⟨a,i,k⟩,by rw [hp];exact F.binds hb⟩
end CI
namespace CI
open PySem DL
variable {h L:aA} {i:Nat} {c c':Cell}
open Classical in
@[simp] theorem cB8 (h0:aA) (z:PyData) (h1:aA):ends h0 (.rt (.d z),h1)=if okP h0 h1 then some (z,h1.take h0.length) else none:=rfl
open Classical in
@[simp] theorem dE9 (h0:aA) (δ:DSt) (h1:aA):ends h0 (.nx δ,h1)=if okP h0 h1 then some (PyData.none,h1.take h0.length) else none:=rfl
theorem wZ (xs:List PyData):okP (h.set i c) (h.set i (.l xs)):=by
 have:=cA5 i xs (fJ (h.set i c))
 rwa [List.set_set] at this
@[simp] theorem dG8 (xs:List PyData):okP (h.set i c) (h.set i (.l xs))=True:=eq_true (wZ xs)
@[simp] theorem dG9 (s:S3):okP (h.set i c) (h.set i (stL s))=True:=eq_true (wZ _)
@[simp] theorem dH0 (xs:List PyData):okP (h.set i c) (h.set i (.l xs)++L)=True:=eq_true (lU L (by simp) (wZ xs))
@[simp] theorem cB9 (s:S3):okP (h.set i c) (h.set i (stL s)++L)=True:=eq_true (lU L (by simp) (wZ _))
@[simp] theorem aN4 (s:S3) (hi:i < h.length):okP (h.set i c) ((h++L).set i (stL s))=True:=by rw [<- dN hi,cB9]
@[simp] theorem dF0:(h.set i c).take h.length=h.set i c:=List.take_of_length_le (by simp)
@[simp] theorem cP2:(h.set i c++L).take h.length=h.set i c:=by rw [List.take_append_of_le_length (by simp),dF0]
@[simp] theorem aN5 (hi:i < h.length):((h++L).set i c).take h.length=h.set i c:=by rw [<- dN hi,cP2]
end CI
noncomputable section
namespace K15
open PySem PySem.Spec PyProof.Rows L2 DL CI SJ
def body:List Stmt:=PySem.Challenge.pw_storejudge_k15_behind_an_item.main.body
def cv (x:Str):List Str:=if x="law" then ["_law_stands","_law_state"] else if x="_law_problem" then ["_law_state"] else if x="_law_items" then ["_law_options","_law_items_here"] else if x="_law_pairs" then ["_law_pairs_here"] else if x="_law_triples" then ["_law_triples_here"] else if x="deal_done" then ["answers"] else []
def wf (x:Str):Bool:=decide (x="ways_of")
def methOf (m:Str):Option Stmt:=body.findSome? fun s=>match s with
 | .ClassDef n _ _ b _ _ _ _ _ _ _=>if n="Ways" then b.find? (aN0 m) else none
 | _=>none
def ini (x:Str):Option (Addr×Stmt):=if x="Ways" then (methOf "__init__").map fun s=>(291,s) else none
def mt (x:Str):Option (Addr×Stmt):=if x="stand_behind" then (methOf x).map fun s=>(291,s) else none
def fo (C:Addr) (f:Str):Bool:=decide (C=291)&&(["first","listed","musts","ahead","later","gaps"]:List Str).contains f
def T:Top:=cN7 body (fun _=>[]) cv 1000 60 wf ini mt fo
end K15
namespace K15
open PySem PySem.Spec PyProof.Rows L2 DL CI
noncomputable def YE:Fl×aA->Option (Fl×aA):=fun p=>match p.1 with
  | Fl.nx δ'=>some (Fl.nx δ',p.2)
  | f=>some (f,p.2)
@[simp] theorem dI8 :YE=fun p=>match p.1 with
  | Fl.nx δ'=>some (Fl.nx δ',p.2)
  | f=>some (f,p.2):=rfl
noncomputable def YN:W->XR (List W):=fun w=>xb (aC []) fun ws=>aC (w::ws)
@[simp] theorem dF1 :YN=fun w=>xb (aC []) fun ws=>aC (w::ws):=rfl
noncomputable def YC (w:W):List W->XR (List W):=fun ws=>aC (w::ws)
@[simp] theorem dI9 (w:W):YC w=fun ws=>aC (w::ws):=rfl
noncomputable def YF (d:Nat) (s:String):List W->XR W:=fun ws x h=>Option.bind (aD T d (Str.ofString s) ws h) fun p=>some (W.d p.1,p.2)
@[simp] theorem dF2 (d:Nat) (s:String):YF d s=fun ws x h=>Option.bind (aD T d (Str.ofString s) ws h) fun p=>some (W.d p.1,p.2):=rfl
noncomputable def YI (n:Int):W->XR W:=fun x=>xb (aC (W.d (PyData.int n))) fun y x_1 h=>xIx x y h
@[simp] theorem dJ0 (n:Int):YI n=fun x=>xb (aC (W.d (PyData.int n))) fun y x_1 h=>xIx x y h:=rfl
noncomputable def YB (o:Operator) (n:Int):W->XR W:=fun u=>xb (aC (W.d (PyData.int n))) fun w x h=>eO o u w h
@[simp] theorem dJ1 (o:Operator) (n:Int):YB o n=fun u=>xb (aC (W.d (PyData.int n))) fun w x h=>eO o u w h:=rfl
noncomputable def YO (o:Operator) (u:W):W->XR W:=fun w x h=>eO o u w h
@[simp] theorem dJ2 (o:Operator) (u:W):YO o u=fun w x h=>eO o u w h:=rfl
noncomputable def YT:List PyData->XR W:=fun xs=>aC (W.d (PyData.tuple xs))
@[simp] theorem dJ3 :YT=fun xs=>aC (W.d (PyData.tuple xs)):=rfl
noncomputable def YW:W×aA->Option (Fl×aA):=fun p=>some (Fl.rt p.1,p.2)
@[simp] theorem dJ4 :YW=fun p=>some (Fl.rt p.1,p.2):=rfl
noncomputable def YS (s:String):XR W:=aC (W.d (PyData.str (Str.ofString s)))
@[simp] theorem dJ5 (s:String):YS s=aC (W.d (PyData.str (Str.ofString s))):=rfl
noncomputable def YJ (n:Int):XR W:=aC (W.d (PyData.int n))
@[simp] theorem dJ6 (n:Int):YJ n=aC (W.d (PyData.int n)):=rfl
noncomputable def YK (f:List W->aA->Option (W×aA)):List W->XR W:=fun ws x h=>f ws h
@[simp] theorem dJ7 (f:List W->aA->Option (W×aA)):YK f=fun ws x h=>f ws h:=rfl
def YQ (k:DSt->Fl×aA->Option (Fl×aA)):Fl×aA->Option (Fl×aA):=fun p=>match p.1 with
  | Fl.nx δ'=>k δ' p
  | f=>some (f,p.2)
@[simp] theorem cC0 (k:DSt->Fl×aA->Option (Fl×aA)):YQ k=fun p=>match p.1 with
  | Fl.nx δ'=>k δ' p
  | f=>some (f,p.2):=rfl
def YP {α β:Type} (x:Option α) (f:α->Option β):Option β:=Option.bind x f
@[simp] theorem bB7 {α β:Type} (x:Option α) (f:α->Option β):YP x f=Option.bind x f:=rfl
def YG (i:Nat):XG:=fun w δ h=>some (List.set δ i (some w),h)
@[simp] theorem bB8 (i:Nat):YG i=fun w δ h=>some (List.set δ i (some w),h):=rfl
def YZ:XR W:=aC (W.d PyData.none)
@[simp] theorem dJ8:YZ=aC (W.d PyData.none):=rfl
noncomputable def YV (i:Nat) (n:Int):XR W:=xb (aB i) (YI n)
@[simp] theorem dJ9 (i:Nat) (n:Int):YV i n=xb (aB i) (YI n):=rfl
noncomputable def YL (s:String):W->XR W:=fun w x h=>match w with
  | W.c j=>match h[j]? with
    | some (Cell.o C fs)=>if Top.fo T C (Str.ofString s)=true then Option.map (fun (w:W)=>(w,h)) (List.lookup (Str.ofString s) fs) else none
    | x=>none
  | x=>none
@[simp] theorem dK0 (s:String):YL s=fun w x h=>match w with
  | W.c j=>match h[j]? with
    | some (Cell.o C fs)=>if Top.fo T C (Str.ofString s)=true then Option.map (fun (w:W)=>(w,h)) (List.lookup (Str.ofString s) fs) else none
    | x=>none
  | x=>none:=rfl
noncomputable def YM (s:String) (δ:DSt) (v:W):W×aA->Option (Fl×aA):=fun q=>match q.1 with
  | W.c j=>match (q.2)[j]? with
    | some (Cell.o C fs)=>if Top.fo T C (Str.ofString s)=true/\List.length fs < 1000 then some (Fl.nx δ,List.set (q.2) j (Cell.o C (jA (Str.ofString s) v fs))) else none
    | x=>none
  | x=>none
@[simp] theorem dK1 (s:String) (δ:DSt) (v:W):YM s δ v=fun q=>match q.1 with
  | W.c j=>match (q.2)[j]? with
    | some (Cell.o C fs)=>if Top.fo T C (Str.ofString s)=true/\List.length fs < 1000 then some (Fl.nx δ,List.set (q.2) j (Cell.o C (jA (Str.ofString s) v fs))) else none
    | x=>none
  | x=>none:=rfl
noncomputable def YA (e:XR (List W)):W->XR W:=fun w δ h=>if kA (Str.ofString "append") w h=true then Option.bind (e δ h) fun p=>match w,p.1 with
  | W.c j,[W.d x]=>match p.2[j]? with
    | some (Cell.l xs)=>if List.length xs < sizeLine then some (W.d PyData.none,List.set p.2 j (Cell.l (xs++[x]))) else none
    | x=>none
  | x,x_2=>none else none
@[simp] theorem dK2 (e:XR (List W)):YA e=fun w δ h=>if kA (Str.ofString "append") w h=true then Option.bind (e δ h) fun p=>match w,p.1 with
  | W.c j,[W.d x]=>match p.2[j]? with
    | some (Cell.l xs)=>if List.length xs < sizeLine then some (W.d PyData.none,List.set p.2 j (Cell.l (xs++[x]))) else none
    | x=>none
  | x,x_2=>none else none:=rfl
noncomputable def YR :W->XR (List PyData×Option Nat):=fun w x h=>match w with
  | W.d (PyData.int j)=>if gA 0 j=true then some ((rng 0 (Int.toNat j),none),h) else none
  | x=>none
@[simp] theorem dK3 :YR =fun w x h=>match w with
  | W.d (PyData.int j)=>if gA 0 j=true then some ((rng 0 (Int.toNat j),none),h) else none
  | x=>none:=rfl
noncomputable def YD :W->XR Bool:=fun w=>match w with
  | W.d (PyData.bool b)=>aC b
  | x=>xno
@[simp] theorem dK4 :YD =fun w=>match w with
  | W.d (PyData.bool b)=>aC b
  | x=>xno:=rfl
noncomputable def YU :W->XR (Option Int):=fun w=>match w with
  | W.d (PyData.int i)=>aC (some i)
  | x=>xno
@[simp] theorem dK5 :YU =fun w=>match w with
  | W.d (PyData.int i)=>aC (some i)
  | x=>xno:=rfl
noncomputable def YH (d:Nat) (s:String) (e:XR (List W)):W->XR W:=fun w δ h=>match w with
  | W.c j=>match h[j]? with
    | some (Cell.o C' fs)=>if C'=291/\List.lookup (Str.ofString s) fs=none then Option.bind (e δ h) fun p=>callM T d (Str.ofString s) (W.c j::p.1) p.2 else none
    | x=>none
  | x=>none
@[simp] theorem dK6 (d:Nat) (s:String) (e:XR (List W)):YH d s e=fun w δ h=>match w with
  | W.c j=>match h[j]? with
    | some (Cell.o C' fs)=>if C'=291/\List.lookup (Str.ofString s) fs=none then Option.bind (e δ h) fun p=>callM T d (Str.ofString s) (W.c j::p.1) p.2 else none
    | x=>none
  | x=>none:=rfl
noncomputable def YX (x:W):W->XR W:=fun y _ h=>xIx x y h
@[simp] theorem dK7 (x:W):YX x=fun y _ h=>xIx x y h:=rfl
noncomputable def YS3 (x:W) (l:Option Int):Option Int->XR W:=fun u _ h=>xSl x l u h
@[simp] theorem dH1 (x:W) (l:Option Int):YS3 x l=fun u _ h=>xSl x l u h:=rfl
noncomputable def YT2 (b:Bool) (δ:DSt):Bool×aA->Option (Fl×aA):=fun p=>if p.1=true then YP (YP (aC (W.d (PyData.bool b)) δ p.2) YW) YE else some (Fl.nx δ,p.2)
@[simp] theorem dH2 (b:Bool) (δ:DSt):YT2 b δ=fun p=>if p.1=true then YP (YP (aC (W.d (PyData.bool b)) δ p.2) YW) YE else some (Fl.nx δ,p.2):=rfl
noncomputable def YI2 (s:String):W->XR W:=fun w x h=>Option.bind (ref h w) fun d=>some (W.d (PyData.bool (isi d s)),h)
@[simp] theorem dH3 (s:String):YI2 s=fun w x h=>Option.bind (ref h w) fun d=>some (W.d (PyData.bool (isi d s)),h):=rfl
noncomputable def YNg :W->XR W:=fun w=>match w with
  | W.d (PyData.int i)=>aC (W.d (PyData.int (-i)))
  | x=>xno
@[simp] theorem dH4 :YNg =fun w=>match w with
  | W.d (PyData.int i)=>aC (W.d (PyData.int (-i)))
  | x=>xno:=rfl
noncomputable def Y1 (a:XR W):XR (List W):=xb a YN
@[simp] theorem dK8 (a:XR W):Y1 a=xb a YN:=rfl
noncomputable def Y2 (a b:XR W):XR (List W):=xb a fun w=>xb (Y1 b) (YC w)
@[simp] theorem dK9 (a b:XR W):Y2 a b=xb a fun w=>xb (Y1 b) (YC w):=rfl
noncomputable def Y3 (a b c:XR W):XR (List W):=xb a fun w=>xb (Y2 b c) (YC w)
@[simp] theorem dL0 (a b c:XR W):Y3 a b c=xb a fun w=>xb (Y2 b c) (YC w):=rfl
noncomputable def Y4 (a b c e:XR W):XR (List W):=xb a fun w=>xb (Y3 b c e) (YC w)
@[simp] theorem dL1 (a b c e:XR W):Y4 a b c e=xb a fun w=>xb (Y3 b c e) (YC w):=rfl
noncomputable def Y5 (a b c e f:XR W):XR (List W):=xb a fun w=>xb (Y4 b c e f) (YC w)
@[simp] theorem dL2 (a b c e f:XR W):Y5 a b c e f=xb a fun w=>xb (Y4 b c e f) (YC w):=rfl
noncomputable def Y6 (a b c e f g:XR W):XR (List W):=xb a fun w=>xb (Y5 b c e f g) (YC w)
@[simp] theorem dL3 (a b c e f g:XR W):Y6 a b c e f g=xb a fun w=>xb (Y5 b c e f g) (YC w):=rfl
noncomputable def Y7 (a b c e f g i:XR W):XR (List W):=xb a fun w=>xb (Y6 b c e f g i) (YC w)
@[simp] theorem dL4 (a b c e f g i:XR W):Y7 a b c e f g i=xb a fun w=>xb (Y6 b c e f g i) (YC w):=rfl
theorem vD (d:Nat) (w0:W) (h:aA):aD T (d+1) "is_whole" [w0] h =
 YP
 (YP
 (YP
 (xb (xb (aB 0) (YI2 "int"))
 (fun (w:W) =>
 match w with
     | W.d (PyData.bool true) =>
      xb (xb (aB 0) (YI2 "bool")) fun (w:W) =>
 match w with
       | W.d (PyData.bool b)=>aC (W.d (PyData.bool !b))
       | x=>xno
     | W.d (PyData.bool false)=>aC (W.d (PyData.bool false))
     | x=>xno)
 [some w0] h)
 YW)
 YE)
 (ends h):=by kernel_rfl
theorem qE (d:Nat) (w0 w1 w2:W) (h:aA):aD T (d+1) "is_between" [w0,w1,w2] h =
 YP
 (YP
 (YP
 (xb (xb (Y1 (aB 0)) (YF d "is_whole"))
 (fun (w:W) =>
 match w with
     | W.d (PyData.bool true)=>cE (xC2 CmpOp.LtE CmpOp.LtE (aB 1) (aB 0) (aB 2))
     | W.d (PyData.bool false)=>aC (W.d (PyData.bool false))
     | x=>xno)
 [some w0,some w1,some w2] h)
 YW)
 YE)
 (ends h):=by kernel_rfl
theorem mQ (d:Nat) (w0 w1:W) (h:aA):aD T (d+1) "is_tuple_of" [w0,w1] h =
 YP
 (YP
 (YP
 (xb (xb (aB 0) (YI2 "tuple"))
 (fun (w:W) =>
 match w with
     | W.d (PyData.bool true)=>cE (xC1 CmpOp.Eq (xb (Y1 (aB 0)) (YK cD)) (aB 1))
     | W.d (PyData.bool false)=>aC (W.d (PyData.bool false))
     | x=>xno)
 [some w0,some w1] h)
 YW)
 YE)
 (ends h):=by kernel_rfl
theorem sV (d:Nat) (w0:W) (h:aA):aD T (d+1) "are_whole" [w0] h =
 YP
 (YP (YP (xb (Y1 (aQ (xb (bU (aB 0)) fun p δ h=>aO (YG 0) (aC true) (xb (Y1 (aB 0)) (YF d "is_whole")) p.2 p.1 p.1 (aW [none] δ) h []))) (YK iI) [some w0] h) YW) YE)
 (ends h):=by kernel_rfl
theorem qF (d:Nat) (w0:W) (h:aA):aD T (d+1) "are_rising" [w0] h =
 YP
 (YP
 (YP
 (xb
 (Y1 (aQ
 (xb
 (xb (xb (xb (Y1 (aB 0)) (YK cD)) (YB .Sub 1)) YR)
 fun p δ h=>aO (YG 0) (aC true) (cE (xC1 CmpOp.Lt (xb (aB 1) fun x=>xb (aB 0) (YX x)) (xb (aB 1) fun x=>xb (xb (aB 0) (YB .Add 1)) (YX x)))) p.2 p.1 p.1 (aW [none,some 0] δ) h [])))
 (YK iI) [some w0] h)
 YW)
 YE)
 (ends h):=by kernel_rfl
theorem aN6 (d:Nat) (w0:W) (h:aA):aD T (d+1) "is_key" [w0] h =
 YP
 (YP (YP (xb (Y3 (aB 0) (YJ 0) (YJ 7)) ((YF d "is_between")) [some w0] h) YW) YE)
 (ends h):=by kernel_rfl
theorem zY (d:Nat) (w0:W) (h:aA):aD T (d+1) "word_of" [w0] h =
 YP
 (YP
 (YP
 (xb
 (xb (xb (aB 0) (YI2 "tuple")) YD)
 (fun c =>
 if c=true then
 xb (xC1 CmpOp.Gt (xb (Y1 (aB 0)) (YK cD)) (YJ 0)) fun c =>
 if c=true then
 xb (xb (YV 0 0) (YI2 "str")) YD
 else aC false
 else aC false)
 [some w0] h)
 fun p =>
 if p.1=true then
 YP (YP (xb (aB 0) (YI 0) [some w0] p.2) YW) YE
 else some (Fl.nx [some w0],p.2))
 (YQ fun δ' p =>
 YP (YP (YZ δ' p.2) YW) YE))
 (ends h):=by kernel_rfl
theorem sW (d:Nat) (w0 w1 w2:W) (h:aA):aD T (d+1) "is_worded" [w0,w1,w2] h =
 YP
 (YP
 (YP
 (xb (cE (xC1 CmpOp.Eq (xb (Y1 (aB 0)) (YF d "word_of")) (aB 1)))
 (fun (w:W) =>
 match w with
     | W.d (PyData.bool true)=>cE (xC1 CmpOp.Eq (xb (Y1 (aB 0)) (YK cD)) (aB 2))
     | W.d (PyData.bool false)=>aC (W.d (PyData.bool false))
     | x=>xno)
 [some w0,some w1,some w2] h)
 YW)
 YE)
 (ends h):=by kernel_rfl
theorem sX (d:Nat) (w0:W) (h:aA):aD T (d+1) "is_single" [w0] h =
 YP
 (YP (aZ 1 (xb (Y1 (aB 0)) (YF d "word_of")) [some w0,none] h) (YQ fun δ' p =>
   YP
    (YP
     (xb (oB (fun (z:Str)=>List.lookup z [(Str.ofString "read",0),(Str.ofString "write",1),(Str.ofString "add",1),(Str.ofString "swap",2)]) (aB 1))
      (fun c =>
       if c=true then aC true
       else
        xC1 CmpOp.NotEq (xb (Y1 (aB 0)) (YK cD))
         (xb (YJ 2) fun (u:W) =>
          xb
           (xb (aB 1) fun (w:W) =>
            match w with
            | W.d (PyData.str z) =>
             match List.lookup z [(Str.ofString "read",0),(Str.ofString "write",1),(Str.ofString "add",1),(Str.ofString "swap",2)] with
             | some i=>aC (W.d (PyData.int i))
             | none=>xno
            | x=>xno)
           (YO .Add u)))
      δ' p.2)
     (YT2 false δ'))
    (YQ fun δ' p =>
     YP
      (YP
       (xb (xb (Y1 (YV 0 1)) (YF d "is_key"))
        (fun (w:W) =>
         match w with
         | W.d (PyData.bool true) =>
          xb
           (Y1 (xb (aB 0) fun (x:W) =>
             xb
              (xb (YJ 2) YU)
              fun (l:Option Int)=>xb (aC none) (YS3 x l)))
           (YF d "are_whole")
         | W.d (PyData.bool false)=>aC (W.d (PyData.bool false))
         | x=>xno)
        δ' p.2)
       YW)
      YE)))
 (ends h):=by kernel_rfl
theorem zZ (d:Nat) (w0:W) (h:aA):aD T (d+1) "is_span" [w0] h =
 YP
 (YP
 (YP
 (xb
 (xb
 (xb (xb (Y3 (aB 0) (YS "span") (YJ 3)) (YF d "is_worded")) YD)
 fun (b:Bool)=>aC !b)
 (fun c =>
 if c=true then aC true
 else
 xb
 (xb
 (xb
 (Y1 (xb (aB 0) fun (x:W) =>
 xb
 (xb (YJ 1) YU)
 fun (l:Option Int)=>xb (aC none) (YS3 x l)))
 (YF d "are_whole"))
 YD)
 fun (b:Bool)=>aC !b)
 [some w0] h)
 (YT2 false [some w0]))
 (YQ fun δ' p =>
 YP (YP (cE (xC3 CmpOp.LtE CmpOp.Lt CmpOp.LtE (YJ 0) (YV 0 1) (YV 0 2) (xb (YJ 7) (YB .Add 1))) δ' p.2) YW) YE))
 (ends h):=by kernel_rfl
theorem aA0 (d:Nat) (w0:W) (h:aA):aD T (d+1) "is_deal" [w0] h =
 YP
 (YP
 (YP
 (xb
 (xb
 (xb (xb (Y3 (aB 0) (YS "deal") (YJ 2)) (YF d "is_worded")) YD)
 fun (b:Bool)=>aC !b)
 (fun c =>
 if c=true then aC true
 else
 xb
 (xb (xb (YV 0 1) (YI2 "tuple")) YD)
 fun (b:Bool)=>aC !b)
 [some w0] h)
 (YT2 false [some w0]))
 (YQ fun δ' p =>
 YP
 (YP
 (xb (cE (xC2 CmpOp.LtE CmpOp.LtE (YJ 1) (xb (Y1 (YV 0 1)) (YK cD)) (YJ 4)))
 (fun (w:W) =>
 match w with
       | W.d (PyData.bool true)=>xb (Y1 (aQ (xb (bU (YV 0 1)) fun p δ h=>aO (YG 0) (aC true) (xb (Y1 (aB 0)) (YF d "is_single")) p.2 p.1 p.1 (aW [none] δ) h []))) (YK iI)
       | W.d (PyData.bool false)=>aC (W.d (PyData.bool false))
       | x=>xno)
 δ' p.2)
 YW)
 YE))
 (ends h):=by kernel_rfl
theorem aA1 (d:Nat) (w0:W) (h:aA):aD T (d+1) "is_call" [w0] h =
 YP
 (YP
 (YP
 (xb (xb (Y1 (aB 0)) (YF d "is_single"))
 (fun (w:W) =>
 match w with
     | W.d (PyData.bool true)=>aC (W.d (PyData.bool true))
     | W.d (PyData.bool false) =>
      xb (xb (Y1 (aB 0)) (YF d "is_span")) fun (w:W) =>
 match w with
       | W.d (PyData.bool true)=>aC (W.d (PyData.bool true))
       | W.d (PyData.bool false)=>xb (Y1 (aB 0)) (YF d "is_deal")
       | x=>xno
     | x=>xno)
 [some w0] h)
 YW)
 YE)
 (ends h):=by kernel_rfl
theorem aA2 (d:Nat) (w0:W) (h:aA):aD T (d+1) "is_look" [w0] h =
 YP
 (YP
 (YP
 (xb (xb (Y3 (aB 0) (YS "look") (YJ 2)) (YF d "is_worded"))
 (fun (w:W) =>
 match w with
     | W.d (PyData.bool true)=>xb (Y1 (YV 0 1)) (YF d "is_call")
     | W.d (PyData.bool false)=>aC (W.d (PyData.bool false))
     | x=>xno)
 [some w0] h)
 YW)
 YE)
 (ends h):=by kernel_rfl
theorem kC (d:Nat) (w0:W) (h:aA):aD T (d+1) "is_value_pair" [w0] h =
 YP
 (YP
 (YP
 (xb (xb (Y2 (aB 0) (YJ 2)) (YF d "is_tuple_of"))
 (fun (w:W) =>
 match w with
     | W.d (PyData.bool true) =>
      xb (xb (Y1 (YV 0 0)) (YF d "is_key")) fun (w:W) =>
 match w with
       | W.d (PyData.bool true)=>xb (Y1 (YV 0 1)) (YF d "is_whole")
       | W.d (PyData.bool false)=>aC (W.d (PyData.bool false))
       | x=>xno
     | W.d (PyData.bool false)=>aC (W.d (PyData.bool false))
     | x=>xno)
 [some w0] h)
 YW)
 YE)
 (ends h):=by kernel_rfl
theorem aN7 (d:Nat) (w0:W) (h:aA):aD T (d+1) "is_lay" [w0] h =
 YP
 (YP
 (YP
 (xb
 (xb
 (xb (xb (Y3 (aB 0) (YS "lay") (YJ 2)) (YF d "is_worded")) YD)
 fun (b:Bool)=>aC !b)
 (fun c =>
 if c=true then aC true
 else
 xb
 (xb
 (xb (xb (YV 0 1) (YI2 "tuple")) YD)
 fun (b:Bool)=>aC !b)
 fun c=>if c=true then aC true else xC1 CmpOp.Eq (xb (Y1 (YV 0 1)) (YK cD)) (YJ 0))
 [some w0] h)
 (YT2 false [some w0]))
 (YQ fun δ' p =>
 YP
 (YP
 (xb
 (xb (xb (Y1 (aQ (xb (bU (YV 0 1)) fun p δ h=>aO (YG 0) (aC true) (xb (Y1 (aB 0)) (YF d "is_value_pair")) p.2 p.1 p.1 (aW [none] δ) h []))) (YK iI)) YD)
 (fun (b:Bool)=>aC !b) δ' p.2)
 (YT2 false δ'))
 (YQ fun δ' p =>
 YP (YP (xb (Y1 (aQ (xb (bU (YV 0 1)) fun p δ h=>aO (YG 0) (aC true) (YV 0 0) p.2 p.1 p.1 (aW [none] δ) h []))) ((YF d "are_rising")) δ' p.2) YW) YE)))
 (ends h):=by kernel_rfl
theorem aA3 (d:Nat) (w0:W) (h:aA):aD T (d+1) "is_step" [w0] h =
 YP
 (YP
 (YP
 (xb (xb (Y1 (aB 0)) (YF d "is_call"))
 (fun (w:W) =>
 match w with
     | W.d (PyData.bool true)=>aC (W.d (PyData.bool true))
     | W.d (PyData.bool false) =>
      xb (xb (Y1 (aB 0)) (YF d "is_look")) fun (w:W) =>
 match w with
       | W.d (PyData.bool true)=>aC (W.d (PyData.bool true))
       | W.d (PyData.bool false)=>xb (Y1 (aB 0)) (YF d "is_lay")
       | x=>xno
     | x=>xno)
 [some w0] h)
 YW)
 YE)
 (ends h):=by kernel_rfl
theorem gC (d:Nat) (w0 w1:W) (h:aA):aD T (d+1) "is_answer" [w0,w1] h =
 YP
 (YP
 (YP
 (xb
 (xb (xb (Y1 (aB 0)) (YF d "is_step")) YD)
 (fun (b:Bool)=>aC !b) [some w0,some w1] h)
 (YT2 false [some w0,some w1]))
 (YQ fun δ' p =>
 YP
 (YP
 (xb (xb (Y3 (aB 1) (YS "refused") (YJ 1)) (YF d "is_worded"))
 (YD)
 δ' p.2)
 fun p =>
 if p.1=true then
 YP (YP (xb (Y1 (aB 0)) ((YF d "is_call")) δ' p.2) YW) YE
 else some (Fl.nx δ',p.2))
 (YQ fun δ' p =>
 YP (YP (xb (Y2 (aB 0) (aB 1)) ((YF d "is_own_answer")) δ' p.2) YW) YE)))
 (ends h):=by kernel_rfl
theorem aV (d:Nat) (w0 w1:W) (h:aA):aD T (d+1) "is_own_answer" [w0,w1] h =
 YP
 (YP (aZ 2 (YV 0 0) [some w0,some w1,none] h) (YQ fun δ' p =>
 YP
 (YP (xC1 CmpOp.In (aB 2) (xb (xPl (Y2 (YS "read") (YS "add"))) YT) δ' p.2) fun p =>
 if p.1=true then
 YP
 (YP
 (xb (xb (Y3 (aB 1) (YS "got") (YJ 2)) (YF d "is_worded"))
 (fun (w:W) =>
 match w with
          | W.d (PyData.bool true)=>xb (Y1 (YV 1 1)) (YF d "is_whole")
          | W.d (PyData.bool false)=>aC (W.d (PyData.bool false))
          | x=>xno)
 δ' p.2)
 YW)
 YE
 else some (Fl.nx δ',p.2))
 (YQ fun δ' p =>
 YP
 (YP (xC1 CmpOp.In (aB 2) (xb (xPl (Y2 (YS "write") (YS "lay"))) YT) δ' p.2) fun p =>
 if p.1=true then
 YP (YP (xb (Y3 (aB 1) (YS "done") (YJ 1)) ((YF d "is_worded")) δ' p.2) YW) YE
 else some (Fl.nx δ',p.2))
 (YQ fun δ' p =>
 YP
 (YP (xC1 CmpOp.Eq (aB 2) (YS "swap") δ' p.2) fun p =>
 if p.1=true then
 YP
 (YP
 (xb (xb (Y3 (aB 1) (YS "yes") (YJ 1)) (YF d "is_worded"))
 (fun (w:W) =>
 match w with
              | W.d (PyData.bool true)=>aC (W.d (PyData.bool true))
              | W.d (PyData.bool false)=>xb (Y3 (aB 1) (YS "no") (YJ 1)) (YF d "is_worded")
              | x=>xno)
 δ' p.2)
 YW)
 YE
 else some (Fl.nx δ',p.2))
 (YQ fun δ' p =>
 YP
 (YP (xC1 CmpOp.Eq (aB 2) (YS "span") δ' p.2) fun p =>
 if p.1=true then
 YP
 (YP
 (xb (xb (Y3 (aB 1) (YS "all") (YJ 2)) (YF d "is_worded"))
 (fun (w:W) =>
 match w with
                | W.d (PyData.bool true) =>
                 xb (xb (Y2 (YV 1 1) (xb (YV 0 2) fun u=>xb (YV 0 1) (YO .Sub u))) (YF d "is_tuple_of")) fun (w:W) =>
 match w with
                  | W.d (PyData.bool true)=>xb (Y1 (YV 1 1)) (YF d "are_whole")
                  | W.d (PyData.bool false)=>aC (W.d (PyData.bool false))
                  | x=>xno
                | W.d (PyData.bool false)=>aC (W.d (PyData.bool false))
                | x=>xno)
 δ' p.2)
 YW)
 YE
 else some (Fl.nx δ',p.2))
 (YQ fun δ' p =>
 YP
 (YP (xC1 CmpOp.Eq (aB 2) (YS "look") δ' p.2) fun p =>
 if p.1=true then
 YP (YP (xb (Y2 (YV 0 1) (aB 1)) ((YF d "is_own_answer")) δ' p.2) YW) YE
 else some (Fl.nx δ',p.2))
 (YQ fun δ' p =>
 YP
 (YP
 (xb
 (xb
 (xb (xb (Y3 (aB 1) (YS "each") (YJ 2)) (YF d "is_worded")) YD)
 fun (b:Bool)=>aC !b)
 (fun c =>
 if c=true then aC true
 else
 xb
 (xb (xb (Y2 (YV 1 1) (xb (Y1 (YV 0 1)) (YK cD))) (YF d "is_tuple_of")) YD)
 fun (b:Bool)=>aC !b)
 δ' p.2)
 (YT2 false δ'))
 (YQ fun δ' p =>
 YP
 (YP
 (xb
 (Y1 (aQ
 (xb
 (xb (YV 0 1) fun (u:W) =>
 xb (YV 1 1) fun (w:W) (x:DSt) (h:aA) =>
 match fZ u,fZ w with
                       | some xs,some ys=>some ((lF xs ys,none),h)
                       | x,x_1=>none)
 fun p δ h=>aO (eX [YG 0,YG 1]) (aC true) (xb (Y2 (aB 0) (aB 1)) (YF d "is_own_answer")) p.2 p.1 p.1 (aW [none,none] δ) h [])))
 (YK iI) δ' p.2)
 YW)
 YE))))))))
 (ends h):=by kernel_rfl
theorem vE (d:Nat) (w0:W) (h:aA):aD T (d+1) "is_stand" [w0] h =
 YP
 (YP
 (YP
 (xb (xb (Y2 (aB 0) (xb (Y1 (aC (W.d (PyData.tuple (List.reverse [PyData.int 0,PyData.int 0,PyData.int 0,PyData.int 0,PyData.int 0,PyData.int 0,PyData.int 0,PyData.int 0]))))) (YK cD))) (YF d "is_tuple_of"))
 (fun (w:W) =>
 match w with
     | W.d (PyData.bool true)=>xb (Y1 (aB 0)) (YF d "are_whole")
     | W.d (PyData.bool false)=>aC (W.d (PyData.bool false))
     | x=>xno)
 [some w0] h)
 YW)
 YE)
 (ends h):=by kernel_rfl
theorem qG (d:Nat) (w0 w1 w2:W) (h:aA):aD T (d+1) "with_value" [w0,w1,w2] h =
 YP
 (YP
 (YP
 (xb
 (xb
 (xb (aB 0) fun (x:W) =>
 xb (aC none) fun (l:Option Int) =>
 xb
 (xb (aB 1) YU)
 (YS3 x l))
 fun u=>xb (xb (xPl (Y1 (aB 2))) YT) (YO .Add u))
 (fun (u:W) =>
 xb
 (xb (aB 0) fun (x:W) =>
 xb
 (xb (xb (aB 1) (YB .Add 1)) YU)
 fun (l:Option Int)=>xb (aC none) (YS3 x l))
 (YO .Add u))
 [some w0,some w1,some w2] h)
 YW)
 YE)
 (ends h):=by kernel_rfl
theorem lV (d:Nat) (w0 w1:W) (h:aA):aD T (d+1) "done" [w0,w1] h =
 YP
 (YP (aZ 2 (YV 1 0) [some w0,some w1,none] h) (YQ fun δ' p =>
 YP
 (YP (xC1 CmpOp.Eq (aB 2) (YS "span") δ' p.2) fun p =>
 if p.1=true then
 YP
 (YP
 (xb
 (xPl
 (Y2 (xb
 (xPl
 (Y2 (YS "all") (xb (aB 0) fun (x:W) =>
 xb
 (xb (YV 1 1) YU)
 fun (l:Option Int) =>
 xb
 (xb (YV 1 2) YU)
 (YS3 x l))))
 YT) (aB 0)))
 (YT) δ' p.2)
 YW)
 YE
 else some (Fl.nx δ',p.2))
 (YQ fun δ' p =>
 YP
 (YP (xC1 CmpOp.Eq (aB 2) (YS "deal") δ' p.2) fun p =>
 if p.1=true then
 YP (YP (xb (Y2 (aB 0) (YV 1 1)) ((YF d "deal_done")) δ' p.2) YW) YE
 else some (Fl.nx δ',p.2))
 (YQ fun δ' p =>
 YP
 (YP (xC1 CmpOp.Eq (aB 2) (YS "look") δ' p.2) fun p =>
 if p.1=true then
 YP (YP (xb (xPl (Y2 (xb (xb (Y2 (aB 0) (YV 1 1)) (YF d "done")) (YI 0)) (aB 0))) (YT) δ' p.2) YW) YE
 else some (Fl.nx δ',p.2))
 (YQ fun δ' p =>
 YP
 (YP (xC1 CmpOp.Eq (aB 2) (YS "lay") δ' p.2) fun p =>
 if p.1=true then
 YP (YP (xb (xPl (Y2 (xb (xPl (Y1 (YS "done"))) YT) (xb (Y2 (aB 0) (YV 1 1)) (YF d "laid")))) (YT) δ' p.2) YW) YE
 else some (Fl.nx δ',p.2))
 (YQ fun δ' p =>
 YP (YP (xb (Y2 (aB 0) (aB 1)) ((YF d "single_done")) δ' p.2) YW) YE))))))
 (ends h):=by kernel_rfl
theorem cF (d:Nat) (w0 w1:W) (h:aA):aD T (d+1) "single_done" [w0,w1] h =
 YP
 (YP (aZ 2 (YV 1 0) [some w0,some w1,none,none,none] h) (YQ fun δ' p =>
 YP (aZ 3 (YV 1 1) δ' p.2) (YQ fun δ' p =>
 YP (aZ 4 (xb (aB 0) fun x=>xb (aB 3) (YX x)) δ' p.2) (YQ fun δ' p =>
 YP
 (YP (xC1 CmpOp.Eq (aB 2) (YS "write") δ' p.2) fun p =>
 if p.1=true then
 YP (YP (xb (xPl (Y2 (xb (xPl (Y1 (YS "done"))) YT) (xb (Y3 (aB 0) (aB 3) (YV 1 2)) (YF d "with_value")))) (YT) δ' p.2) YW) YE
 else some (Fl.nx δ',p.2))
 (YQ fun δ' p =>
 YP
 (YP (xC1 CmpOp.Eq (aB 2) (YS "add") δ' p.2) fun p =>
 if p.1=true then
 YP (YP (xb (xPl (Y2 (xb (xPl (Y2 (YS "got") (xb (aB 4) fun u=>xb (YV 1 2) (YO .Add u)))) YT) (xb (Y3 (aB 0) (aB 3) (xb (aB 4) fun u=>xb (YV 1 2) (YO .Add u))) (YF d "with_value")))) (YT) δ' p.2) YW) YE
 else some (Fl.nx δ',p.2))
 (YQ fun δ' p =>
 YP
 (YP (xb (xC1 CmpOp.Eq (aB 2) (YS "swap")) (fun c=>if c=true then xC1 CmpOp.Eq (aB 4) (YV 1 2) else aC false) δ' p.2) fun p =>
 if p.1=true then
 YP (YP (xb (xPl (Y2 (xb (xPl (Y1 (YS "yes"))) YT) (xb (Y3 (aB 0) (aB 3) (YV 1 3)) (YF d "with_value")))) (YT) δ' p.2) YW) YE
 else some (Fl.nx δ',p.2))
 (YQ fun δ' p =>
 YP
 (YP (xC1 CmpOp.Eq (aB 2) (YS "swap") δ' p.2) fun p =>
 if p.1=true then
 YP (YP (xb (xPl (Y2 (xb (xPl (Y1 (YS "no"))) YT) (aB 0))) (YT) δ' p.2) YW) YE
 else some (Fl.nx δ',p.2))
 (YQ fun δ' p =>
 YP (YP (xb (xPl (Y2 (xb (xPl (Y2 (YS "got") (aB 4))) YT) (aB 0))) (YT) δ' p.2) YW) YE))))))))
 (ends h):=by kernel_rfl
theorem sY (d:Nat) (w0 w1:W) (h:aA):aD T (d+1) "deal_done" [w0,w1] h =
 YP
 (YP (aZ 2 (bR (xPl (aC []))) [some w0,some w1,none,none,none] h) (YQ fun δ' p =>
 YP
 (YP (bU (aB 1) δ' p.2) fun (p:(List PyData×Option Nat)×aA) =>
 cI (YG 3)
 (fun (x:DSt) (x_1:aA) =>
 YP (aZ 4 (xb (Y2 (aB 0) (aB 3)) (YF d "single_done")) x x_1) (YQ fun δ' p =>
 YP
 (YP
 (xb (aB 2)
 ((YA (Y1 (YV 4 0))))
 δ' p.2)
 fun p=>some (Fl.nx δ',p.2))
 (YQ fun δ' p =>
 YP (aZ 0 (YV 4 1) δ' p.2) YE)))
 (Prod.snd p.1) (Prod.fst p.1) (Prod.fst p.1) δ' p.2)
 (YQ fun δ' p =>
 YP (YP (xb (xPl (Y2 (xb (xPl (Y2 (YS "each") (xb (Y1 (aB 2)) (YK bY)))) YT) (aB 0))) (YT) δ' p.2) YW) YE)))
 (ends h):=by kernel_rfl
theorem cC1 (d:Nat) (w0 w1:W) (h:aA):aD T (d+1) "laid" [w0,w1] h =
 YP
 (YP
 (YP (bU (aB 1) [some w0,some w1,none,none] h) fun (p:(List PyData×Option Nat)×aA) =>
 cI (eX [YG 2,YG 3])
 (fun (x:DSt) (x_1:aA) =>
 YP (aZ 0 (xb (Y3 (aB 0) (aB 2) (aB 3)) (YF d "with_value")) x x_1) YE)
 (Prod.snd p.1) (Prod.fst p.1) (Prod.fst p.1) [some w0,some w1,none,none] p.2)
 (YQ fun δ' p =>
 YP (YP (aB 0 δ' p.2) YW) YE))
 (ends h):=by kernel_rfl
theorem oJ (d:Nat) (w0:W) (h:aA):aD T (d+1) "is_item" [w0] h =
 YP
 (YP
 (YP
 (xb
 (xb
 (xb (xb (Y2 (aB 0) (YJ 3)) (YF d "is_tuple_of")) YD)
 fun (b:Bool)=>aC !b)
 (fun c =>
 if c=true then aC true
 else
 xb
 (xb (xb (Y1 (YV 0 0)) (YF d "is_step")) YD)
 fun (b:Bool)=>aC !b)
 [some w0] h)
 (YT2 false [some w0]))
 (YQ fun δ' p =>
 YP
 (YP
 (xb (xC1 CmpOp.IsNot (YV 0 1) (YZ))
 (fun c =>
 if c=true then
 xb
 (xb (xb (Y2 (YV 0 0) (YV 0 1)) (YF d "is_answer")) YD)
 fun (b:Bool)=>aC !b
 else aC false)
 δ' p.2)
 (YT2 false δ'))
 (YQ fun δ' p =>
 YP
 (YP
 (xb (xb (YV 0 2) (YI2 "str"))
 (fun (w:W) =>
 match w with
         | W.d (PyData.bool true)=>cE (xC1 CmpOp.In (YV 0 2) (aC (W.d (PyData.tuple (List.reverse [PyData.str (Str.ofString "out"),PyData.str (Str.ofString "may"),PyData.str (Str.ofString "must")])))))
         | W.d (PyData.bool false)=>aC (W.d (PyData.bool false))
         | x=>xno)
 δ' p.2)
 YW)
 YE)))
 (ends h):=by kernel_rfl
theorem sZ (d:Nat) (w0:W) (h:aA):aD T (d+1) "are_items" [w0] h =
 YP
 (YP
 (YP
 (xb (xb (aB 0) (YI2 "tuple"))
 (fun (w:W) =>
 match w with
     | W.d (PyData.bool true) =>
      xb (cE (xC1 CmpOp.LtE (xb (Y1 (aB 0)) (YK cD)) (YJ 120))) fun (w:W) =>
 match w with
       | W.d (PyData.bool true)=>xb (Y1 (aQ (xb (bU (aB 0)) fun p δ h=>aO (YG 0) (aC true) (xb (Y1 (aB 0)) (YF d "is_item")) p.2 p.1 p.1 (aW [none] δ) h []))) (YK iI)
       | W.d (PyData.bool false)=>aC (W.d (PyData.bool false))
       | x=>xno
     | W.d (PyData.bool false)=>aC (W.d (PyData.bool false))
     | x=>xno)
 [some w0] h)
 YW)
 YE)
 (ends h):=by kernel_rfl
theorem mR (d:Nat) (w0 w1:W) (h:aA):aD T (d+1) "are_numbers" [w0,w1] h =
 YP
 (YP (YP (xb (Y1 (aQ (xb (bU (aB 0)) fun p δ h=>aO (YG 0) (aC true) (xb (Y3 (aB 0) (YJ 0) (xb (aB 1) (YB .Sub 1))) (YF d "is_between")) p.2 p.1 p.1 (aW [none,some 1] δ) h []))) (YK iI) [some w0,some w1] h) YW) YE)
 (ends h):=by kernel_rfl
theorem qH (d:Nat) (w0 w1 w2:W) (h:aA):aD T (d+1) "are_unlike" [w0,w1,w2] h =
 YP
 (YP
 (YP
 (xb (xb (Y2 (aB 0) (aB 1)) (YF d "is_tuple_of"))
 (fun (w:W) =>
 match w with
     | W.d (PyData.bool true) =>
      xb (xb (Y2 (aB 0) (aB 2)) (YF d "are_numbers")) fun (w:W) =>
 match w with
       | W.d (PyData.bool true)=>cE (xC1 CmpOp.Eq (xb (Y1 (aB 0)) fun (ws:List W) (x:DSt) (h:aA)=>xLS ws h) (aB 1))
       | W.d (PyData.bool false)=>aC (W.d (PyData.bool false))
       | x=>xno
     | W.d (PyData.bool false)=>aC (W.d (PyData.bool false))
     | x=>xno)
 [some w0,some w1,some w2] h)
 YW)
 YE)
 (ends h):=by kernel_rfl
theorem tD (d:Nat) (w0 w1:W) (h:aA):aD T (d+1) "are_pairs" [w0,w1] h =
 YP
 (YP
 (YP
 (xb
 (xb
 (xb (xb (aB 0) (YI2 "tuple")) YD)
 fun (b:Bool)=>aC !b)
 (fun c=>if c=true then aC true else xC1 CmpOp.Gt (xb (Y1 (aB 0)) (YK cD)) (YJ 4000)) [some w0,some w1] h)
 (YT2 false [some w0,some w1]))
 (YQ fun δ' p =>
 YP (YP (xb (Y1 (aQ (xb (bU (aB 0)) fun p δ h=>aO (YG 0) (aC true) (xb (Y3 (aB 0) (YJ 2) (aB 1)) (YF d "are_unlike")) p.2 p.1 p.1 (aW [none,some 1] δ) h []))) (YK iI) δ' p.2) YW) YE))
 (ends h):=by kernel_rfl
theorem mS (d:Nat) (w0 w1:W) (h:aA):aD T (d+1) "are_triples" [w0,w1] h =
 YP
 (YP
 (YP
 (xb
 (xb
 (xb (xb (aB 0) (YI2 "tuple")) YD)
 fun (b:Bool)=>aC !b)
 (fun c=>if c=true then aC true else xC1 CmpOp.Gt (xb (Y1 (aB 0)) (YK cD)) (YJ 4000)) [some w0,some w1] h)
 (YT2 false [some w0,some w1]))
 (YQ fun δ' p =>
 YP
 (YP
 (xb
 (xb (xb (Y1 (aQ (xb (bU (aB 0)) fun p δ h=>aO (YG 0) (aC true) (xb (Y3 (aB 0) (YJ 3) (xb (Y1 (aB 1)) (YK cD))) (YF d "are_unlike")) p.2 p.1 p.1 (aW [none,some 1] δ) h []))) (YK iI)) YD)
 (fun (b:Bool)=>aC !b) δ' p.2)
 (YT2 false δ'))
 (YQ fun δ' p =>
 YP
 (YP
 (xb
 (Y1 (aQ
 (xb (bU (aB 0)) fun p δ h =>
 aO (eX [YG 0,YG 1,YG 2]) (aC true)
 (xb (cE (xC1 CmpOp.Eq (xb (xb (aB 3) fun x=>xb (aB 0) (YX x)) (YI 2)) (YS "must"))) fun (w:W) =>
 match w with
             | W.d (PyData.bool true)=>cE (xC1 CmpOp.Eq (xb (xb (aB 3) fun x=>xb (aB 1) (YX x)) (YI 2)) (YS "must"))
             | W.d (PyData.bool false)=>aC (W.d (PyData.bool false))
             | x=>xno)
 p.2 p.1 p.1 (aW [none,none,none,some 1] δ) h [])))
 (YK iI) δ' p.2)
 YW)
 YE)))
 (ends h):=by kernel_rfl
theorem qI (d:Nat) (w0:W) (h:aA):aD T (d+1) "is_problem" [w0] h =
 YP
 (YP
 (YP
 (xb
 (xb
 (xb (xb (Y2 (aB 0) (YJ 4)) (YF d "is_tuple_of")) YD)
 fun (b:Bool)=>aC !b)
 (fun c =>
 if c=true then aC true
 else
 xb
 (xb
 (xb (xb (Y1 (YV 0 0)) (YF d "is_stand")) YD)
 fun (b:Bool)=>aC !b)
 fun c =>
 if c=true then aC true
 else
 xb
 (xb (xb (Y1 (YV 0 1)) (YF d "are_items")) YD)
 fun (b:Bool)=>aC !b)
 [some w0] h)
 (YT2 false [some w0]))
 (YQ fun δ' p =>
 YP
 (YP
 (xb (xb (Y2 (YV 0 2) (xb (Y1 (YV 0 1)) (YK cD))) (YF d "are_pairs"))
 (fun (w:W) =>
 match w with
       | W.d (PyData.bool true)=>xb (Y2 (YV 0 3) (YV 0 1)) (YF d "are_triples")
       | W.d (PyData.bool false)=>aC (W.d (PyData.bool false))
       | x=>xno)
 δ' p.2)
 YW)
 YE))
 (ends h):=by kernel_rfl
theorem kD (d:Nat) (w0:W) (h:aA):aD T (d+1) "check_problem" [w0] h =
 YP
 (YP
 (YP
 (xb
 (xb (xb (Y1 (aB 0)) (YF d "is_problem")) YD)
 (fun (b:Bool)=>aC !b) [some w0] h)
 fun p =>
 if p.1=true then
 YP none YE
 else some (Fl.nx [some w0],p.2))
 YE)
 (ends h):=by kernel_rfl
theorem aN8 (d:Nat) (w0 w1 w2:W) (h:aA):aD T (d+1) "behind" [w0,w1,w2] h =
 YP
 (YP
 (YP
 (xb (xb (Y1 (aB 0)) fun (ws:List W) (x:DSt) (h:aA)=>callW T d (Str.ofString "ways_of") ws h)
 ((YH d "stand_behind" (Y2 (aB 1) (aB 2))))
 [some w0,some w1,some w2] h)
 YW)
 YE)
 (ends h):=by kernel_rfl
theorem lW (d:Nat) (w0 w1:W) (h:aA):aD T (d+1) "_law_cell_at" [w0,w1] h =
 YP
 (YP
 (YP (xC1 CmpOp.Lt (aB 1) (xb (Y1 (aB 0)) (YK cD)) [some w0,some w1] h) fun p =>
 if p.1=true then
 YP (YP (xb (aB 0) (fun x=>xb (aB 1) (YX x)) [some w0,some w1] p.2) YW) YE
 else some (Fl.nx [some w0,some w1],p.2))
 (YQ fun δ' p =>
 YP (YP (YJ 0 δ' p.2) YW) YE))
 (ends h):=by kernel_rfl
theorem iN (d:Nat) (w0 w1:W) (h:aA):aD T (d+1) "_law_digit" [w0,w1] h =
 YP
 (YP
 (YP (xC1 CmpOp.Eq (xb (Y1 (aB 0)) (YK cD)) (YJ 1) [some w0,some w1,none,none] h) fun p =>
 if p.1=true then
 YP
 (YP
 (xb (aB 0)
 (fun (w:W) (δ:DSt) (h:aA) =>
 match w with
        | W.c j =>
         match h[j]? with
         | some (Cell.l xs) =>
          YP (xPl (Y2 (xb (YV 0 0) (YB .Mod 2147483647)) (YJ 0)) δ h) fun (p:List PyData×aA) =>
 match p.2[j]? with
           | some (Cell.l xs)=>if List.length xs+List.length p.1<=sizeLine then some (W.d PyData.none,List.set p.2 j (Cell.l (xs++p.1))) else none
           | x=>none
         | x=>none
        | x=>none)
 [some w0,some w1,none,none] p.2)
 fun p=>some (Fl.nx [some w0,some w1,none,none],p.2))
 YE
 else some (Fl.nx [some w0,some w1,none,none],p.2))
 (YQ fun δ' p =>
 YP
 (YP (xC1 CmpOp.Gt (YV 0 0) (YJ 0) δ' p.2) fun p =>
 if p.1=true then
 YP (aZ 2 (xb (YV 0 0) fun u=>xb (aB 1) (YO .Mod u)) δ' p.2) (YQ fun δ' p =>
 YP
 (YP (xb (YV 0 0) (fun u=>xb (aB 1) (YO .FloorDiv u)) δ' p.2) fun p =>
 YP
 (YP (aB 0 δ' p.2) fun (p_1:W×aA) =>
 YP (YJ 0 δ' (p_1.2)) fun (q:W×aA) =>
 match p_1.1,q.1,p.1 with
             | W.c j,W.d y,W.d x =>
              match (q.2)[j]?,y with
              | some (Cell.l xs),PyData.int k=>Option.map (fun (n:Nat)=>(δ',List.set (q.2) j (Cell.l (List.set xs n x)))) (L2.ixN (List.length xs) k)
              | some (Cell.k kvs),x_1=>if Option.isSome (aY y)=true/\List.length kvs < sizeLine then some (δ',List.set (q.2) j (Cell.k (pJ kvs y x))) else none
              | x,x_1=>none
             | x,x_1,x_2=>none)
 fun (q:DSt×aA)=>some (Fl.nx (q.1),q.2))
 (YQ fun δ' p =>
 YP (YP (aB 2 δ' p.2) YW) YE))
 else some (Fl.nx δ',p.2))
 (YQ fun δ' p =>
 YP
 (YP (xb (YV 0 2) ((YB .Add 1)) δ' p.2) fun p =>
 YP
 (YP (aB 0 δ' p.2) fun (p_1:W×aA) =>
 YP (YJ 2 δ' (p_1.2)) fun (q:W×aA) =>
 match p_1.1,q.1,p.1 with
          | W.c j,W.d y,W.d x =>
           match (q.2)[j]?,y with
           | some (Cell.l xs),PyData.int k=>Option.map (fun (n:Nat)=>(δ',List.set (q.2) j (Cell.l (List.set xs n x)))) (L2.ixN (List.length xs) k)
           | some (Cell.k kvs),x_1=>if Option.isSome (aY y)=true/\List.length kvs < sizeLine then some (δ',List.set (q.2) j (Cell.k (pJ kvs y x))) else none
           | x,x_1=>none
          | x,x_1,x_2=>none)
 fun (q:DSt×aA)=>some (Fl.nx (q.1),q.2))
 (YQ fun δ' p =>
 YP (aZ 3 (xb (xb (xb (xb (YV 0 1) fun u=>xb (xb (YJ 7919) fun u=>xb (YV 0 2) (YO .Mult u)) (YO .Add u)) (YB .Add 1)) (YB .Mult 48271)) (YB .Mod 2147483647)) δ' p.2) (YQ fun δ' p =>
 YP (aZ 3 (xb (xb (aB 3) fun u=>xb (xb (xb (aB 3) (YB .FloorDiv 1009)) (YB .Add 69621)) (YO .Mult u)) (YB .Mod 2147483647)) δ' p.2) (YQ fun δ' p =>
 YP (YP (xb (xb (xb (aB 3) fun u=>xb (xb (xb (aB 3) (YB .FloorDiv 2003)) (YB .Add 40692)) (YO .Mult u)) (YB .Mod 2147483399)) (fun u=>xb (aB 1) (YO .Mod u)) δ' p.2) YW) YE))))))
 (ends h):=by kernel_rfl
theorem fK (d:Nat) (w0:W) (h:aA):aD T (d+1) "_law_value" [w0] h =
 YP
 (YP (YP (xb (aQ (xPl (Y3 (xb (Y2 (aB 0) (YJ 3)) (YF d "_law_digit")) (xb (xb (Y2 (aB 0) (YJ 2)) (YF d "_law_digit")) (YB .Sub 1)) (xb (Y2 (aB 0) (xb (YJ 10) (YB .Pow 12))) (YF d "_law_digit"))))) (fun x=>xb (xb (xb (Y2 (aB 0) (YJ 8)) (YF d "_law_digit")) (YB .FloorDiv 3)) (YX x)) [some w0] h) YW) YE)
 (ends h):=by kernel_rfl
theorem bV (d:Nat) (w0:W) (h:aA):aD T (d+1) "_law_plain_call" [w0] h =
 YP
 (YP (aZ 1 (xb (Y2 (aB 0) (YJ 4)) (YF d "_law_digit")) [some w0,none,none] h) (YQ fun δ' p =>
 YP (aZ 2 (xb (aQ (xPl (Y2 (xb (Y2 (aB 0) (YJ 2)) (YF d "_law_digit")) (xb (Y2 (aB 0) (YJ 8)) (YF d "_law_digit"))))) fun x=>xb (xb (xb (Y2 (aB 0) (YJ 4)) (YF d "_law_digit")) (YB .FloorDiv 3)) (YX x)) δ' p.2) (YQ fun δ' p =>
 YP
 (YP (xC1 CmpOp.Eq (aB 1) (YJ 0) δ' p.2) fun p =>
 if p.1=true then
 YP (YP (xb (xPl (Y2 (YS "read") (aB 2))) (YT) δ' p.2) YW) YE
 else some (Fl.nx δ',p.2))
 (YQ fun δ' p =>
 YP
 (YP (xC1 CmpOp.Eq (aB 1) (YJ 1) δ' p.2) fun p =>
 if p.1=true then
 YP (YP (xb (xPl (Y3 (YS "write") (aB 2) (xb (Y1 (aB 0)) (YF d "_law_value")))) (YT) δ' p.2) YW) YE
 else some (Fl.nx δ',p.2))
 (YQ fun δ' p =>
 YP
 (YP (xC1 CmpOp.Eq (aB 1) (YJ 2) δ' p.2) fun p =>
 if p.1=true then
 YP (YP (xb (xPl (Y3 (YS "add") (aB 2) (xb (Y1 (aB 0)) (YF d "_law_value")))) (YT) δ' p.2) YW) YE
 else some (Fl.nx δ',p.2))
 (YQ fun δ' p =>
 YP (YP (xb (xPl (Y4 (YS "swap") (aB 2) (xb (Y1 (aB 0)) (YF d "_law_value")) (xb (Y1 (aB 0)) (YF d "_law_value")))) (YT) δ' p.2) YW) YE))))))
 (ends h):=by kernel_rfl
theorem bL (d:Nat) (w0:W) (h:aA):aD T (d+1) "_law_step" [w0] h =
 YP
 (YP (aZ 1 (xb (Y2 (aB 0) (YJ 9)) (YF d "_law_digit")) [some w0,none,none,none,none] h) (YQ fun δ' p =>
   YP
    (YP (xC1 CmpOp.Lt (aB 1) (YJ 5) δ' p.2) fun p =>
     if p.1=true then
      YP (YP (xb (Y1 (aB 0)) ((YF d "_law_plain_call")) δ' p.2) YW) YE
     else some (Fl.nx δ',p.2))
    (YQ fun δ' p =>
     YP
      (YP (xC1 CmpOp.Eq (aB 1) (YJ 5) δ' p.2) fun p =>
       if p.1=true then
        YP (aZ 2 (xb (Y2 (aB 0) (YJ 8)) (YF d "_law_digit")) δ' p.2) (YQ fun δ' p =>
          YP (YP (xb (xPl (Y3 (YS "span") (aB 2) (xb (xb (aB 2) (YB .Add 1)) fun u=>xb (xb (Y2 (aB 0) (xb (YJ 8) fun u=>xb (aB 2) (YO .Sub u))) (YF d "_law_digit")) (YO .Add u)))) (YT) δ' p.2) YW) YE)
       else some (Fl.nx δ',p.2))
      (YQ fun δ' p =>
       YP
        (YP (xC1 CmpOp.Eq (aB 1) (YJ 6) δ' p.2) fun p =>
         if p.1=true then
          YP
           (YP
            (xb
             (xPl
              (Y2 (YS "deal") (xb
                  (Y1 (aQ
                    (xb
                     (xb (xb (YJ 1) fun u=>xb (xb (Y2 (aB 0) (YJ 4)) (YF d "_law_digit")) (YO .Add u)) YR)
                     fun p δ h=>aO (YG 0) (aC true) (xb (Y1 (aB 1)) (YF d "_law_plain_call")) p.2 p.1 p.1 (aW [none,some 0] δ) h [])))
                  (YK bY))))
             (YT) δ' p.2)
            YW)
           YE
         else some (Fl.nx δ',p.2))
        (YQ fun δ' p =>
         YP
          (YP (xC1 CmpOp.Eq (aB 1) (YJ 7) δ' p.2) fun p =>
           if p.1=true then
            YP (aZ 2 (xb (Y2 (aB 0) (YJ 8)) (YF d "_law_digit")) δ' p.2) (YQ fun δ' p =>
              YP (aZ 3 (aQ (xPl (Y3 (xb (Y1 (aB 0)) (YF d "_law_plain_call")) (xb (xPl (Y3 (YS "span") (aB 2) (YJ 8))) YT) (xb (xPl (Y2 (YS "deal") (xb (xPl (Y2 (xb (Y1 (aB 0)) (YF d "_law_plain_call")) (xb (Y1 (aB 0)) (YF d "_law_plain_call")))) YT))) YT)))) δ' p.2) (YQ fun δ' p =>
                YP (YP (xb (xPl (Y2 (YS "look") (xb (aB 3) fun x=>xb (xb (Y2 (aB 0) (YJ 3)) (YF d "_law_digit")) (YX x)))) (YT) δ' p.2) YW) YE))
           else some (Fl.nx δ',p.2))
          (YQ fun δ' p =>
           YP
            (aZ 4
             (aQ
              (xb
               (xb (YJ 8) YR)
               fun p δ h=>aO (YG 0) (xC1 CmpOp.Eq (xb (Y2 (aB 1) (YJ 3)) (YF d "_law_digit")) (YJ 0)) (xb (xPl (Y2 (aB 0) (xb (Y1 (aB 1)) (YF d "_law_value")))) YT) p.2 p.1 p.1 (aW [none,some 0] δ) h []))
             δ' p.2)
            (YQ fun δ' p =>
             YP
              (YP
               (xb
                (xPl
                 (Y2 (YS "lay") (xb
                     (Y1 (xb (aB 4) fun (u:W) =>
                       xb
                        (xb (aQ (xPl (Y1 (xb (xPl (Y2 (YJ 7) (xb (Y1 (aB 0)) (YF d "_law_value")))) YT)))) fun (x:W) =>
                         xb
                          (xb
                           (xb
                            (Y1 (xb (cE (xC1 CmpOp.NotEq (aB 4) (aQ (xPl (aC []))))) fun (w:W) =>
                              match w with
                              | W.d (PyData.bool true) =>
                               cE
                                (xC1 CmpOp.Eq
                                 (xb
                                  (xb (aB 4) fun (x:W) =>
                                   xb
                                    (xb (YJ 1) YNg)
                                    (YX x))
                                  (YI 0))
                                 (YJ 7))
                              | W.d (PyData.bool false)=>aC (W.d (PyData.bool false))
                              | x=>xno))
                            fun (ws:List W) (x:DSt) (h:aA)=>aJ2 ws h)
                           YU)
                          fun (l:Option Int)=>xb (aC none) (YS3 x l))
                        (YO .Add u)))
                     (YK bY))))
                (YT) δ' p.2)
               YW)
              YE)))))))
 (ends h):=by kernel_rfl
theorem dY (d:Nat) (w0:W) (h:aA):aD T (d+1) "_law_altered" [w0] h =
 YP
 (YP
 (YP (xC1 CmpOp.Eq (YV 0 0) (YS "got") [some w0] h) fun p =>
 if p.1=true then
 YP (YP (xb (xPl (Y2 (YS "got") (xb (YV 0 1) (YB .Add 1)))) (YT) [some w0] p.2) YW) YE
 else some (Fl.nx [some w0],p.2))
 (YQ fun δ' p =>
 YP
 (YP (xC1 CmpOp.Eq (YV 0 0) (YS "yes") δ' p.2) fun p =>
 if p.1=true then
 YP (YP (xb (xPl (Y1 (YS "no"))) (YT) δ' p.2) YW) YE
 else some (Fl.nx δ',p.2))
 (YQ fun δ' p =>
 YP
 (YP (xC1 CmpOp.Eq (YV 0 0) (YS "no") δ' p.2) fun p =>
 if p.1=true then
 YP (YP (xb (xPl (Y1 (YS "yes"))) (YT) δ' p.2) YW) YE
 else some (Fl.nx δ',p.2))
 (YQ fun δ' p =>
 YP
 (YP (xC1 CmpOp.Eq (YV 0 0) (YS "all") δ' p.2) fun p =>
 if p.1=true then
 YP
 (YP
 (xb
 (xPl
 (Y2 (YS "all") (xb (xb (xPl (Y1 (xb (xb (YV 0 1) (YI 0)) (YB .Sub 1)))) YT) fun (u:W) =>
 xb
 (xb (YV 0 1) fun (x:W) =>
 xb
 (xb (YJ 1) YU)
 fun (l:Option Int)=>xb (aC none) (YS3 x l))
 (YO .Add u))))
 (YT) δ' p.2)
 YW)
 YE
 else some (Fl.nx δ',p.2))
 (YQ fun δ' p =>
 YP
 (YP (xC1 CmpOp.Eq (YV 0 0) (YS "each") δ' p.2) fun p =>
 if p.1=true then
 YP (YP (xb (xPl (Y2 (YS "each") (xb (Y1 (aQ (xb (bU (YV 0 1)) fun p δ h=>aO (YG 0) (aC true) (xb (Y1 (aB 0)) (YF d "_law_altered")) p.2 p.1 p.1 (aW [none] δ) h []))) (YK bY)))) (YT) δ' p.2) YW) YE
 else some (Fl.nx δ',p.2))
 (YQ fun δ' p =>
 YP (YP (aB 0 δ' p.2) YW) YE))))))
 (ends h):=by kernel_rfl
theorem qJ (d:Nat) (w0 w1 w2:W) (h:aA):aD T (d+1) "_law_items" [w0,w1,w2] h =
 YP
 (YP (aZ 3 (aB 1) [some w0,some w1,some w2,none,none,none,none,none,none,none,none] h) (YQ fun δ' p =>
 YP
 (aZ 4
 (bR
 (xb (Y1 (aB 2)) fun (ws:List W) (x:DSt) (h:aA) =>
 match ws with
       | [W.d (PyData.int j)]=>if -2^62<=j/\j < 2^62/\j<=16000000 then some (rng 0 (Int.toNat j),h) else none
       | x=>none))
 δ' p.2)
 (YQ fun δ' p =>
 YP (aZ 5 aK5 δ' p.2) (YQ fun δ' p =>
 YP
 (YP
 (xb (aB 2)
 (YR)
 δ' p.2)
 fun (p:(List PyData×Option Nat)×aA) =>
 cI (YG 6)
 (fun (x:DSt) (x_1:aA) =>
 YP (aZ 7 (xb (Y1 (aB 0)) (YF d "_law_step")) x x_1) (YQ fun δ' p =>
 YP (YP (xb (Y2 (aB 3) (aB 7)) ((YF d "done")) δ' p.2) fun p=>YP (eX [YG 8,YG 3] p.1 δ' p.2) fun (q:DSt×aA)=>some (Fl.nx (q.1),q.2)) (YQ fun δ' p =>
 YP (aZ 9 (xb (Y2 (aB 0) (YJ 7)) (YF d "_law_digit")) δ' p.2) (YQ fun δ' p =>
 YP
 (YP (xC1 CmpOp.Eq (aB 9) (YJ 0) δ' p.2) fun p =>
 if p.1=true then
 YP (aZ 8 (YZ) δ' p.2) YE
 else some (Fl.nx δ',p.2))
 (YQ fun δ' p =>
 YP
 (YP (xC1 CmpOp.Eq (aB 9) (YJ 1) δ' p.2) fun p =>
 if p.1=true then
 YP (aZ 8 (xb (Y1 (aB 8)) (YF d "_law_altered")) δ' p.2) YE
 else some (Fl.nx δ',p.2))
 (YQ fun δ' p =>
 YP
 (YP (xb (xC1 CmpOp.Eq (aB 9) (YJ 2)) (fun c=>if c=true then xb (xC1 CmpOp.NotEq (YV 7 0) (YS "look")) fun c=>if c=true then xb (xC1 CmpOp.NotEq (YV 7 0) (YS "lay")) fun c=>if c=true then xC1 CmpOp.Eq (xb (Y2 (aB 0) (YJ 4)) (YF d "_law_digit")) (YJ 0) else aC false else aC false else aC false) δ' p.2) fun p =>
 if p.1=true then
 YP (aZ 8 (xb (xPl (Y1 (YS "refused"))) YT) δ' p.2) YE
 else some (Fl.nx δ',p.2))
 (YQ fun δ' p =>
 YP (aZ 10 (xb (aQ (xPl (Y7 (YS "must") (YS "must") (YS "must") (YS "must") (YS "may") (YS "may") (YS "out")))) fun x=>xb (xb (Y2 (aB 0) (YJ 7)) (YF d "_law_digit")) (YX x)) δ' p.2) (YQ fun δ' p =>
 YP
 (YP (xb (xPl (Y3 (aB 7) (aB 8) (aB 10))) (YT) δ' p.2) fun p =>
 YP
 (YP (aB 5 δ' p.2) fun (p_1:W×aA) =>
 YP
 (xb (aB 4)
 (fun (w:W) (δ:DSt) (h:aA) =>
 match w with
                                | W.c j =>
                                 match h[j]? with
                                 | some (Cell.l xs)=>YP (Y1 (xb (Y2 (aB 0) (xb (Y1 (aB 4)) (YK cD))) (YF d "_law_digit")) δ h) fun (p:List W×aA)=>aJ8 j p.1 p.2
                                 | x=>none
                                | x=>none)
 δ' (p_1.2))
 fun (q:W×aA) =>
 match p_1.1,q.1,p.1 with
                              | W.c j,W.d y,W.d x =>
                               match (q.2)[j]?,y with
                               | some (Cell.l xs),PyData.int k=>Option.map (fun (n:Nat)=>(δ',List.set (q.2) j (Cell.l (List.set xs n x)))) (L2.ixN (List.length xs) k)
                               | some (Cell.k kvs),x_2=>if Option.isSome (aY y)=true/\List.length kvs < sizeLine then some (δ',List.set (q.2) j (Cell.k (pJ kvs y x))) else none
                               | x,x_2=>none
                              | x,x_2,x_3=>none)
 fun (q:DSt×aA)=>some (Fl.nx (q.1),q.2))
 YE))))))))
 (Prod.snd p.1) (Prod.fst p.1) (Prod.fst p.1) δ' p.2)
 (YQ fun δ' p =>
 YP
 (YP
 (xb
 (Y1 (aQ
 (xb
 (xb (aB 2) YR)
 fun p δ h=>aO (YG 0) (aC true) (xb (aB 1) fun x=>xb (aB 0) (YX x)) p.2 p.1 p.1 (aW [none,some 5] δ) h [])))
 (YK bY) δ' p.2)
 YW)
 YE)))))
 (ends h):=by kernel_rfl
theorem qK (d:Nat) (w0 w1:W) (h:aA):aD T (d+1) "_law_pairs" [w0,w1] h =
 YP
 (YP (aZ 2 (bR (xPl (aC []))) [some w0,some w1,none,none,none] h) (YQ fun δ' p =>
 YP
 (YP
 (xb (xb (Y2 (aB 0) (YJ 5)) (YF d "_law_digit"))
 (YR)
 δ' p.2)
 fun (p:(List PyData×Option Nat)×aA) =>
 cI (YG 3)
 (fun (x:DSt) (x_1:aA) =>
 YP
 (YP (xC1 CmpOp.Gt (aB 1) (YJ 1) x x_1) fun p =>
 if p.1=true then
 YP (aZ 4 (xb (Y2 (aB 0) (aB 1)) (YF d "_law_digit")) x p.2) (YQ fun δ' p =>
 YP
 (YP
 (xb (aB 2)
 ((YA (Y1 (xb (xPl (Y2 (aB 4) (xb (xb (xb (aB 4) (YB .Add 1)) fun u=>xb (xb (Y2 (aB 0) (xb (aB 1) (YB .Sub 1))) (YF d "_law_digit")) (YO .Add u)) fun u=>xb (aB 1) (YO .Mod u)))) YT))))
 δ' p.2)
 fun p=>some (Fl.nx δ',p.2))
 YE)
 else some (Fl.nx x,p.2))
 YE)
 (Prod.snd p.1) (Prod.fst p.1) (Prod.fst p.1) δ' p.2)
 (YQ fun δ' p =>
 YP (YP (xb (Y1 (aB 2)) (YK bY) δ' p.2) YW) YE)))
 (ends h):=by kernel_rfl
theorem lX (d:Nat) (w0 w1:W) (h:aA):aD T (d+1) "_law_triples" [w0,w1] h =
 YP
 (YP
 (aZ 3
 (aQ
 (xb
 (xb (xb (Y1 (aB 1)) (YK cD)) YR)
 fun p δ h=>aO (YG 0) (xC1 CmpOp.Eq (xb (xb (aB 1) fun x=>xb (aB 0) (YX x)) (YI 2)) (YS "must")) (aB 0) p.2 p.1 p.1 (aW [none,some 1] δ) h []))
 [some w0,some w1,none,none,none,none,none,none] h)
 (YQ fun δ' p =>
 YP (aZ 4 (bR (xPl (aC []))) δ' p.2) (YQ fun δ' p =>
 YP
 (YP
 (xb (xb (Y2 (aB 0) (YJ 4)) (YF d "_law_digit"))
 (YR)
 δ' p.2)
 fun (p:(List PyData×Option Nat)×aA) =>
 cI (YG 5)
 (fun (x:DSt) (x_1:aA) =>
 YP
 (YP (xb (xC1 CmpOp.Gt (xb (Y1 (aB 3)) (YK cD)) (YJ 1)) (fun c=>if c=true then xC1 CmpOp.Gt (xb (Y1 (aB 1)) (YK cD)) (YJ 2) else aC false) x x_1) fun p =>
 if p.1=true then
 YP (aZ 2 (xb (Y2 (aB 0) (xb (Y1 (aB 3)) (YK cD))) (YF d "_law_digit")) x p.2) (YQ fun δ' p =>
 YP (aZ 6 (xb (xb (xb (aB 2) (YB .Add 1)) fun u=>xb (xb (Y2 (aB 0) (xb (xb (Y1 (aB 3)) (YK cD)) (YB .Sub 1))) (YF d "_law_digit")) (YO .Add u)) fun u=>xb (xb (Y1 (aB 3)) (YK cD)) (YO .Mod u)) δ' p.2) (YQ fun δ' p =>
 YP
 (aZ 7
 (aQ
 (xb
 (xb (xb (Y1 (aB 1)) (YK cD)) YR)
 fun p δ h=>aO (YG 0) (xb (xC1 CmpOp.NotEq (aB 0) (xb (aB 1) fun x=>xb (aB 2) (YX x))) fun c=>if c=true then xC1 CmpOp.NotEq (aB 0) (xb (aB 1) fun x=>xb (aB 3) (YX x)) else aC false) (aB 0) p.2 p.1 p.1 (aW [none,some 3,some 2,some 6] δ) h []))
 δ' p.2)
 (YQ fun δ' p =>
 YP
 (YP
 (xb (aB 4)
 ((YA (Y1 (xb (xPl (Y3 (xb (aB 3) fun x=>xb (aB 2) (YX x)) (xb (aB 3) fun x=>xb (aB 6) (YX x)) (xb (aB 7) fun x=>xb (xb (Y2 (aB 0) (xb (Y1 (aB 7)) (YK cD))) (YF d "_law_digit")) (YX x)))) YT))))
 δ' p.2)
 fun p=>some (Fl.nx δ',p.2))
 YE)))
 else some (Fl.nx x,p.2))
 YE)
 (Prod.snd p.1) (Prod.fst p.1) (Prod.fst p.1) δ' p.2)
 (YQ fun δ' p =>
 YP (YP (xb (Y1 (aB 4)) (YK bY) δ' p.2) YW) YE))))
 (ends h):=by kernel_rfl
theorem lY (d:Nat) (w0 w1:W) (h:aA):aD T (d+1) "_law_problem" [w0,w1] h =
 YP
 (YP (aZ 2 (bR (xPl (Y1 (aB 0)))) [some w0,some w1,none,none,none,none] h) (YQ fun δ' p =>
 YP (aZ 3 (xb (Y2 (aB 2) (xb (aB 1) (YB .Add 1))) (YF d "_law_digit")) δ' p.2) (YQ fun δ' p =>
 YP (aZ 4 (aC (W.d (PyData.tuple (List.reverse [PyData.int 0,PyData.int 0,PyData.int 0,PyData.int 0,PyData.int 0,PyData.int 0,PyData.int 0,PyData.int 0])))) δ' p.2) (YQ fun δ' p =>
 YP
 (YP (xC1 CmpOp.Eq (xb (Y2 (aB 2) (YJ 3)) (YF d "_law_digit")) (YJ 0) δ' p.2) fun p =>
 if p.1=true then
 YP
 (aZ 4
 (xb
 (Y1 (aQ
 (xb
 (xb (YJ 8) YR)
 fun p δ h=>aO (YG 0) (aC true) (xb (Y1 (aB 1)) (YF d "_law_value")) p.2 p.1 p.1 (aW [none,some 2] δ) h [])))
 (YK bY))
 δ' p.2)
 YE
 else some (Fl.nx δ',p.2))
 (YQ fun δ' p =>
 YP (aZ 5 (xb (Y3 (aB 2) (aB 4) (aB 3)) (YF d "_law_items")) δ' p.2) (YQ fun δ' p =>
 YP (YP (xb (xPl (Y4 (aB 4) (aB 5) (xb (Y2 (aB 2) (aB 3)) (YF d "_law_pairs")) (xb (Y2 (aB 2) (aB 5)) (YF d "_law_triples")))) (YT) δ' p.2) YW) YE))))))
 (ends h):=by kernel_rfl
theorem lZ (d:Nat) (w0 w1 w2:W) (h:aA):aD T (d+1) "_law_due" [w0,w1,w2] h =
 YP
 (YP (YP (xb (YV 0 1) (fun x=>xb (aB 2) (YX x)) [some w0,some w1,some w2,none,none,none,none,none] h) fun p=>YP (eX [YG 3,YG 4,YG 5] p.1 [some w0,some w1,some w2,none,none,none,none,none] p.2) fun (q:DSt×aA)=>some (Fl.nx (q.1),q.2)) (YQ fun δ' p =>
 YP (YP (xb (Y2 (aB 1) (aB 3)) ((YF d "done")) δ' p.2) fun p=>YP (eX [YG 6,YG 7] p.1 δ' p.2) fun (q:DSt×aA)=>some (Fl.nx (q.1),q.2)) (YQ fun δ' p =>
 YP
 (YP (xb (xC1 CmpOp.IsNot (aB 4) (YZ)) (fun c=>if c=true then xC1 CmpOp.NotEq (aB 6) (aB 4) else aC false) δ' p.2) fun p =>
 if p.1=true then
 YP (YP (YZ δ' p.2) YW) YE
 else some (Fl.nx δ',p.2))
 (YQ fun δ' p =>
 YP (YP (aB 7 δ' p.2) YW) YE))))
 (ends h):=by kernel_rfl
theorem cP3 (d:Nat) (w0:W) (h:aA):aD T (d+1) "law" [w0] h =
 YP
 (YP (aZ 1 (xb (Y2 (xb (Y2 (aB 0) (YJ 0)) (YF d "_law_cell_at")) (YJ 8)) (YF d "_law_problem")) [some w0,none,none,none,none,none,none] h) (YQ fun δ' p =>
 YP (aZ 2 (bR (xPl (Y1 (YV 1 0)))) δ' p.2) (YQ fun δ' p =>
 YP
 (YP
 (bU
 (xb (aB 0) fun (x:W) =>
 xb
 (xb (YJ 1) YU)
 fun (l:Option Int) =>
 xb
 (xb (YJ 5) YU)
 (YS3 x l))
 δ' p.2)
 fun (p:(List PyData×Option Nat)×aA) =>
 cI (YG 3)
 (fun (x:DSt) (x_1:aA) =>
 YP (aZ 4 (bR (xPl (Y1 (aB 3)))) x x_1) (YQ fun δ' p =>
 YP
 (YP
 (xb (aB 2)
 ((YA (Y1 (xb
 (Y1 (aQ
 (xb
 (xb (YJ 8) YR)
 fun p δ h=>aO (YG 0) (aC true) (xb (Y1 (aB 1)) (YF d "_law_value")) p.2 p.1 p.1 (aW [none,some 4] δ) h [])))
 (YK bY)))))
 δ' p.2)
 fun p=>some (Fl.nx δ',p.2))
 YE))
 (Prod.snd p.1) (Prod.fst p.1) (Prod.fst p.1) δ' p.2)
 (YQ fun δ' p =>
 YP
 (YP (bU (aB 2) δ' p.2) fun (p:(List PyData×Option Nat)×aA) =>
 cI (YG 5)
 (fun (x:DSt) (x_1:aA) =>
 YP
 (YP
 (xb (xb (Y1 (YV 1 1)) (YK cD))
 (YR)
 x x_1)
 fun (p:(List PyData×Option Nat)×aA) =>
 cI (YG 6)
 (fun (x:DSt) (x_2:aA) =>
 YP
 (YP (xC1 CmpOp.NotEq (xb (Y3 (aB 1) (aB 5) (aB 6)) (YF d "behind")) (xb (Y3 (aB 1) (aB 5) (aB 6)) (YF d "_law_due")) x x_2) (YT2 false x))
 YE)
 (Prod.snd p.1) (Prod.fst p.1) (Prod.fst p.1) x p.2)
 YE)
 (Prod.snd p.1) (Prod.fst p.1) (Prod.fst p.1) δ' p.2)
 (YQ fun δ' p =>
 YP (YP (aC (W.d (PyData.bool true)) δ' p.2) YW) YE)))))
 (ends h):=by kernel_rfl
theorem vG (d:Nat) (w0:W) (h:aA):callW T (d+1) "ways_of" [w0] h =
 YP
 (YP (YP (xb (Y1 (aB 0)) ((YF d "check_problem")) [some w0] h) fun p=>some (Fl.nx [some w0],p.2)) (YQ fun δ' p =>
 YP (YP (xb (Y1 (aB 0)) (fun (ws:List W) (x:DSt) (h:aA)=>xMk 291 (callI T d (Str.ofString "Ways")) ws h) δ' p.2) YW) YE))
 jU:=by kernel_rfl
theorem bB9 (d:Nat) (w0 w1:W) (h:aA):callI T (d+2) "Ways" [w0,w1] h =
 YP
 (YP
 (YP (xb (aB 1) (YI 0) [some w0,some w1,none,none,none] h) fun p =>
 YP (aB 0 [some w0,some w1,none,none,none] p.2) (YM "first" [some w0,some w1,none,none,none] p.1))
 (YQ fun δ' p =>
 YP
 (YP (xb (aB 1) (YI 1) δ' p.2) fun p =>
 YP (aB 0 δ' p.2) (YM "listed" δ' p.1))
 (YQ fun δ' p =>
 YP
 (YP
 (aQ
 (xb
 (xb
 (xb (aB 0) (YL "listed"))
 fun (u:W) (x:DSt) (h:aA) =>
 match fZ u with
          | some xs=>some ((lJ xs,none),h)
          | none=>none)
 fun p δ h=>aO (eX [YG 0,YG 1]) (xC1 CmpOp.Eq (YV 1 2) (YS "must")) (aB 0) p.2 p.1 p.1 (aW [none,none] δ) h [])
 δ' p.2)
 fun p =>
 YP (aB 0 δ' p.2) (YM "musts" δ' p.1))
 (YQ fun δ' p =>
 YP
 (YP
 (xb
 (bU
 (xb (aB 0) (YL "listed")))
 (fun p δ h=>YP (dF (YG 0) (aC true) (bR (xPl (aC []))) p.2 p.1 p.1 (aW [none] δ) h []) fun (q:List Nat×aA)=>some (W.c (List.length (q.2)),q.2++[Cell.r (q.1)])) δ' p.2)
 fun p =>
 YP (aB 0 δ' p.2) (YM "ahead" δ' p.1))
 (YQ fun δ' p =>
 YP
 (YP
 (xb
 (bU
 (xb (aB 0) (YL "listed")))
 (fun p δ h=>YP (dF (YG 0) (aC true) (bR (xPl (aC []))) p.2 p.1 p.1 (aW [none] δ) h []) fun (q:List Nat×aA)=>some (W.c (List.length (q.2)),q.2++[Cell.r (q.1)])) δ' p.2)
 fun p =>
 YP (aB 0 δ' p.2) (YM "later" δ' p.1))
 (YQ fun δ' p =>
 YP
 (YP
 (xb
 (bU
 (xb (aB 0) (YL "listed")))
 (fun p δ h=>YP (dF (YG 0) (aC true) (bR (xPl (aC []))) p.2 p.1 p.1 (aW [none] δ) h []) fun (q:List Nat×aA)=>some (W.c (List.length (q.2)),q.2++[Cell.r (q.1)])) δ' p.2)
 fun p =>
 YP (aB 0 δ' p.2) (YM "gaps" δ' p.1))
 (YQ fun δ' p =>
 YP
 (YP (bU (YV 1 2) δ' p.2) fun (p:(List PyData×Option Nat)×aA) =>
 cI (eX [YG 2,YG 3])
 (fun (x:DSt) (x_1:aA) =>
 YP
 (YP
 (xb
 (xb
 (xb (aB 0) (YL "later"))
 fun x=>xb (aB 2) (YX x))
 ((YA (Y1 (aB 3))))
 x x_1)
 fun p=>some (Fl.nx x,p.2))
 (YQ fun δ' p =>
 YP
 (YP
 (xC1 CmpOp.Eq
 (xb
 (xb
 (xb (aB 0) (YL "listed"))
 fun x=>xb (aB 2) (YX x))
 (YI 2))
 (YS "must") δ' p.2)
 fun p =>
 if p.1=true then
 YP
 (YP
 (xb
 (xb
 (xb (aB 0) (YL "ahead"))
 fun x=>xb (aB 3) (YX x))
 ((YA (Y1 (aB 2))))
 δ' p.2)
 fun p=>some (Fl.nx δ',p.2))
 YE
 else some (Fl.nx δ',p.2))
 YE))
 (Prod.snd p.1) (Prod.fst p.1) (Prod.fst p.1) δ' p.2)
 (YQ fun δ' p =>
 YP
 (YP (bU (YV 1 3) δ' p.2) fun (p:(List PyData×Option Nat)×aA) =>
 cI (eX [YG 2,YG 3,YG 4])
 (fun (x:DSt) (x_1:aA) =>
 YP
 (YP
 (xb
 (xb
 (xb (aB 0) (YL "gaps"))
 fun x=>xb (aB 4) (YX x))
 ((YA (Y1 (xb (xPl (Y2 (aB 2) (aB 3))) YT))))
 x x_1)
 fun p=>some (Fl.nx x,p.2))
 YE)
 (Prod.snd p.1) (Prod.fst p.1) (Prod.fst p.1) δ' p.2)
 YE))))))))
 jU:=by kernel_rfl
theorem fP (d:Nat) (w0 w1 w2:W) (h:aA):callM T (d+1) "stand_behind" [w0,w1,w2] h =
 YP
 (YP
 (aZ 3
 (xb
 (Y2 (aB 1) (xb
 (xb
 (xb (aB 0) (YL "listed"))
 fun x=>xb (aB 2) (YX x))
 (YI 0)))
 (YF d "done"))
 [some w0,some w1,some w2,none,none] h)
 (YQ fun δ' p =>
 YP
 (aZ 4
 (xb
 (xb
 (xb (aB 0) (YL "listed"))
 fun x=>xb (aB 2) (YX x))
 (YI 1))
 δ' p.2)
 (YQ fun δ' p =>
 YP (YP (xb (xb (xC1 CmpOp.Is (aB 4) (YZ)) fun c=>if c=true then aC true else xC1 CmpOp.Eq (aB 4) (YV 3 0)) (fun (t:Bool)=>if t=true then xb (aB 3) (YI 1) else YZ) δ' p.2) YW) YE)))
 jU:=by kernel_rfl
end K15
namespace K15
open PySem PySem.Spec PyProof.Rows L2 DL CI SJ
variable (d:Nat) (h:aA)
def bK0 (cs:List One):PyData:=.tuple [.str "deal",.tuple (cs.map One.dat)]
end K15
namespace K15
open PySem PySem.Spec PyProof.Rows L2 DL CI SJ
variable (d:Nat) (x:PyData) (h:aA)
@[simp] theorem fL:aD T (d+1) "is_whole" [.d x] h=some (.bool (fX x),h):=by
 cases x<;>simp [vD,isi,iE,fX]
@[simp] theorem qL (lo hi:Int):aD T (d+2) "is_between" [.d x,.d (.int lo),.d (.int hi)] h=some (.bool (gH x lo hi),h):=by
 cases x<;>simp [qE,fL,gH,fX];split<;>simp_all;omega
@[simp] theorem mT (n:Int):aD T (d+1) "is_tuple_of" [.d x,.d (.int n)] h=some (.bool (gP x n),h):=by
 cases x<;>simp [mQ,isi,iE,gP]
@[simp] theorem dA (xs:List PyData):aD T (d+2) "are_whole" [.d (.tuple xs)] h=some (.bool (xs.all fX),h):=by
 simp [sV];rw [bS (fun x=>.bool (fX x)) 0 (fun _ _ _=>rfl)]
 ·simp [gL]
 ·intro y _ u;simp [fL]
@[simp] theorem mB:aD T (d+3) "is_key" [.d x] h=some (.bool (iF x),h):=by
 simp [aN6,qL,iF]
@[simp] theorem oK:aD T (d+1) "word_of" [.d x] h=some (fG x,h):=by
 cases x<;>simp [zY,isi,iE,fG];rename_i xs;cases xs with
 | nil=>simp
 | cons y r=>cases y<;>simp [fG,isi,iE]
end K15
namespace K15
open PySem PySem.Spec PyProof.Rows L2 DL CI SJ
variable (d:Nat) (x:PyData) (h:aA)
@[simp] theorem gD (s:Str) (n:Int):aD T (d+2) "is_worded" [.d x,.d (.str s),.d (.int n)] h=some (.bool (aG x s n),h):=by
 simp [sW,oK];cases x<;>simp [fG,aG];rename_i xs;cases xs with
 | nil=>simp [fG,aG]
 | cons y r=>cases y<;>simp [fG,aG];rename_i t;cases e:(t==s)<;>simp
theorem lk (s:Str):List.lookup s [(Str.ofString "read",(0:Int)),(Str.ofString "write",1),(Str.ofString "add",1),(Str.ofString "swap",2)]=nb s:=by
 unfold nb;simp only [List.lookup]
 repeat' split
 all_goals simp_all
theorem dF3 (a b:PyData) (r:List PyData):cut (a::b::r) (some 2) none=r:=by
 have e1:HT.sIx (a::b::r).length 0 (some 2)=2:=by simp [HT.sIx]
 have e2:HT.sIx (a::b::r).length (a::b::r).length none=r.length+2:=by simp [HT.sIx]
 rw [cut,e1,e2];simp
theorem cC2 (a:PyData) (r:List PyData):cut (a::r) (some 1) none=r:=by
 have e1:HT.sIx (a::r).length 0 (some 1)=1:=by simp [HT.sIx]
 have e2:HT.sIx (a::r).length (a::r).length none=r.length+1:=by simp [HT.sIx]
 rw [cut,e1,e2];simp
@[simp] theorem jX:aD T (d+4) "is_single" [.d x] h=some (.bool (bC x),h):=by
 simp [sX,oK,mB,dA,lk];cases x<;>simp [fG,bC];rename_i xs;cases xs with
 | nil=>simp [fG,bC]
 | cons y r =>
  cases y<;>simp [fG,bC];rename_i t;cases e:nb t with
  | none=>simp
  | some n =>
   have hn:0<=n:=by
    unfold nb at e
    repeat' split at e
    all_goals simp at e
    all_goals omega
   by_cases hl:(r.length:Int)+1=2+n
   ·cases r with
    | nil=>simp at hl;omega
    | cons k vs =>
     cases ek:iF k<;>simp_all [mB,dF3,dA]
   ·simp [hl,e]
theorem fM {x:PyData} {s:Str} (e:aG x s 2=true):∃ a,x=.tuple [.str s,a]:=by
 unfold aG at e;split at e
 ·rename_i t r;simp at e;obtain ⟨rfl,e⟩:=e
  match r,e with
  | [a],_=>exact ⟨a,rfl⟩
  | [],e=>simp at e
  | _::_::_,e=>simp at e;omega
 ·cases e
theorem bC0 {x:PyData} {s:Str} (e:aG x s 3=true):∃ a b,x=.tuple [.str s,a,b]:=by
 unfold aG at e;split at e
 ·rename_i t r;simp at e;obtain ⟨rfl,e⟩:=e
  match r,e with
  | [a,b],_=>exact ⟨a,b,rfl⟩
  | [],e=>simp at e
  | [_],e=>simp at e
  | _::_::_::_,e=>simp at e;omega
 ·cases e
theorem bC1 {x:PyData} (e:aG x "span" 3=false):dU x=false:=by
 unfold dU;split
 ·simp [aG] at e;simp [e]
 ·rfl
theorem bC2 {x:PyData} (e:aG x "deal" 2=false):dD x=false:=by
 unfold dD;split
 ·simp [aG] at e;simp [e]
 ·rfl
theorem bC3 {x:PyData} (e:aG x "look" 2=false):fY x=false:=by
 unfold fY;split
 ·simp [aG] at e;simp [e]
 ·rfl
theorem cC3 {x:PyData} (e:aG x "lay" 2=false):iG x=false:=by
 unfold iG;split
 ·simp [aG] at e;simp [e]
 ·rfl
@[simp] theorem aA4:aD T (d+3) "is_span" [.d x] h=some (.bool (dU x),h):=by
 simp [zZ,gD,dA];cases e:aG x (Str.ofString "span") 3
 ·simp [bC1 e]
 ·obtain ⟨a,b,rfl⟩:=bC0 e;simp [cC2,dA];cases a<;>cases b<;>simp [fX,dU];rename_i i j
  by_cases h1:0<=i<;>by_cases h2:i < j<;>simp [h1,h2]
@[simp] theorem aA5:aD T (d+5) "is_deal" [.d x] h=some (.bool (dD x),h):=by
 simp [aA0,gD];cases e:aG x (Str.ofString "deal") 2
 ·simp [bC2 e]
 ·obtain ⟨a,rfl⟩:=fM e;cases a<;>simp [isi,iE,dD];rename_i ps
  by_cases h1:(1:Int)<=ps.length
  ·by_cases h2:(ps.length:Int)<=4
   ·simp [h1,h2];rw [bS (fun x=>.bool (bC x)) 0 (fun _ _ _=>rfl)]
    ·have h3:1<=ps.length:=by omega
     have h4:ps.length<=4:=by omega
     simp [gL,h3,h4]
    ·intro y _ u;simp [jX]
   ·have h4:¬ ps.length<=4:=by omega
    simp [h1,h2,h4]
  ·have h4:¬ 1<=ps.length:=by omega
   simp [h1,h4]
@[simp] theorem aA6:aD T (d+6) "is_call" [.d x] h=some (.bool (bP x),h):=by
 simp [aA1,jX,aA4,aA5,bP];cases e1:bC x<;>cases e2:dU x<;>cases e3:dD x<;>simp [e1,e2,e3]
@[simp] theorem cG0:aD T (d+7) "is_look" [.d x] h=some (.bool (fY x),h):=by
 simp [aA2,gD];cases e:aG x (Str.ofString "look") 2
 ·simp [bC3 e]
 ·obtain ⟨a,rfl⟩:=fM e;simp [aA6,fY]
@[simp] theorem aB9:aD T (d+4) "is_value_pair" [.d x] h=some (.bool (dE x),h):=by
 simp [kC,mT];cases x<;>simp [gP,dE];rename_i xs
 match xs with
 | []=>simp [dE]
 | [a]=>simp [dE]
 | [a,b] =>
  simp [mB,fL,dE];cases iF a<;>simp [fL]
 | a::b::c::r =>
  have:¬ ((r.length:Int)+1+1+1=2):=by omega
  simp [dE,this]
theorem bT {n:Int} (h0:-5<=n) (h1:n<=100000):gA 0 n=true:=by
 unfold gA;simp;omega
theorem xA {ns:List Int} {i:Nat} (hi:i < ns.length):atI (ns.map PyData.int) (i:Int)=some (.int (ns.getD i 0)):=by
 unfold atI;rw [bU7 (by simpa using hi)];simp [List.getD,hi]
theorem cC4 (n:Nat):rng 0 n=(List.range n).map fun (i:Nat)=>PyData.int (i:Int):=by
 unfold rng;simp
theorem qM (ns:List Int) (hl:ns.length<=1000):aD T (d+1) "are_rising" [.d (.list (ns.map .int))] h=some (.bool (aX7 ns),h):=by
 simp [qF];rw [if_pos (bT (by omega) (by omega))];simp only [Option.bind_some];rw [bS (fun x=>.bool (decide (ns.getD (pH x).toNat 0 < ns.getD ((pH x).toNat+1) 0))) 0 (fun _ _ _=>rfl)]
 ·simp only [List.nil_append,Option.bind_some,all_map];rw [cC4,List.all_map,bB6];rfl
 ·intro y hy u;rw [cC4] at hy;obtain ⟨k,hk,rfl⟩:=List.mem_map.mp hy;have hk:=List.mem_range.mp hk;have e2:((k:Int)+1)=((k+1:Nat):Int):=rfl;simp [xA (show k < ns.length by omega),pH];rw [e2,xA (by omega)];simp
def cO:PyData->Bool
 | .tuple [_,.tuple ps]=>decide (ps.length<=1000)
 | _=>true
theorem aN9 (hs:cO x=true):aD T (d+5) "is_lay" [.d x] h=some (.bool (iG x),h):=by
 simp [aN7];cases e:aG x (Str.ofString "lay") 2
 ·simp [cC3 e]
 ·obtain ⟨a,rfl⟩:=fM e;cases a<;>simp [isi,iE,iG];rename_i ps;simp [cO] at hs
  by_cases hp:ps=[]
  ·subst hp;simp
  ·have hn:¬ ((ps.length:Int)=0):=by
    have:ps.length≠0:=fun z=>hp (List.length_eq_zero_iff.mp z);omega
   simp [hp];rw [bS (fun x=>.bool (dE x)) 0 (fun _ _ _=>rfl)]
   ·simp only [List.nil_append,Option.bind_some,all_map];generalize ea:ps.all dE=b;cases b
    ·simp
    ·simp;rw [bS (fun x=>.int (pH (nT x))) 0 (fun _ _ _=>rfl)]
     ·have e3:(ps.map fun x=>PyData.int (pH (nT x)))=(ps.map fun p=>pH (nT p)).map PyData.int:=by simp
      simp only [List.nil_append,Option.bind_some,e3];rw [qM _ _ _ (by simpa using hs)];simp [hp]
     ·intro y hy u;have:=List.all_eq_true.mp ea y hy;unfold dE at this;split at this
      ·rename_i k v;simp [iF,gH] at this;cases k<;>simp at this;simp [nT,pH]
      ·cases this
   ·intro y _ u;simp
@[simp] theorem dO (hs:cO x=true):aD T (d+8) "is_step" [.d x] h=some (.bool (dW x),h):=by
 simp [aA3,dW];cases e1:bP x<;>cases e2:fY x<;>simp [e2,aN9 _ _ _ hs]
end K15
namespace K15
open PySem PySem.Spec PyProof.Rows L2 DL CI SJ
variable (d:Nat) (t:PyData) (h:aA)
theorem aO0 {t:PyData} (e:aG t "got" 2=false):cH (.read 0) t=false:=by
 unfold cH;split
 ·split
  ·rename_i s v;cases es:(s==Str.ofString "got")
   ·simp
   ·simp at es;subst es;simp [aG] at e
  ·rfl
 all_goals rename_i e';cases e'
theorem oM (o:One):aD T (d+3) "is_own_answer" [.d o.dat,.d t] h=some (.bool (cH o t),h):=by
 cases o
 ·simp [aV,One.dat,PyData.eqv,cH,szl];cases e:aG t (Str.ofString "got") 2
  ·simp;exact aO0 e
  ·obtain ⟨v,rfl⟩:=fM e;simp
 ·simp [aV,One.dat,PyData.eqv,cH,szl]
 ·simp [aV,One.dat,PyData.eqv,cH,szl];cases e:aG t (Str.ofString "got") 2
  ·simp;exact aO0 e
  ·obtain ⟨v,rfl⟩:=fM e;simp
 ·simp [aV,One.dat,PyData.eqv,cH,szl];cases e:aG t (Str.ofString "yes") 1<;>simp
end K15
namespace K15
open PySem PySem.Spec PyProof.Rows L2 DL CI SJ
variable (d:Nat) (t:PyData) (h:aA)
theorem cC5 {t:PyData} {lo hi:Nat} (e:aG t "all" 2=false):bJ (.span lo hi) t=false:=by
 unfold bJ;split
 ·rename_i e';cases e'
 ·split
  ·rename_i s xs;cases es:(s==Str.ofString "all")
   ·simp
   ·simp at es;subst es;simp [aG] at e
  ·rfl
 ·rename_i e';cases e'
theorem bC4 {t:PyData} {cs:List One} (e:aG t "each" 2=false):bJ (.deal cs) t=false:=by
 unfold bJ;split
 ·rename_i e';cases e'
 ·rename_i e';cases e'
 ·split
  ·rename_i s xs;cases es:(s==Str.ofString "each")
   ·simp
   ·simp at es;subst es;simp [aG] at e
  ·rfl
def zps (cs:List One) (xs:List PyData):List (PyData×PyData):=(cs.zip xs).map fun p=>(.tuple [p.1.dat,p.2],.bool (cH p.1 p.2))
theorem bK1:∀ (cs:List One) (xs:List PyData),lF (cs.map One.dat) xs=(zps cs xs).map (·.1)
 | [],_=>by simp [lF,zps]
 | _::_,[]=>by simp [lF,zps]
 | c::cs,x::xs=>by
  have:=bK1 cs xs;unfold lF zps at this ⊢;simp at this ⊢;exact this
theorem cP4:∀ (cs:List One) (xs:List PyData),(zps cs xs).map (·.2)=((cs.zip xs).map fun p=>cH p.1 p.2).map PyData.bool:=fun cs xs=>by simp [zps]
theorem xB:∀ (cs:List One) (xs:List PyData),((cs.zip xs).map fun p=>cH p.1 p.2).all id=eI cs xs
 | [],_=>by simp [eI]
 | _::_,[]=>by simp [eI]
 | c::cs,x::xs=>by
  have:=xB cs xs;simp [eI] at this ⊢;rw [this]
theorem xC:∀ bs:List Bool,eE (bs.map PyData.bool)=some bs
 | []=>rfl
 | b::r=>by simp [eE,xC r]
theorem vH (lo hi:Nat):aD T (d+4) "is_own_answer" [.d (Call.span lo hi).dat,.d t] h=some (.bool (bJ (.span lo hi) t),h):=by
 simp [aV,Call.dat,PyData.eqv,szl];cases e:aG t (Str.ofString "all") 2
 ·simp;exact cC5 e
 ·obtain ⟨v,rfl⟩:=fM e;cases v<;>simp [gP,bJ];rename_i xs
  by_cases hl:(xs.length:Int)=(hi:Int) - lo<;>simp [hl]
theorem vI (cs:List One):aD T (d+4) "is_own_answer" [.d (Call.deal cs).dat,.d t] h=some (.bool (bJ (.deal cs) t),h):=by
 simp [aV,Call.dat,PyData.eqv,szl];cases e:aG t (Str.ofString "each") 2
 ·simp;exact bC4 e
 ·obtain ⟨v,rfl⟩:=fM e;cases v<;>simp [gP,bJ];rename_i xs
  by_cases hl:(xs.length:Int)=cs.length
  ·have hl':xs.length=cs.length:=by omega
   simp [hl,hl'];rw [bK1,hU (fun δ=>∃ a b,δ=[a,b]) _ _ _ ⟨_,_,rfl⟩]
   ·have hz:=xB cs xs;rw [cP4];generalize ((cs.zip xs).map fun p=>cH p.1 p.2)=L at hz ⊢;simp only [List.nil_append,Option.bind_some,bJ9,xC,Option.map_some,hz];simp
   ·intro p hp δ ⟨a,b,e⟩;subst e;obtain ⟨⟨o,x⟩,_,rfl⟩:=List.mem_map.mp hp;refine ⟨[some (.d o.dat),some (.d x)],by simp [eX,pQ],⟨_,_,rfl⟩,?_⟩;simp [oM]
  ·have hl':¬ xs.length=cs.length:=by omega
   simp [hl,hl']
theorem mC (c:SJ.Call):aD T (d+4) "is_own_answer" [.d c.dat,.d t] h=some (.bool (bJ c t),h):=by
 cases c with
 | one o=>exact oM (d+1) t h o
 | span lo hi=>exact vH d t h lo hi
 | deal cs=>exact vI d t h cs
end K15
namespace K15
open PySem PySem.Spec PyProof.Rows L2 DL CI SJ
variable (d:Nat) (t:PyData) (h:aA)
theorem mD {c:SJ.Call} (hc:c.ok):cO c.dat=true:=by
 cases c with
 | one o=>cases o<;>simp [Call.dat,One.dat,cO]
 | span lo hi=>simp [Call.dat,cO]
 | deal cs =>
  have:=hc.1;simp [Call.dat,cO];omega
theorem vJ {c:SJ.Call} (hc:c.ok):aD T (d+9) "is_answer" [.d c.dat,.d t] h=some (.bool (aG t "refused" 1||bJ c t),h):=by
 simp [gC,dO (d) c.dat h (mD hc),(eU hc).2.1,(eU hc).1];cases e:aG t (Str.ofString "refused") 1
 ·simp [mC (d+4)]
 ·simp [(eU hc).1]
theorem vK {ps:List (Nat×Int)} (hn:ps≠[]) (hl:ps.length<=1000) (hk:∀ p∈ps,p.1 < 8) (hr:(ps.map (·.1)).Pairwise (· < ·)):aD T (d+8) "is_step" [.d (.tuple [.str "lay",.tuple (ps.map prP)])] h=some (.bool true,h):=by
 rw [dO _ _ _ (by simpa [cO] using hl)];obtain ⟨q1,q2,q3⟩:=iV hk;have e:=wJ hr;rw [List.map_map] at e;have e1:iG (.tuple [.str "lay",.tuple (ps.map prP)])=true:=by
  unfold iG;simp only [q1,q3,List.isEmpty_map];have:ps.isEmpty=false:=by simpa using hn
  rw [this]
  simpa [Function.comp_def] using e
 simp [dW,e1]
end K15
namespace K15
open PySem PySem.Spec PyProof.Rows L2 DL CI SJ
variable (d:Nat) (h:aA)
def wv (st:List Int) (k:Nat) (v:Int):List Int:=st.take k++v::st.drop (k+1)
theorem jG {st:List Int} {k:Nat} (hk:k < st.length) (v:Int):(wv st k v).length=st.length:=by
 unfold wv;simp;omega
def sd (st:List Int):One->An1×List Int
 | .read k=>(.got (st.getD k 0),st)
 | .write k v=>(.dn,wv st k v)
 | .add k v=>(.got (st.getD k 0+v),wv st k (st.getD k 0+v))
 | .swap k x y=>if st.getD k 0=x then (.yes,wv st k y) else (.no,st)
def dr (st:List Int):List One->List An1×List Int
 | []=>([],st)
 | o::r=>((sd st o).1::(dr (sd st o).2 r).1,(dr (sd st o).2 r).2)
theorem vL {st:List Int} {o:One} (hk:o.key < st.length):(sd st o).2.length=st.length:=by
 cases o<;>simp only [One.key] at hk<;>simp only [sd]
 ·exact jG hk _
 ·exact jG hk _
 ·split
  ·exact jG hk _
  ·rfl
theorem xD (st:List Int) (o:One):An1.fits o (sd st o).1:=by
 cases o<;>simp only [sd]<;>first | trivial | (split<;>trivial)
theorem cC6 (xs:List PyData) {m:Nat} (hm:m<=xs.length):cut xs none (some (m:Int))=xs.take m:=by
 have e1:HT.sIx xs.length 0 none=0:=by simp [HT.sIx]
 have e2:HT.sIx xs.length xs.length (some (m:Int))=m:=by
  unfold HT.sIx;simp only [];rw [if_neg (by omega)];omega
 rw [cut,e1,e2];simp
theorem cC7 (xs:List PyData) {m:Nat} (hm:m<=xs.length):cut xs (some (m:Int)) none=xs.drop m:=by
 have e1:HT.sIx xs.length 0 (some (m:Int))=m:=by
  unfold HT.sIx;simp only [];rw [if_neg (by omega)];omega
 have e2:HT.sIx xs.length xs.length none=xs.length:=by simp [HT.sIx]
 rw [cut,e1,e2];rw [List.take_of_length_le];simp
theorem xE {st:List Int} {k:Nat} (hk:k < st.length):atI (st.map PyData.int) (k:Int)=some (.int (st.getD k 0)):=fC (by simp [hk])
theorem aO1 (st:List Int) (k:Nat) (v:Int) (hk:k < 8) (hl:st.length=8):aD T (d+1) "with_value" [.d (.tuple (st.map .int)),.d (.int k),.d (.int v)] h=some (.tuple ((wv st k v).map .int),h):=by
 have c1:=cC6 (st.map PyData.int) (m:=k) (by simp;omega);have c2:=cC7 (st.map PyData.int) (m:=k+1) (by simp;omega);have c2':cut (st.map PyData.int) (some ((k:Int)+1)) none=(st.map PyData.int).drop (k+1):=c2;have l1:min k st.length<=16777215:=by omega
 have l2:min k st.length+1+(st.length - (k+1))<=16777216:=by omega
 have l3:min k 8+1+(8 - (k+1))<=16777216:=by omega
 have l4:min k 8<=16777215:=by omega
 have l5:min k 8+1+(7 - k)<=16777216:=by omega
 simp [qG,c1,c2',szl,wv,l1,hl,l3,l4,l5]
theorem tE (st:List Int) (o:One) (hk:o.key < 8) (hl:st.length=8):aD T (d+2) "single_done" [.d (.tuple (st.map .int)),.d o.dat] h=some (.tuple [(sd st o).1.dat,.tuple ((sd st o).2.map .int)],h):=by
 cases o with
 | read k =>
  have:=xE (st:=st) (k:=k) (by simp [One.key] at hk;omega);simp [cF,One.dat,An1.dat,this,szl,sd]
 | write k v =>
  simp only [One.key] at hk;have:=xE (st:=st) (k:=k) (by omega);simp [cF,One.dat,An1.dat,this,szl,aO1,hk,hl,sd]
 | add k v =>
  simp only [One.key] at hk;have:=xE (st:=st) (k:=k) (by omega);generalize e:st.getD k 0=w at this;simp only [sd,e];simp [cF,One.dat,An1.dat,this,szl,aO1,hk,hl]
 | swap k x y =>
  simp only [One.key] at hk;have:=xE (st:=st) (k:=k) (by omega);generalize e:st.getD k 0=v at this;simp only [sd,e]
  by_cases e:v=x
  ·subst e;simp [cF,One.dat,An1.dat,this,szl,aO1,hk,hl]
  ·simp [cF,One.dat,An1.dat,this,szl,aO1,hk,hl,e]
theorem xF:∀ (cs:List One) (st:List Int) (o:One),dr st (cs++[o])=((dr st cs).1++[(sd (dr st cs).2 o).1],(sd (dr st cs).2 o).2)
 | [],st,o=>rfl
 | c::r,st,o=>by simp [dr,xF r]
theorem vM:∀ (cs:List One) (st:List Int),(∀ o∈cs,o.key < st.length)->(dr st cs).2.length=st.length
 | [],st,_=>rfl
 | o::r,st,hk=>by
  have h1:=hk o List.mem_cons_self;have:=vM r (sd st o).2 fun o' ho=>by rw [vL h1];exact hk o' (List.mem_cons_of_mem _ ho)
  rw [vL h1] at this;exact this
theorem bK2:∀ (cs:List One) (st:List Int),(dr st cs).1.length=cs.length
 | [],st=>rfl
 | o::r,st=>by simp [dr,bK2 r]
theorem aO2:∀ (cs:List One) (st:List Int),Fit2 cs (dr st cs).1
 | [],st=>.nil
 | o::r,st=>.cons (xD st o) (aO2 r _)
theorem tF (cs:List One) (hk:∀ o∈cs,o.key < 8) (hc:cs.length<=100) (st:List Int) (hl:st.length=8):aD T (d+3) "deal_done" [.d (.tuple (st.map .int)),.d (.tuple (cs.map One.dat))] h=some (.tuple [.tuple [.str "each",.tuple ((dr st cs).1.map An1.dat)],.tuple ((dr st cs).2.map .int)],h):=by
 rw [show d+3=(d+2)+1 from rfl,sY];simp [szl];generalize hr:cI _ _ _ _ _ _ _=r;have kk:∃ δ' h',r=some (.nx δ',h')/\∃ (x1 x3 x4:Option W),δ'=[some (.d (.tuple ((dr st cs).2.map .int))),x1,some (.c h.length),x3,x4]/\h'=h++[.l ((dr st cs).1.map An1.dat)]:=by
  rw [<- hr];clear hr;refine cU (fun m δ' h'=>∃ (x1 x3 x4:Option W),δ'=[some (.d (.tuple ((dr st (cs.take m)).2.map .int))),x1,some (.c h.length),x3,x4]/\h'=h++[.l ((dr st (cs.take m)).1.map An1.dat)]) ⟨_,_,_,rfl,rfl⟩ (fun δ h'=>?_) ?_
  ·rw [List.length_map,List.take_length];exact id
  ·rintro m hm δ h' ⟨x1,x3,x4,rfl,rfl⟩;have hm':m < cs.length:=by simpa using hm
   have l2:(dr st (cs.take m)).2.length=8:=by rw [vM _ _ fun o ho=>by rw [hl];exact hk o (List.mem_of_mem_take ho)];exact hl
   have hs':=fun h=>tE d h (dr st (cs.take m)).2 cs[m] (hk _ (List.getElem_mem _)) l2;have ll:(dr st (cs.take m)).1.length < 16777216:=by rw [bK2,List.length_take];omega
   have e:cs.take (m+1)=cs.take m++[cs[m]]:=by rw [List.take_add_one];simp [hm']
   rw [List.getElem_map,e,xF];generalize dr st (cs.take m)=q at *;obtain ⟨as,st'⟩:=q;have gl:=CI.get_last h (.l (as.map An1.dat));have mp:=CI.mpre_last h (as.map An1.dat);dsimp only at *;generalize sd st' cs[m]=p at hs';refine ⟨_,_,rfl,[some (.d (.tuple (p.2.map .int))),x1,some (.c h.length),some (.d cs[m].dat),some (.d (.tuple [p.1.dat,.tuple (p.2.map .int)]))],h++[.l ((as++[p.1]).map An1.dat)],?_,_,_,_,rfl,rfl⟩;simp [hs',gl,mp,ll,szl]
 obtain ⟨δ',h',rfl,x1,x3,x4,rfl,rfl⟩:=kk;have tl:bY [.c h.length] (h++[.l ((dr st cs).1.map An1.dat)])=some (.d (.tuple ((dr st cs).1.map An1.dat)),h++[.l ((dr st cs).1.map An1.dat)]):=by
  simp [bY,ref]
 simp [tl,szl]
def ly (st:List Int) (ps:List (Nat×Int)):List Int:=ps.foldl (fun s p=>wv s p.1 p.2) st
theorem aO3:∀ (ps:List (Nat×Int)) (st:List Int),(∀ p∈ps,p.1 < st.length)->(ly st ps).length=st.length
 | [],st,_=>rfl
 | p::r,st,hk=>by
  have h1:=hk p List.mem_cons_self;have:=aO3 r (wv st p.1 p.2) fun q hq=>by rw [jG h1];exact hk q (List.mem_cons_of_mem _ hq)
  rw [jG h1] at this;exact this
theorem cC8 (ps:List (Nat×Int)) (hk:∀ p∈ps,p.1 < 8) (st:List Int) (hl:st.length=8):aD T (d+2) "laid" [.d (.tuple (st.map .int)),.d (.tuple (ps.map fun p=>.tuple [.int p.1,.int p.2]))] h=some (.tuple ((ly st ps).map .int),h):=by
 rw [show d+2=(d+1)+1 from rfl,cC1];simp;generalize hr:cI _ _ _ _ _ _ _=r;have kk:∃ δ' h',r=some (.nx δ',h')/\∃ x1 x2 x3,δ'=[some (.d (.tuple ((ly st ps).map .int))),x1,x2,x3]/\h'=h:=by
  rw [<- hr];clear hr;refine vC (fun p:Nat×Int=>.tuple [.int p.1,.int p.2]) (fun s p=>wv s p.1 p.2) (fun s δ' h'=>s.length=8/\∃ x1 x2 x3,δ'=[some (.d (.tuple (s.map .int))),x1,x2,x3]/\h'=h) st ps ⟨hl,_,_,_,rfl,rfl⟩ (fun _ _ z=>z.2) ?_;rintro p hp s δ h' ⟨hs,x1,x2,x3,rfl,rfl⟩;have hk':=hk p hp;have e:=fun h=>aO1 d h s p.1 p.2 hk' hs;refine ⟨[some (.d (.tuple (s.map .int))),x1,some (.d (.int p.1)),some (.d (.int p.2))],h',by simp [pQ],[some (.d (.tuple ((wv s p.1 p.2).map .int))),x1,some (.d (.int p.1)),some (.d (.int p.2))],h',?_,by rw [jG (by omega)];exact hs,_,_,_,rfl,rfl⟩;simp [e]
 obtain ⟨δ',h',rfl,x1,x2,x3,rfl,rfl⟩:=kk;simp
theorem aO4 (o:One) (st:List Int) (hk:o.key < 8) (hl:st.length=8):aD T (d+3) "done" [.d (.tuple (st.map .int)),.d o.dat] h=some (.tuple [(sd st o).1.dat,.tuple ((sd st o).2.map .int)],h):=by
 have e:=fun h=>tE d h st o hk hl;rw [show d+3=(d+2)+1 from rfl,lV];generalize sd st o=p at e;cases o<;>simp [One.dat] at e ⊢<;>simp [e]
theorem aA7 (cs:List One) (hk:∀ o∈cs,o.key < 8) (hc:cs.length<=100) (st:List Int) (hl:st.length=8):aD T (d+4) "done" [.d (.tuple (st.map .int)),.d (bK0 cs)] h=some (.tuple [.tuple [.str "each",.tuple ((dr st cs).1.map An1.dat)],.tuple ((dr st cs).2.map .int)],h):=by
 have e:=fun h=>tF d h cs hk hc st hl;rw [show d+4=(d+3)+1 from rfl,lV];simp [bK0,e]
theorem aO5 (ps:List (Nat×Int)) (hk:∀ p∈ps,p.1 < 8) (st:List Int) (hl:st.length=8):aD T (d+3) "done" [.d (.tuple (st.map .int)),.d (.tuple [.str "lay",.tuple (ps.map fun p=>.tuple [.int p.1,.int p.2])])] h=some (.tuple [.tuple [.str "done"],.tuple ((ly st ps).map .int)],h):=by
 have e:=fun h=>cC8 d h ps hk st hl;rw [show d+3=(d+2)+1 from rfl,lV];simp [e,szl]
theorem aA8 {s A S:PyData} {st:List Int} (e:∀ h,aD T (d+4) "done" [.d (.tuple (st.map .int)),.d s] h=some (.tuple [A,S],h)):aD T (d+5) "done" [.d (.tuple (st.map .int)),.d (.tuple [.str "look",s])] h=some (.tuple [A,.tuple (st.map .int)],h):=by
 rw [show d+5=(d+4)+1 from rfl,lV];simp [e,szl]
theorem cC9 (xs:List PyData) {i j:Nat} (hi:i<=j) (hj:j<=xs.length):cut xs (some (i:Int)) (some (j:Int))=(xs.drop i).take (j - i):=by
 have e1:HT.sIx xs.length 0 (some (i:Int))=i:=by
  unfold HT.sIx;simp only [];rw [if_neg (by omega)];omega
 have e2:HT.sIx xs.length xs.length (some (j:Int))=j:=by
  unfold HT.sIx;simp only [];rw [if_neg (by omega)];omega
 rw [cut,e1,e2]
theorem aA9 (lo hi:Nat) (h1:lo<=hi) (h2:hi<=8) (st:List Int) (hl:st.length=8):aD T (d+1) "done" [.d (.tuple (st.map .int)),.d (.tuple [.str "span",.int lo,.int hi])] h=some (.tuple [.tuple [.str "all",.tuple (((st.drop lo).take (hi - lo)).map .int)],.tuple (st.map .int)],h):=by
 have c:=cC9 (st.map PyData.int) (i:=lo) (j:=hi) h1 (by simp;omega);rw [<- List.map_drop,<- List.map_take] at c;simp [lV,c,szl]
end K15
namespace K15
open PySem PySem.Spec PyProof.Rows L2 DL CI SJ
variable (d:Nat) (h:aA)
theorem bC5 (ns:List Int):aD T (d+1) "_law_cell_at" [.d (.list (ns.map .int)),.d (.int 0)] h=some (.int (ns.head?.getD 0),h):=by
 cases ns<;>simp [lW]
@[simp] theorem dH5 {h:aA} {i:Nat} {xs:List PyData} (hi:i < h.length):cD [.c i] (h.set i (.l xs))=some (.d (.int xs.length),h.set i (.l xs)):=by simp [cD,wY hi]
def m1 (a n:Int):Int:=(a+7919*n+1)*48271%2147483647
def m2 (x:Int):Int:=x*(x / 1009+69621)%2147483647
def m3 (x:Int):Int:=x*(x / 2003+40692)%2147483399
def aI (s:S3) (b:Int):Int:=if 0 < s.1 then s.1%b else m3 (m2 (m1 s.2.1 (s.2.2+1)))%b
def digS (s:S3) (b:Int):S3:=if 0 < s.1 then (s.1 / b,s.2.1,s.2.2) else (s.1,s.2.1,s.2.2+1)
def st0 (c:Int):S3:=(c,c%2147483647,0)
theorem eR (s:S3) {b:Int} (hb:0 < b):0<=aI s b:=by
 unfold aI;split<;>exact Int.emod_nonneg _ (by omega)
theorem eS (s:S3) {b:Int} (hb:0 < b):aI s b < b:=by
 unfold aI;split<;>exact Int.emod_lt_of_pos _ hb
theorem bB (s:S3) {b:Int} (hb:0 < b):∃ n:Nat,aI s b=n/\(n:Int) < b:=⟨(aI s b).toNat,by have:=eR s hb;omega,by have:=eR s hb;have:=eS s hb;omega⟩
@[simp] theorem cY {i:Nat} (s:S3) (b:Int) (hi:i < h.length) (hb:0 < b) (hb2:aU b=true):aD T (d+1) "_law_digit" [.c i,.d (.int b)] (h.set i (stL s))=some (.int (aI s b),h.set i (stL (digS s b))):=by
 have e1:aU 1009=true:=by decide
 have e2:aU 2003=true:=by decide
 have h0:=gM (i:=7919) (by decide) (by decide) (s.2.2+1);have h1:=wX (j:=48271) (by decide) (by decide) (s.2.1+7919*(s.2.2+1)+1);have h2:fN (m1 s.2.1 (s.2.2+1)) (m1 s.2.1 (s.2.2+1) / 1009+69621)=true:=gM (by unfold m1;omega) (by unfold m1;omega) _;have h3:fN (m2 (m1 s.2.1 (s.2.2+1))) (m2 (m1 s.2.1 (s.2.2+1)) / 2003+40692)=true:=gM (by unfold m2;omega) (by unfold m2;omega) _;have z1:(s.2.1+7919*(s.2.2+1)+1)*48271%2147483647=m1 s.2.1 (s.2.2+1):=rfl;have z2:m1 s.2.1 (s.2.2+1)*(m1 s.2.1 (s.2.2+1) / 1009+69621)%2147483647=m2 (m1 s.2.1 (s.2.2+1)):=rfl;have z3:m2 (m1 s.2.1 (s.2.2+1))*(m2 (m1 s.2.1 (s.2.2+1)) / 2003+40692)%2147483399=m3 (m2 (m1 s.2.1 (s.2.2+1))):=rfl
 by_cases h4:0 < s.1<;>simp [iN,stL,hi,e1,e2,hb,hb2,h0,h1,h2,h3,h4,z1,z2,z3,aI,digS]
theorem tG {i:Nat} (c b:Int) (hi:i < h.length) (hb:0 < b) (hb2:aU b=true):aD T (d+1) "_law_digit" [.c i,.d (.int b)] (h.set i (.l [.int c]))=some (.int (aI (st0 c) b),h.set i (stL (digS (st0 c) b))):=by
 have e1:aU 1009=true:=by decide
 have e2:aU 2003=true:=by decide
 have h0:=gM (i:=7919) (by decide) (by decide) 1;have h1:=wX (j:=48271) (by decide) (by decide) (c%2147483647+7919+1);have h2:fN (m1 (c%2147483647) 1) (m1 (c%2147483647) 1 / 1009+69621)=true:=gM (by unfold m1;omega) (by unfold m1;omega) _;have h3:fN (m2 (m1 (c%2147483647) 1)) (m2 (m1 (c%2147483647) 1) / 2003+40692)=true:=gM (by unfold m2;omega) (by unfold m2;omega) _;have z1:(c%2147483647+7919+1)*48271%2147483647=m1 (c%2147483647) 1:=by simp [m1]
 have z2:m1 (c%2147483647) 1*(m1 (c%2147483647) 1 / 1009+69621)%2147483647=m2 (m1 (c%2147483647) 1):=rfl;have z3:m2 (m1 (c%2147483647) 1)*(m2 (m1 (c%2147483647) 1) / 2003+40692)%2147483399=m3 (m2 (m1 (c%2147483647) 1)):=rfl
 by_cases h4:0 < c<;>simp [iN,stL,hi,e1,e2,hb,hb2,h0,h1,h2,h3,h4,z1,z2,z3,aI,digS,st0,szl]
end K15
namespace K15
open PySem PySem.Spec PyProof.Rows L2 DL CI SJ
def Stf (c:Cell) (s:S3):Prop:=c=stL s\/∃ n:Int,c=.l [.int n]/\s=st0 n
theorem stf (s:S3):Stf (stL s) s:=.inl rfl
theorem mE (d:Nat) (h:aA) {i:Nat} {c:Cell} {s:S3} (hc:Stf c s) (b:Int) (hi:i < h.length) (hb:0 < b) (hb2:aU b=true):aD T (d+1) "_law_digit" [.c i,.d (.int b)] (h.set i c)=some (.int (aI s b),h.set i (stL (digS s b))):=by
 rcases hc with rfl | ⟨n,rfl,rfl⟩
 ·exact cY d h s b hi hb hb2
 ·exact tG d h n b hi hb hb2
theorem dig_cases (s:S3):aI s 8 / 3=0\/aI s 8 / 3=1\/aI s 8 / 3=2:=by
 have:=eR s (b:=8) (by decide);have:=eS s (b:=8) (by decide);omega
theorem dig2 (s:S3):aI s 4 / 3=0\/aI s 4 / 3=1:=by
 have:=eR s (b:=4) (by decide);have:=eS s (b:=4) (by decide);omega
theorem dig4 (s:S3):aI s 4=0\/aI s 4=1\/aI s 4=2\/aI s 4=3:=by
 have:=eR s (b:=4) (by decide);have:=eS s (b:=4) (by decide);omega
theorem p12:aU 1000000000000=true:=by decide +kernel
theorem tH (s:S3):∃ r:Int×S3,∀ (d:Nat) (h:aA) (i:Nat) (c:Cell),Stf c s->i < h.length->aD T (d+2) "_law_value" [.c i] (h.set i c)=some (.int r.1,h.set i (stL r.2)):=by
 have e1:sC 10 12=true:=by decide
 have e3:aU 3=true:=by decide
 have e4:aU 2=true:=by decide
 have e5:aU 8=true:=by decide
 have p:=p12;rcases dig_cases (digS (digS (digS s 3) 2) 1000000000000) with e | e | e
 ·refine ⟨(aI s 3,digS (digS (digS (digS s 3) 2) 1000000000000) 8),fun d h i c hc hi=>?_⟩;have g:=mE d h hc 3 hi (by decide) e3;simp [fK,hi,g,e,e1,e3,e4,e5,p,aQ,szl]
 ·refine ⟨(aI (digS s 3) 2 - 1,digS (digS (digS (digS s 3) 2) 1000000000000) 8),fun d h i c hc hi=>?_⟩;have g:=mE d h hc 3 hi (by decide) e3;simp [fK,hi,g,e,e1,e3,e4,e5,p,aQ,szl]
 ·refine ⟨(aI (digS (digS s 3) 2) 1000000000000,digS (digS (digS (digS s 3) 2) 1000000000000) 8),fun d h i c hc hi=>?_⟩;have g:=mE d h hc 3 hi (by decide) e3;simp [fK,hi,g,e,e1,e3,e4,e5,p,aQ,szl]
noncomputable def vF (s:S3):Int×S3:=(tH s).choose
theorem mF (d:Nat) (h:aA) {i:Nat} {c:Cell} {s:S3} (hc:Stf c s) (hi:i < h.length):aD T (d+2) "_law_value" [.c i] (h.set i c)=some (.int (vF s).1,h.set i (stL (vF s).2)):=(tH s).choose_spec d h i c hc hi
@[simp] theorem cW3 (d:Nat) (h:aA) {i:Nat} (s:S3) (hi:i < h.length):aD T (d+2) "_law_value" [.c i] (h.set i (stL s))=some (.int (vF s).1,h.set i (stL (vF s).2)):=mF d h (stf s) hi
theorem mG (s:S3):∃ r:One×S3,r.1.ok/\∀ (d:Nat) (h:aA) (i:Nat),i < h.length->aD T (d+3) "_law_plain_call" [.c i] (h.set i (stL s))=some (r.1.dat,h.set i (stL r.2)):=by
 have e3:aU 4=true:=by decide
 have e4:aU 2=true:=by decide
 have e5:aU 8=true:=by decide
 have e6:aU 3=true:=by decide
 obtain ⟨k,hk,ek⟩:∃ k:Nat,k < 8/\atI [PyData.int (aI (digS s 4) 2),.int (aI (digS (digS s 4) 2) 8)] (aI (digS (digS (digS s 4) 2) 8) 4 / 3)=some (.int k):=by
  obtain ⟨a,ea,ha⟩:=bB (digS s 4) (b:=2) (by decide);obtain ⟨b,eb,hb⟩:=bB (digS (digS s 4) 2) (b:=8) (by decide);rcases dig2 (digS (digS (digS s 4) 2) 8) with y | y
  ·exact ⟨a,by omega,by rw [y,ea];simp⟩
  ·exact ⟨b,by omega,by rw [y,eb];simp⟩
 rcases dig4 s with e | e | e | e
 ·refine ⟨(.read k,digS (digS (digS (digS s 4) 2) 8) 4),hk,fun d h i hi=>?_⟩;simp [bV,hi,e,ek,e3,e4,e5,e6,One.dat,szl,aQ]
 ·refine ⟨(.write k (vF (digS (digS (digS (digS s 4) 2) 8) 4)).1,(vF (digS (digS (digS (digS s 4) 2) 8) 4)).2),hk,fun d h i hi=>?_⟩;simp [bV,hi,e,ek,e3,e4,e5,e6,One.dat,szl,aQ]
 ·refine ⟨(.add k (vF (digS (digS (digS (digS s 4) 2) 8) 4)).1,(vF (digS (digS (digS (digS s 4) 2) 8) 4)).2),hk,fun d h i hi=>?_⟩;simp [bV,hi,e,ek,e3,e4,e5,e6,One.dat,szl,aQ]
 ·refine ⟨(.swap k (vF (digS (digS (digS (digS s 4) 2) 8) 4)).1 (vF (vF (digS (digS (digS (digS s 4) 2) 8) 4)).2).1,(vF (vF (digS (digS (digS (digS s 4) 2) 8) 4)).2).2),hk,fun d h i hi=>?_⟩;simp [bV,hi,e,ek,e3,e4,e5,e6,One.dat,szl,aQ]
noncomputable def pF (s:S3):One×S3:=(mG s).choose
theorem aO6 (s:S3):(pF s).1.ok:=(mG s).choose_spec.1
@[simp] theorem cW4 (d:Nat) (h:aA) {i:Nat} (s:S3) (hi:i < h.length):aD T (d+3) "_law_plain_call" [.c i] (h.set i (stL s))=some ((pF s).1.dat,h.set i (stL (pF s).2)):=(mG s).choose_spec.2 d h i hi
theorem tI:∀ (xs:List PyData) (s:S3),∃ cs:List One,(thr (fun _ s=>(pF s).1.dat) (fun _ s=>(pF s).2) xs s).1=cs.map One.dat/\cs.length=xs.length/\∀ c∈cs,c.ok
 | [],s=>⟨[],rfl,rfl,fun _ z=>nomatch z⟩
 | x::r,s=>by
  obtain ⟨cs,e,hl,hc⟩:=tI r (pF s).2;refine ⟨(pF s).1::cs,by simp [thr,e],by simp [hl],fun c hm=>?_⟩;rcases List.mem_cons.mp hm with rfl | hm
  ·exact aO6 s
  ·exact hc c hm
def iO (p:PyData->S3->Bool) (n:PyData->S3->S3) (f:PyData->S3->PyData) (n2:PyData->S3->S3):List PyData->S3->List PyData×S3
 | [],s=>([],s)
 | x::r,s=>if p x s=true then (f x (n x s)::(iO p n f n2 r (n2 x (n x s))).1,(iO p n f n2 r (n2 x (n x s))).2) else iO p n f n2 r (n x s)
theorem mH {g:XG} {tt:XR Bool} {te:XR W} {all:List PyData} {h:aA} {i:Nat} (p:PyData->S3->Bool) (n:PyData->S3->S3) (f:PyData->S3->PyData) (n2:PyData->S3->S3) (k:Nat) (hg:∀ w δ h,g w δ h=some (δ.set k (some w),h)) :
  ∀ (rest:List PyData) (δ:DSt) (ac:List PyData) (s:S3),(∀ x∈rest,∀ u s,tt ((δ.set k u).set k (some (.d x))) (h.set i (stL s))=some (p x s,h.set i (stL (n x s))))->(∀ x∈rest,∀ u s,te ((δ.set k u).set k (some (.d x))) (h.set i (stL s))=some (.d (f x s),h.set i (stL (n2 x s)))) ->
   aO g tt te none all rest δ (h.set i (stL s)) ac=some (ac++(iO p n f n2 rest s).1,h.set i (stL (iO p n f n2 rest s).2))
 | [],δ,ac,s,_,_=>by simp [aO,iO]
 | x::r,δ,ac,s,hf,ht=>by
  have e:=hf x List.mem_cons_self none s;rw [List.set_set] at e;have e2:=ht x List.mem_cons_self none;simp only [List.set_set] at e2;have more:∀ ac s',aO g tt te none all r (δ.set k (some (.d x))) (h.set i (stL s')) ac=some (ac++(iO p n f n2 r s').1,h.set i (stL (iO p n f n2 r s').2)):=fun ac s' =>
   mH p n f n2 k hg r _ _ _ (fun y hy u s=>by
    have:=hf y (List.mem_cons_of_mem _ hy) u s;rw [List.set_set] at this ⊢;rw [List.set_set];exact this) fun y hy u s=>by
    have:=ht y (List.mem_cons_of_mem _ hy) u s;rw [List.set_set] at this ⊢;rw [List.set_set];exact this
  rw [aO,cJ,if_pos rfl,hg];simp only [Option.bind_some,e];cases hp:p x s
  ·simp [more,iO,hp]
  ·simp [e2,more,iO,hp]
theorem jH (p:PyData->S3->Bool) (n:PyData->S3->S3):∀ (m a:Nat) (s:S3),∃ ps:List (Nat×Int),(iO p n (fun x s=>.tuple [x,.int (vF s).1]) (fun _ s=>(vF s).2) (rng (a:Int) m) s).1=ps.map prP/\(ps.map (·.1)).Pairwise (· < ·)/\(∀ q∈ps,a<=q.1/\q.1 < a+m)/\ps.length<=m
 | 0,a,s=>⟨[],rfl,.nil,(fun _ z=>nomatch z),Nat.le_refl 0⟩
 | m+1,a,s=>by
  have er:rng (a:Int) (m+1)=.int a::rng ((a+1:Nat):Int) m:=by
   unfold rng;rw [List.range_succ_eq_map];simp [Function.comp_def];intro b hb;omega
  rw [er,iO];split
  ·obtain ⟨ps,e,hp,hb,hl⟩:=jH p n m (a+1) ((vF (n (.int a) s)).2);refine ⟨(a,(vF (n (.int a) s)).1)::ps,by simp only [e];rfl,?_,fun q hq=>?_,by simp only [List.length_cons];omega⟩
   ·rw [List.map_cons];refine .cons (fun k hk=>?_) hp;obtain ⟨q,hq,rfl⟩:=List.mem_map.mp hk;have:=hb q hq;show a < q.1;omega
   ·rcases List.mem_cons.mp hq with rfl | hq
    ·exact ⟨Nat.le_refl _,by show a < a+(m+1);omega⟩
    ·have:=hb q hq;omega
  ·obtain ⟨ps,e,hp,hb,hl⟩:=jH p n m (a+1) (n (.int a) s);exact ⟨ps,e,hp,fun q hq=>by have:=hb q hq;omega,by omega⟩
def Sok:Stp->Prop
 | .call c=>c.ok
 | .look c=>c.ok
 | .lay ps=>ps≠[]/\ps.length<=9/\(∀ p∈ps,p.1 < 8)/\(ps.map (·.1)).Pairwise (· < ·)
theorem cD0 (xs:List PyData) (x:PyData):atI (xs++[x]) (-1)=some x:=by
 simp [atI,L2.ixN];rw [if_pos (by omega),show (-1+((xs.length:Int)+1)).toNat=xs.length by omega];simp
theorem aB0 (s:S3) (hk:aI s 9 < 5) (d:Nat) (h:aA) {i:Nat} (hi:i < h.length):aD T (d+4) "_law_step" [.c i] (h.set i (stL s))=some ((pF (digS s 9)).1.dat,h.set i (stL (pF (digS s 9)).2)):=by
 have e9:aU 9=true:=by decide
 simp [bL,hi,hk,e9]
theorem bC6 (s:S3) (hk:aI s 9=5):∃ (r:SJ.Call×S3),r.1.ok/\∀ (d:Nat) (h:aA) (i:Nat),i < h.length->aD T (d+4) "_law_step" [.c i] (h.set i (stL s))=some (r.1.dat,h.set i (stL r.2)):=by
 have e9:aU 9=true:=by decide
 have e8:aU 8=true:=by decide
 obtain ⟨k,ek,hk'⟩:=bB (digS s 9) (b:=8) (by decide);obtain ⟨m,em,hm⟩:=bB (digS (digS s 9) 8) (b:=8 - k) (by omega);refine ⟨(.span k (k+1+m),digS (digS (digS s 9) 8) (8 - k)),⟨by omega,by omega⟩,fun d h i hi=>?_⟩;have h1:(k:Int) < 8:=hk';have h2:aU (8 - (k:Int))=true:=cX (by omega) (by omega);simp [bL,hi,hk,ek,em,h1,h2,e9,e8,Call.dat,szl,aQ]
theorem bC7 (s:S3) (hk:aI s 9=6):∃ (r:SJ.Call×S3),r.1.ok/\∀ (d:Nat) (h:aA) (i:Nat),i < h.length->aD T (d+4) "_law_step" [.c i] (h.set i (stL s))=some (r.1.dat,h.set i (stL r.2)):=by
 have e9:aU 9=true:=by decide
 have e4:aU 4=true:=by decide
 obtain ⟨m,em,hm⟩:=bB (digS s 9) (b:=4) (by decide);obtain ⟨cs,ec,hl,hc⟩:=tI (rng 0 (m+1)) (digS (digS s 9) 4);have hl':cs.length=m+1:=by rw [hl];simp [rng]
 refine ⟨(.deal cs,(thr (fun _ s=>(pF s).1.dat) (fun _ s=>(pF s).2) (rng 0 (m+1)) (digS (digS s 9) 4)).2),⟨by omega,by omega,hc⟩,fun d h i hi=>?_⟩;have er:gA 0 (1+(m:Int))=true:=bT (by omega) (by omega);have et:(1+(m:Int)).toNat=m+1:=by omega
 simp [bL,hi,hk,em,Call.dat,szl,er,et,e9,e4,aQ];rw [oH (fun _ s=>(pF s).1.dat) (fun _ s=>(pF s).2) 0 (fun _ _ _=>rfl)]
 ·simp [ec]
 ·intro x _ u s;simp [hi]
theorem bC8 (s:S3) (hk:aI s 9=7):∃ (r:SJ.Call×S3),r.1.ok/\∀ (d:Nat) (h:aA) (i:Nat),i < h.length->aD T (d+4) "_law_step" [.c i] (h.set i (stL s))=some ((Stp.look r.1).dat,h.set i (stL r.2)):=by
 have e9:aU 9=true:=by decide
 have e8:aU 8=true:=by decide
 have e3:aU 3=true:=by decide
 obtain ⟨k,ek,hk'⟩:=bB (digS s 9) (b:=8) (by decide);have h3:aI (pF (pF (pF (digS (digS s 9) 8)).2).2).2 3=0\/aI (pF (pF (pF (digS (digS s 9) 8)).2).2).2 3=1\/aI (pF (pF (pF (digS (digS s 9) 8)).2).2).2 3=2:=by
  have:=eR (pF (pF (pF (digS (digS s 9) 8)).2).2).2 (b:=3) (by decide);have:=eS (pF (pF (pF (digS (digS s 9) 8)).2).2).2 (b:=3) (by decide);omega
 rcases h3 with e | e | e
 ·refine ⟨(.one (pF (digS (digS s 9) 8)).1,digS (pF (pF (pF (digS (digS s 9) 8)).2).2).2 3),aO6 _,fun d h i hi=>?_⟩;simp [bL,hi,hk,ek,e,e9,e8,e3,Stp.dat,Call.dat,szl,aQ]
 ·refine ⟨(.span k 8,digS (pF (pF (pF (digS (digS s 9) 8)).2).2).2 3),⟨by omega,by omega⟩,fun d h i hi=>?_⟩;simp [bL,hi,hk,ek,e,e9,e8,e3,Stp.dat,Call.dat,szl,aQ]
 ·refine ⟨(.deal [(pF (pF (digS (digS s 9) 8)).2).1,(pF (pF (pF (digS (digS s 9) 8)).2).2).1],digS (pF (pF (pF (digS (digS s 9) 8)).2).2).2 3),⟨by simp,by simp,fun c hm=>?_⟩,fun d h i hi=>?_⟩
  ·simp at hm;rcases hm with rfl | rfl
   ·exact aO6 _
   ·exact aO6 _
  simp [bL,hi,hk,ek,e,e9,e8,e3,Stp.dat,Call.dat,szl,aQ]
theorem plP:∀ (ps:List (Nat×Int)) (m:Nat),plainsB (m+1) (ps.map prP)=true
 | [],m=>by simp
 | a::r,m=>by simp [prP,plP r]
theorem cD1 (h:aA):xEq (.d (.list [])) (.d (.list [])) h=some true:=by simp [xEq,ref,PyData.eqv,PyData.eqvAll]
theorem bC9 (ps:List (Nat×Int)) (hn:ps≠[]) (h:aA):xEq (.d (.list (ps.map prP))) (.d (.list [])) h=some false:=by
 cases ps with
 | nil=>exact absurd rfl hn
 | cons a r =>
  have:=plP (a::r);simp [xEq,ref,PyData.eqv,PyData.eqvAll,prP,plP]
@[simp] theorem dH6 (b:Bool) (h:aA):aJ2 [.d (.bool b)] h=some (.d (.int (if b then 1 else 0)),h):=rfl
@[simp] theorem dH7 (x:PyData):cut [x] (some 0) none=[x]:=rfl
@[simp] theorem dH8 (x:PyData):cut [x] (some 1) none=[]:=cC2 x []
theorem bD0 (s:S3) (hk:aI s 9=8):∃ (ps:List (Nat×Int)) (s':S3),Sok (.lay ps)/\∀ (d:Nat) (h:aA) (i:Nat),i < h.length->aD T (d+4) "_law_step" [.c i] (h.set i (stL s))=some ((Stp.lay ps).dat,h.set i (stL s')):=by
 have e9:aU 9=true:=by decide
 have e3:aU 3=true:=by decide
 have er:gA 0 8=true:=bT (by omega) (by omega);obtain ⟨ps,ep,hp,hb,hl⟩:=jH (fun _ s=>decide (aI s 3=0)) (fun _ s=>digS s 3) 8 0 (digS s 9);obtain ⟨s1,es⟩:∃ s1,s1=(iO (fun _ s=>decide (aI s 3=0)) (fun _ s=>digS s 3) (fun x s=>.tuple [x,.int (vF s).1]) (fun _ s=>(vF s).2) (rng 0 8) (digS s 9)).2:=⟨_,rfl⟩;have ec:∀ (d:Nat) (h:aA) (i:Nat),i < h.length->∀ (g:XG) (tt:XR Bool) (te:XR W) (all:List PyData) (δ:DSt),(∀ w δ h,g w δ h=some (δ.set 0 (some w),h)) ->
   (∀ x∈rng 0 8,∀ u s,tt ((δ.set 0 u).set 0 (some (.d x))) (h.set i (stL s))=some (decide (aI s 3=0),h.set i (stL (digS s 3)))) ->
   (∀ x∈rng 0 8,∀ u s,te ((δ.set 0 u).set 0 (some (.d x))) (h.set i (stL s))=some (.d (.tuple [x,.int (vF s).1]),h.set i (stL (vF s).2))) ->
   aO g tt te none all (rng 0 8) δ (h.set i (stL (digS s 9))) []=some (ps.map prP,h.set i (stL s1)):=fun d h i hi g tt te all δ hg h1 h2=>by
  rw [mH (fun _ s=>decide (aI s 3=0)) (fun _ s=>digS s 3) (fun x s=>.tuple [x,.int (vF s).1]) (fun _ s=>(vF s).2) 0 hg _ _ _ _ h1 h2,es];have ep':(iO (fun _ s=>decide (aI s 3=0)) (fun _ s=>digS s 3) (fun x s=>.tuple [x,.int (vF s).1]) (fun _ s=>(vF s).2) (rng 0 8) (digS s 9)).1=ps.map prP:=ep;rw [ep'];rfl
 rcases List.eq_nil_or_concat ps with rfl | ⟨qs,q,eq⟩
 ·refine ⟨[(7,(vF s1).1)],(vF s1).2,⟨by simp,by simp,by simp,by simp⟩,fun d h i hi=>?_⟩;simp [bL,hi,hk,er,e9,e3,Stp.dat,szl,aQ];rw [ec d h i hi]
  ·simp [prP,hi,aQ,szl,cD1]
  ·exact fun _ _ _=>rfl
  ·intro x _ u s;simp [hi,e3]
  ·intro x _ u s;simp [hi,szl]
 ·rw [List.concat_eq_append] at eq;subst eq;have hz:qs.length+1<=16777216:=by simp at hl;omega
  have hz2:qs.length+1+1<=16777216:=by simp at hl;omega
  have hpr:prP=fun p=>PyData.tuple [.int p.1,.int p.2]:=rfl;have hne:=bC9 (qs++[q]) (by simp);have hat:atI ((qs++[q]).map prP) (-1)=some (prP q):=by rw [List.map_append];exact cD0 _ _
  by_cases h7:q.1=7
  ·refine ⟨qs++[q],(vF s1).2,⟨by simp,by omega,(fun p hp=>by have:=hb p hp;omega),hp⟩,fun d h i hi=>?_⟩;have h7':(q.1:Int)=7:=by omega
   simp [bL,hi,hk,er,e9,e3,Stp.dat,szl,aQ];rw [ec d h i hi]
   ·simp [-List.map_append,hne,hat,prP,hi,aQ,szl,h7',hz];simp [hpr,h7']
   ·exact fun _ _ _=>rfl
   ·intro x _ u s;simp [hi,e3]
   ·intro x _ u s;simp [hi,szl]
  ·refine ⟨qs++[q]++[(7,(vF s1).1)],(vF s1).2,⟨by simp,by simp at hl ⊢;omega,fun p hp=>?_,?_⟩,fun d h i hi=>?_⟩
   ·rcases List.mem_append.mp hp with hp | hp
    ·have:=hb p hp;omega
    ·simp at hp;rw [hp];show 7 < 8;omega
   ·rw [List.map_append];refine List.pairwise_append.mpr ⟨hp,by simp,fun a ha b hb'=>?_⟩;simp at hb';subst hb';rw [List.map_append] at hp ha;have hlt:=(List.pairwise_append.mp hp).2.2;have hq:=hb q (by simp);rcases List.mem_append.mp ha with ha | ha
    ·have:=hlt a ha q.1 (by simp);omega
    ·simp at ha;omega
   have h7':¬ (q.1:Int)=7:=by omega
   simp [bL,hi,hk,er,e9,e3,Stp.dat,szl,aQ];rw [ec d h i hi]
   ·simp [-List.map_append,hne,hat,prP,hi,aQ,szl,h7',hz2];simp [hpr]
   ·exact fun _ _ _=>rfl
   ·intro x _ u s;simp [hi,e3]
   ·intro x _ u s;simp [hi,szl]
theorem qN (s:S3):∃ r:Stp×S3,Sok r.1/\∀ (d:Nat) (h:aA) (i:Nat),i < h.length->aD T (d+4) "_law_step" [.c i] (h.set i (stL s))=some (r.1.dat,h.set i (stL r.2)):=by
 have h0:=eR s (b:=9) (by decide);have h9:=eS s (b:=9) (by decide)
 by_cases k5:aI s 9 < 5
 ·exact ⟨(.call (.one (pF (digS s 9)).1),(pF (digS s 9)).2),aO6 _,fun d h i hi=>aB0 s k5 d h hi⟩
 have:aI s 9=5\/aI s 9=6\/aI s 9=7\/aI s 9=8:=by omega
 rcases this with k | k | k | k
 ·obtain ⟨r,hr,e⟩:=bC6 s k;exact ⟨(.call r.1,r.2),hr,e⟩
 ·obtain ⟨r,hr,e⟩:=bC7 s k;exact ⟨(.call r.1,r.2),hr,e⟩
 ·obtain ⟨r,hr,e⟩:=bC8 s k;exact ⟨(.look r.1,r.2),hr,e⟩
 ·obtain ⟨ps,s',hr,e⟩:=bD0 s k;exact ⟨(.lay ps,s'),hr,e⟩
noncomputable def sF (s:S3):Stp×S3:=(qN s).choose
theorem bD1 (s:S3):Sok (sF s).1:=(qN s).choose_spec.1
@[simp] theorem cD2 (d:Nat) (h:aA) {i:Nat} (s:S3) (hi:i < h.length):aD T (d+4) "_law_step" [.c i] (h.set i (stL s))=some ((sF s).1.dat,h.set i (stL (sF s).2)):=(qN s).choose_spec.2 d h i hi
theorem tJ {n:Nat}:∀ (l:List Nat) (a:Nat),l.Pairwise (· < ·)->(∀ x∈l,a<=x/\x < n)->a<=n->l.length+a<=n
 | [],a,_,_,h=>by simpa using h
 | x::r,a,hp,hb,h=>by
  have hp':=List.pairwise_cons.mp hp;have hx:=hb x List.mem_cons_self;have:=tJ r (x+1) hp'.2 (fun y hy=>⟨hp'.1 y hy,(hb y (List.mem_cons_of_mem _ hy)).2⟩) hx.2;rw [List.length_cons];omega
theorem xG {ps:List (Nat×Int)} (h:Sok (.lay ps)):ps.length<=8:=by
 have:=tJ (n:=8) (ps.map (·.1)) 0 h.2.2.2 (fun x hx=>by
  obtain ⟨p,hp,rfl⟩:=List.mem_map.mp hx;exact ⟨Nat.zero_le _,h.2.2.1 p hp⟩) (by decide)
 simpa using this
variable (d:Nat) (h:aA)
def dnC (st:List Int):SJ.Call->SJ.Ans×List Int
 | .one o=>(.one (sd st o).1,(sd st o).2)
 | .span lo hi=>(.all ((st.drop lo).take (hi - lo)),st)
 | .deal cs=>(.each (dr st cs).1,(dr st cs).2)
theorem bD2 {c:SJ.Call} (hc:c.ok) {st:List Int} (hl:st.length=8):(dnC st c).2.length=8:=by
 cases c with
 | one o=>rw [<- hl];exact vL (by rw [hl];exact hc)
 | span lo hi=>exact hl
 | deal cs=>rw [<- hl];exact vM cs st fun o ho=>by rw [hl];exact hc.2.2 o ho
theorem iP {c:SJ.Call} (hc:c.ok) {st:List Int} (hl:st.length=8):Ans.fits c (dnC st c).1:=by
 cases c with
 | one o=>exact xD st o
 | span lo hi =>
  have h1:=hc.1;have h2:=hc.2;show ((st.drop lo).take (hi - lo)).length=hi - lo;simp;omega
 | deal cs=>exact aO2 cs st
theorem oN {c:SJ.Call} (hc:c.ok) (st:List Int) (hl:st.length=8):aD T (d+4) "done" [.d (.tuple (st.map .int)),.d c.dat] h=some (.tuple [(dnC st c).1.dat,.tuple ((dnC st c).2.map .int)],h):=by
 cases c with
 | one o=>exact aO4 (d+1) h o st hc hl
 | span lo hi=>exact aA9 (d+3) h lo hi (Nat.le_of_lt hc.1) hc.2 st hl
 | deal cs=>exact aA7 d h cs hc.2.2 (by have:=hc.1;omega) st hl
def dnS (st:List Int):Stp->PyData×List Int
 | .call c=>((dnC st c).1.dat,(dnC st c).2)
 | .look c=>((dnC st c).1.dat,st)
 | .lay ps=>(.tuple [.str "done"],ly st ps)
theorem bD3 {p:Stp} (hp:Sok p) {st:List Int} (hl:st.length=8):(dnS st p).2.length=8:=by
 cases p with
 | call c=>exact bD2 hp hl
 | look c=>exact hl
 | lay ps=>rw [<- hl];exact aO3 ps st fun p hp'=>by rw [hl];exact hp.2.2.1 p hp'
theorem vN {p:Stp} (hp:Sok p) {st:List Int} (hl:st.length=8):aD T (d+5) "done" [.d (.tuple (st.map .int)),.d p.dat] h=some (.tuple [(dnS st p).1,.tuple ((dnS st p).2.map .int)],h):=by
 cases p with
 | call c=>exact oN (d+1) h hp st hl
 | look c=>exact aA8 d h fun h=>oN d h hp st hl
 | lay ps=>exact aO5 (d+2) h ps hp.2.2.1 st hl
def kE:Stp->PyData->Bool
 | .call c,t=>aG t "refused" 1||bJ c t
 | .look c,t=>!aG t "refused" 1&&bJ c t
 | .lay _,t=>!aG t "refused" 1&&aG t "done" 1
theorem cD3 (a:SJ.Ans):aG a.dat "refused" 1=false:=by
 cases a with
 | one a=>cases a<;>simp [Ans.dat,An1.dat,aG]
 | all ns=>simp [Ans.dat,aG]
 | each as=>simp [Ans.dat,aG]
theorem iQ {c:SJ.Call} (hc:c.ok) {a:SJ.Ans} (hf:Ans.fits c a):kE (.call c) a.dat=true/\kE (.look c) a.dat=true:=by
 simp [kE,yZ hf hc,cD3]
end K15
set_option maxHeartbeats 400000
namespace K15
open PySem PySem.Spec PyProof.Rows L2 DL CI SJ
variable (d:Nat) (h:aA) (t:PyData)
theorem aO7 (c:SJ.Call):aD T (d+5) "is_own_answer" [.d (.tuple [.str "look",c.dat]),.d t] h=some (.bool (bJ c t),h):=by
 rw [show d+5=(d+4)+1 from rfl,aV];simp [PyData.eqv,szl,mC]
theorem bD4 (ps:PyData):aD T (d+5) "is_own_answer" [.d (.tuple [.str "lay",ps]),.d t] h=some (.bool (aG t "done" 1),h):=by
 simp [aV,PyData.eqv,szl]
theorem aO8 {c:SJ.Call} (hc:c.ok):aD T (d+9) "is_answer" [.d (.tuple [.str "look",c.dat]),.d t] h=some (.bool (!aG t "refused" 1&&bJ c t),h):=by
 have hs:cO (.tuple [.str "look",c.dat])=true:=by
  cases c with
  | one o=>cases o<;>simp [Call.dat,One.dat,cO]
  | span lo hi=>simp [Call.dat,cO]
  | deal cs=>simp [Call.dat,cO]
 simp [gC,dO (d) _ h hs,(gI hc).2.1,(gI hc).1];cases e:aG t (Str.ofString "refused") 1
 ·simp [aO7 (d+3)]
 ·simp [(gI hc).1]
theorem bD5 {ps:List (Nat×Int)} (hp:Sok (.lay ps)):aD T (d+9) "is_answer" [.d (.tuple [.str "lay",.tuple (ps.map prP)]),.d t] h=some (.bool (!aG t "refused" 1&&aG t "done" 1),h):=by
 have hl:=xG hp;have hs:cO (.tuple [.str "lay",.tuple (ps.map prP)])=true:=by simp [cO];omega
 have hg:=aG8 hp.1 hp.2.2.2 hp.2.2.1 hl;simp [gC,dO (d) _ h hs,hg];cases e:aG t (Str.ofString "refused") 1
 ·simp [bD4 (d+3)]
 ·simp [hg]
theorem aO9 {p:Stp} (hp:Sok p):aD T (d+9) "is_answer" [.d p.dat,.d t] h=some (.bool (kE p t),h):=by
 cases p with
 | call c=>exact vJ d t h hp
 | look c=>exact aO8 d h t hp
 | lay ps=>exact bD5 d h t hp
theorem aP0 {p:Stp} (hp:Sok p):aD T (d+8) "is_step" [.d p.dat] h=some (.bool true,h):=by
 cases p with
 | call c =>
  rw [show (Stp.call c).dat=c.dat from rfl,dO _ _ _ (mD hp),(eU hp).2.1]
 | look c =>
  have hs:cO (.tuple [.str "look",c.dat])=true:=by
   cases c with
   | one o=>cases o<;>simp [Call.dat,One.dat,cO]
   | span lo hi=>simp [Call.dat,cO]
   | deal cs=>simp [Call.dat,cO]
  rw [show (Stp.look c).dat=.tuple [.str "look",c.dat] from rfl,dO _ _ _ hs,(gI hp).2.1]
 | lay ps=>exact vK d h hp.1 (by have:=xG hp;omega) hp.2.2.1 hp.2.2.2
def mU:An1->An1
 | .got v=>.got (v+1)
 | .yes=>.no
 | .no=>.yes
 | .dn=>.dn
def aB1:SJ.Ans->SJ.Ans
 | .one a=>.one (mU a)
 | .all ns=>.all ((ns.headD 0 - 1)::ns.tail)
 | .each as=>.each (as.map mU)
theorem oO {o:One} {a:An1} (hf:An1.fits o a):An1.fits o (mU a):=by
 cases o<;>cases a<;>simp [An1.fits] at hf<;>simp [An1.fits,mU]
theorem oP:∀ {os:List One} {as:List An1},Fit2 os as->Fit2 os (as.map mU)
 | _,_,.nil=>.nil
 | _,_,.cons h t=>.cons (oO h) (oP t)
theorem tK {c:SJ.Call} (hc:c.ok) {a:SJ.Ans} (hf:Ans.fits c a):Ans.fits c (aB1 a):=by
 cases c<;>cases a<;>simp only [Ans.fits] at hf<;>first | exact hf.elim | skip
 ·exact oO hf
 ·rename_i lo hi ns;have:=hc.1;show ((ns.headD 0 - 1)::ns.tail).length=hi - lo;simp;omega
 ·exact oP hf
theorem vO (a:An1):aD T (d+1) "_law_altered" [.d a.dat] h=some ((mU a).dat,h):=by
 cases a<;>simp [dY,An1.dat,mU,szl]
theorem aP1 (a:SJ.Ans) (ha:∀ ns,a=.all ns->ns≠[]/\ns.length<=8):aD T (d+2) "_law_altered" [.d a.dat] h=some ((aB1 a).dat,h):=by
 cases a with
 | one a=>exact vO (d+1) h a
 | all ns =>
  cases ns with
  | nil=>exact absurd rfl (ha [] rfl).1
  | cons n r =>
   have:=cC2 (.int n) (r.map .int);have hr:1+r.length<=16777216:=by have:=(ha _ rfl).2;simp at this;omega
   simp [dY,Ans.dat,aB1,szl,this,hr]
 | each as =>
  rw [show d+2=(d+1)+1 from rfl,dY];simp [Ans.dat,aB1,szl];have e1:as.map An1.dat=(as.map fun a=>(a.dat,(mU a).dat)).map (·.1):=by simp
  have e2:as.map (fun a=>(mU a).dat)=(as.map fun a=>(a.dat,(mU a).dat)).map (·.2):=by simp
  rw [e1,hU (fun δ=>∃ x,δ=[x])]
  ·simp [Function.comp_def]
  ·exact ⟨_,rfl⟩
  ·rintro q hq δ ⟨x,rfl⟩;obtain ⟨a,ha,rfl⟩:=List.mem_map.mp hq;exact ⟨_,rfl,⟨_,rfl⟩,by simp [vO d]⟩
end K15
namespace K15
open PySem PySem.Spec PyProof.Rows L2 DL CI SJ
structure It where
 p:Stp
 t:PyData
 w:String
def It.dat (x:It):PyData:=.tuple [x.p.dat,x.t,.str (Str.ofString x.w)]
def aB2:PyData:=.tuple [.str "refused"]
def tOk (t:PyData):Prop:=t=.none\/t=aB2\/∃ a:SJ.Ans,t=a.dat
structure It.ok (x:It):Prop where
 s:Sok x.p
 a:x.t=.none\/kE x.p x.t=true
 t:tOk x.t
 w:x.w="must"\/x.w="may"\/x.w="out"
variable (d:Nat) (h:aA)
theorem t_cases {t:PyData} (ht:tOk t):t=.none\/∃ xs,t=.tuple xs:=by
 rcases ht with rfl | rfl | ⟨a,rfl⟩
 ·exact .inl rfl
 ·exact .inr ⟨_,rfl⟩
 ·right;cases a with
  | one a=>cases a<;>exact ⟨_,rfl⟩
  | all ns=>exact ⟨_,rfl⟩
  | each as=>exact ⟨_,rfl⟩
theorem tL {w:String} (hw:w="must"\/w="may"\/w="out"):xIn (.d (.str (Str.ofString w))) (.d (.tuple [.str (Str.ofString "must"),.str (Str.ofString "may"),.str (Str.ofString "out")])) h=some true:=by
 rcases hw with rfl | rfl | rfl<;>simp [xIn,ref,PyData.eqv]
theorem gN {α:Type} (f:α->PyData):∀ xs:List α,eE (xs.map ((fun _=>PyData.bool true) ∘ f))=some (xs.map fun _=>true)
 | []=>rfl
 | x::r=>by
  show eE (.bool true::r.map ((fun _=>PyData.bool true) ∘ f))=_;rw [eE,gN f r];rfl
theorem aB3 {x:It} (hx:x.ok):aD T (d+10) "is_item" [.d x.dat] h=some (.bool true,h):=by
 obtain ⟨p,t,w⟩:=x;obtain ⟨hs,ha,ht,hw⟩:=hx;dsimp only at hs ha ht hw;have e1:=aP0 (d+1) h hs;have e2:=aO9 d h t hs;rcases t_cases ht with rfl | ⟨xs,rfl⟩
 ·simp [oJ,It.dat,gP,e1,isi,iE,tL h hw]
 ·have ha':kE p (.tuple xs)=true:=by
   rcases ha with ha | ha
   ·cases ha
   ·exact ha
  rw [ha'] at e2;simp [oJ,It.dat,gP,e1,e2,isi,iE,tL h hw]
theorem tM {xs:List It} (hx:∀ x∈xs,x.ok) (hl:xs.length<=120):aD T (d+11) "are_items" [.d (.tuple (xs.map It.dat))] h=some (.bool true,h):=by
 have hl':(xs.length:Int)<=120:=by omega
 simp [sZ,isi,iE,hl',aQ];rw [bS (fun x=>.bool true) 0 (fun _ _ _=>rfl)]
 ·simp [gN]
 ·intro y hy u;obtain ⟨x,hx',rfl⟩:=List.mem_map.mp hy;simp [aB3 d h (hx x hx')]
theorem aB4 {ns:List Int} {n:Int} (hb:∀ x∈ns,0<=x/\x < n):aD T (d+3) "are_numbers" [.d (.tuple (ns.map .int)),.d (.int n)] h=some (.bool true,h):=by
 simp [mR,aQ];rw [bS (fun x=>.bool true) 0 (fun _ _ _=>rfl)]
 ·simp [gN]
 ·intro y hy u;obtain ⟨x,hx',rfl⟩:=List.mem_map.mp hy;have:=hb x hx';simp [gH,fX];omega
theorem oQ:∀ ns:List Int,gQ (ns.map .int)=some ns
 | []=>rfl
 | a::r=>by simp [gQ,oQ r]
theorem aP2 {ns:List Int} (h:ns.Nodup):ST.dd ns=ns:=by
 unfold ST.dd
 suffices H:∀ (l ac:List Int),(ac++l).Nodup->l.foldl step_dedup ac=ac++l by simpa using H ns [] (by simpa using h)
 intro l;induction l with
 | nil=>simp
 | cons a r ih =>
  intro ac hn;rw [List.foldl_cons];have hna:a∉ac:=fun hm=>by
   have:=(List.nodup_append.mp hn).2.2 a hm a List.mem_cons_self;exact this rfl
  have e:step_dedup ac a=ac++[a]:=by
   unfold step_dedup;simp [hna]
  rw [e,ih (ac++[a]) (by simpa using hn)];simp
theorem tN {ns:List Int} {n:Int} (hb:∀ x∈ns,0<=x/\x < n) (hd:ns.Nodup) (hl:ns.length<=62):aD T (d+4) "are_unlike" [.d (.tuple (ns.map .int)),.d (.int ns.length),.d (.int n)] h=some (.bool true,h):=by
 have e:=aB4 d h hb;simp [qH,gP,e,xLS,oQ,aP2 hd,hl]
end K15
namespace K15
open PySem PySem.Spec PyProof.Rows L2 DL CI SJ
variable (d:Nat) (h:aA)
def p2 (p:Nat×Nat):PyData:=.tuple [.int p.1,.int p.2]
def p3 (p:Nat×Nat×Nat):PyData:=.tuple [.int p.1,.int p.2.1,.int p.2.2]
structure Pb where
 st:List Int
 its:List It
 ps:List (Nat×Nat)
 ts:List (Nat×Nat×Nat)
def Pb.dat (b:Pb):PyData:=.tuple [.tuple (b.st.map .int),.tuple (b.its.map It.dat),.tuple (b.ps.map p2),.tuple (b.ts.map p3)]
def must (its:List It) (x:Nat):Prop:=∃ y,its[x]?=some y/\y.w="must"
structure Pb.ok (b:Pb):Prop where
 st:b.st.length=8
 il:b.its.length<=120
 its:∀ x∈b.its,x.ok
 pl:b.ps.length<=100
 ps:∀ p∈b.ps,p.1 < b.its.length/\p.2 < b.its.length/\p.1≠p.2
 tl:b.ts.length<=100
 ts:∀ p∈b.ts,p.1 < b.its.length/\p.2.1 < b.its.length/\p.2.2 < b.its.length/\p.1≠p.2.1/\p.1≠p.2.2/\p.2.1≠p.2.2/\must b.its p.1/\must b.its p.2.1
theorem tO {ps:List (Nat×Nat)} {n:Nat} (hl:ps.length<=100) (hp:∀ p∈ps,p.1 < n/\p.2 < n/\p.1≠p.2):aD T (d+5) "are_pairs" [.d (.tuple (ps.map p2)),.d (.int n)] h=some (.bool true,h):=by
 have hl':¬ (4000:Int) < ps.length:=by omega
 simp [tD,isi,iE,hl',aQ];rw [bS (fun x=>.bool true) 0 (fun _ _ _=>rfl)]
 ·simp [gN]
 ·intro y hy u;obtain ⟨p,hm,rfl⟩:=List.mem_map.mp hy;obtain ⟨h1,h2,h3⟩:=hp p hm;have e:=tN d h (ns:=[(p.1:Int),(p.2:Int)]) (n:=n) (by simp;omega) (by simp;omega) (by simp);have e':aD T (d+4) "are_unlike" [.d (p2 p),.d (.int 2),.d (.int n)] h=some (.bool true,h):=e;simp [e']
theorem oR {its:List It} {x:Nat} {y:It} (e:its[x]?=some y):atI (its.map It.dat) (x:Int)=some y.dat:=by
 have hx:x < its.length:=(List.getElem?_eq_some_iff.mp e).1;exact fC (by simp [e])
theorem mV {its:List It} {ts:List (Nat×Nat×Nat)} (hl:ts.length<=100) (hp:∀ p∈ts,p.1 < its.length/\p.2.1 < its.length/\p.2.2 < its.length/\p.1≠p.2.1/\p.1≠p.2.2/\p.2.1≠p.2.2/\must its p.1/\must its p.2.1):aD T (d+5) "are_triples" [.d (.tuple (ts.map p3)),.d (.tuple (its.map It.dat))] h=some (.bool true,h):=by
 have hl':¬ (4000:Int) < ts.length:=by omega
 simp [mS,isi,iE,hl',aQ];rw [bS (fun x=>.bool true) 0 (fun _ _ _=>rfl)]
 ·simp [gN];rw [oI (fun _=>.bool true) (fun δ=>∃ a b c,δ=[a,b,c,some (.d (.tuple (its.map It.dat)))])]
  ·simp [gN]
  ·exact ⟨_,_,_,rfl⟩
  ·rintro y hy δ ⟨a,b,c,rfl⟩;obtain ⟨p,hm,rfl⟩:=List.mem_map.mp hy;obtain ⟨h1,h2,h3,h4,h5,h6,⟨x1,e1,w1⟩,⟨x2,e2,w2⟩⟩:=hp p hm;refine ⟨[some (.d (.int p.1)),some (.d (.int p.2.1)),some (.d (.int p.2.2)),_],by simp [p3],⟨_,_,_,rfl⟩,?_⟩;simp [oR e1,oR e2,It.dat,w1,w2,PyData.eqv]
 ·intro y hy u;obtain ⟨p,hm,rfl⟩:=List.mem_map.mp hy;obtain ⟨h1,h2,h3,h4,h5,h6,_⟩:=hp p hm;have e:=tN d h (ns:=[(p.1:Int),(p.2.1:Int),(p.2.2:Int)]) (n:=its.length) (by simp;omega) (by simp;omega) (by simp);have e':aD T (d+4) "are_unlike" [.d (p3 p),.d (.int 3),.d (.int its.length)] h=some (.bool true,h):=e;simp [e']
theorem vP {st:List Int} (hl:st.length=8):aD T (d+3) "is_stand" [.d (.tuple (st.map .int))] h=some (.bool true,h):=by
 have:=dA d h (st.map .int);simp [vE,gP,hl];simp [fX]
theorem qO {b:Pb} (hb:b.ok):aD T (d+12) "is_problem" [.d b.dat] h=some (.bool true,h):=by
 have e1:=vP (d+8) h hb.st;have e2:=tM d h hb.its (by have:=hb.il;omega);have e3:=tO (d+6) h hb.pl hb.ps;have e4:=mV (d+6) h hb.tl hb.ts;simp [qI,Pb.dat,gP,e1,e2,e3,e4]
theorem bD6 {b:Pb} (hb:b.ok):aD T (d+13) "check_problem" [.d b.dat] h=some (.none,h):=by
 simp [kD,qO d h hb]
end K15
namespace K15
open PySem PySem.Spec PyProof.Rows L2 DL CI SJ
variable (d:Nat) (h:aA)
theorem aP3 (a:An1) (n:Nat):aM (n+1) a.dat=true:=by cases a<;>simp [An1.dat]
theorem qP:∀ (ns:List Int) (n:Nat),plainsB n (ns.map .int)=true
 | [],n=>by simp
 | a::r,n=>by simp [qP r]
theorem xH:∀ (as:List An1) (n:Nat),plainsB (n+1) (as.map An1.dat)=true
 | [],n=>by simp
 | a::r,n=>by simp [aP3,xH r]
theorem cD4 (a:SJ.Ans):aM 64 a.dat=true:=by
 cases a with
 | one a=>exact aP3 a 63
 | all ns=>simp [Ans.dat,qP]
 | each as=>simp [Ans.dat,xH]
theorem cP5 {t:PyData} (ht:tOk t):aM 64 t=true:=by
 rcases ht with rfl | rfl | ⟨a,rfl⟩
 ·simp
 ·simp [aB2]
 ·exact cD4 a
theorem bD7 (st:List Int) (p:Stp):tOk (dnS st p).1/\(dnS st p).1≠.none:=by
 have na:∀ a:SJ.Ans,a.dat≠.none:=fun a=>by
  cases a with
  | one a=>cases a<;>simp [Ans.dat,An1.dat]
  | all ns=>simp [Ans.dat]
  | each as=>simp [Ans.dat]
 cases p with
 | call c=>exact ⟨.inr (.inr ⟨_,rfl⟩),na _⟩
 | look c=>exact ⟨.inr (.inr ⟨_,rfl⟩),na _⟩
 | lay ps=>exact ⟨.inr (.inr ⟨.one .dn,rfl⟩),by simp [dnS]⟩
open Classical in
noncomputable def bh (st:List Int) (y:It):PyData:=if y.t=.none\/PyData.eqv y.t (dnS st y.p).1=true then .tuple ((dnS st y.p).2.map .int) else .none
theorem cP6 {a b:PyData} (ha:tOk a) (hb:tOk b):xEq (.d a) (.d b) h=some (PyData.eqv a b):=by
 simp [xEq,ref,cP5 ha,cP5 hb]
theorem dF4 {its:List It} {st:List Int} {j x:Nat} {y:It} {fs:List (Str×W)} (ey:its[x]?=some y) (hy:y.ok) (hl:st.length=8) (ho:h[j]?=some (.o 291 fs)) (hf:fs.lookup (Str.ofString "listed")=some (.d (.tuple (its.map It.dat)))) :
  callM T (d+6) "stand_behind" [.c j,.d (.tuple (st.map .int)),.d (.int x)] h=some (.d (bh st y),h):=by
 have e1:=vN d h hy.s hl;have e2:=oR ey;have e3:T.fo 291 (Str.ofString "listed")=true:=by decide +kernel
 have e4:=cP6 h hy.t (bD7 st y.p).1;obtain ⟨p,t,w⟩:=y;dsimp only at e1 e4;rcases t_cases hy.t with rfl | ⟨xs,rfl⟩
 ·simp [fP,ho,hf,e3,e1,e2,It.dat,bh]
 ·cases hq:PyData.eqv (.tuple xs) (dnS st p).1<;>simp [fP,ho,hf,e3,e1,e2,e4,It.dat,bh,hq]
end K15
namespace K15
open PySem PySem.Spec PyProof.Rows L2 DL CI SJ
mutual
theorem ec:(a b:PyData)->PyData.eqv a b=PyData.eqv b a
 | .tuple xs,b=>by
  cases b<;>simp only [PyData.eqv];exact ecs xs _
 | .list xs,b=>by
  cases b<;>simp only [PyData.eqv];exact ecs xs _
 | .none,b=>by cases b<;>simp only [PyData.eqv]
 | .bool x,b=>by cases b<;>simp only [PyData.eqv]<;>exact Bool.beq_comm
 | .int x,b=>by cases b<;>simp only [PyData.eqv]<;>exact Bool.beq_comm
 | .str x,b=>by cases b<;>simp only [PyData.eqv]<;>exact Bool.beq_comm
 | .dict x,b=>by cases b<;>simp only [PyData.eqv]
theorem ecs:(xs ys:List PyData)->PyData.eqvAll xs ys=PyData.eqvAll ys xs
 | [],ys=>by cases ys<;>simp only [PyData.eqvAll]
 | x::r,ys=>by
  cases ys with
  | nil=>simp only [PyData.eqvAll]
  | cons y s=>simp only [PyData.eqvAll];rw [ec x y,ecs r s]
end
variable (d:Nat) (h:aA)
theorem cP7 {b:Pb} {st:List Int} {x:Nat} {y:It} (ey:b.its[x]?=some y) (hy:y.ok) (hl:st.length=8):aD T (d+6) "_law_due" [.d b.dat,.d (.tuple (st.map .int)),.d (.int x)] h=some (bh st y,h):=by
 have e1:=vN d h hy.s hl;have e2:=oR ey;have e4:=cP6 h (bD7 st y.p).1 hy.t;rw [ec] at e4;obtain ⟨p,t,w⟩:=y;dsimp only at e1 e4;rcases t_cases hy.t with rfl | ⟨xs,rfl⟩
 ·simp [lZ,Pb.dat,e1,e2,It.dat,bh]
 ·cases hq:PyData.eqv (.tuple xs) (dnS st p).1<;>simp [lZ,Pb.dat,e1,e2,e4,It.dat,bh,hq]
end K15
namespace K15
open PySem PySem.Spec PyProof.Rows L2 DL CI SJ
structure Wy (h0:aA) (n:Nat) (fs:List (Str×W)) (Ls:List Nat) (m:Nat) (H:aA):Prop where
 sm:∀ i,i < h0.length->H[i]?=h0[i]?
 ob:H[h0.length]?=some (.o 291 fs)
 ls:∀ q∈Ls,∃ is:List Nat,H[q]?=some (.r is)/\is.length=n/\∀ k∈is,h0.length < k/\∃ xs,H[k]?=some (.l xs)/\xs.length<=m
variable {h0 H:aA} {n m:Nat} {fs fs':List (Str×W)} {Ls:List Nat}
theorem Wy.lt (w:Wy h0 n fs Ls m H):h0.length < H.length:=(List.getElem?_eq_some_iff.mp w.ob).1
theorem Wy.put (w:Wy h0 n fs Ls m H) (fs':List (Str×W)):Wy h0 n fs' Ls m (H.set h0.length (.o 291 fs')) where
 sm i hi:=by rw [List.getElem?_set_ne (by omega)];exact w.sm i hi
 ob:=by rw [List.getElem?_set_self w.lt]
 ls q hq:=by
  obtain ⟨is,e,hl,hk⟩:=w.ls q hq;have ne:h0.length≠q:=fun z=>by rw [<- z,w.ob] at e;cases e
  refine ⟨is,by rw [List.getElem?_set_ne ne];exact e,hl,fun k hm=>?_⟩;obtain ⟨h1,xs,h2,h3⟩:=hk k hm;exact ⟨h1,xs,by rw [List.getElem?_set_ne (by omega)];exact h2,h3⟩
theorem Wy.app (w:Wy h0 n fs Ls m H) {k:Nat} {xs:List PyData} (hk:h0.length < k) (e:H[k]?=some (.l xs)) (hx:xs.length<=m) (y:PyData):Wy h0 n fs Ls (m+1) (H.set k (.l (xs++[y]))) where
 sm i hi:=by rw [List.getElem?_set_ne (by omega)];exact w.sm i hi
 ob:=by rw [List.getElem?_set_ne (by omega)];exact w.ob
 ls q hq:=by
  obtain ⟨is,e2,hl,hm⟩:=w.ls q hq;have ne:k≠q:=fun z=>by rw [<- z,e] at e2;cases e2
  refine ⟨is,by rw [List.getElem?_set_ne ne];exact e2,hl,fun k2 hm2=>?_⟩;obtain ⟨h1,ys,h2,h3⟩:=hm k2 hm2
  by_cases q2:k=k2
  ·subst q2;exact ⟨h1,xs++[y],by rw [List.getElem?_set_self (List.getElem?_eq_some_iff.mp e).1],by simp;omega⟩
  ·exact ⟨h1,ys,by rw [List.getElem?_set_ne q2];exact h2,by omega⟩
theorem Wy.grow (w:Wy h0 n fs Ls m H) (c:Cell):Wy h0 n fs Ls m (H++[c]) where
 sm i hi:=by rw [List.getElem?_append_left (by have:=w.lt;omega)];exact w.sm i hi
 ob:=by rw [List.getElem?_append_left w.lt];exact w.ob
 ls q hq:=by
  obtain ⟨is,e,hl,hk⟩:=w.ls q hq;refine ⟨is,by rw [List.getElem?_append_left (List.getElem?_eq_some_iff.mp e).1];exact e,hl,fun k hm=>?_⟩;obtain ⟨h1,xs,h2,h3⟩:=hk k hm;exact ⟨h1,xs,by rw [List.getElem?_append_left (List.getElem?_eq_some_iff.mp h2).1];exact h2,h3⟩
theorem news {all:List PyData} {tt:XR W} (ht:∀ δ h,tt δ h=some (.c h.length,h++[.l []])) {g:XG} (hg:∀ w δ h,∃ δ1,g w δ h=some (δ1,h)):∀ (rest:List PyData) (δ:DSt) (H:aA) (ac:List Nat),Wy h0 n fs Ls m H->(∀ k∈ac,h0.length < k/\H[k]?=some (.l [])) ->
  ∃ is H',dF g (aC true) tt none all rest δ H ac=some (is,H')/\Wy h0 n fs Ls m H'/\is.length=ac.length+rest.length/\∀ k∈is,h0.length < k/\H'[k]?=some (.l [])
 | [],δ,H,ac,w,ha=>⟨ac,H,by simp [dF],w,by simp,ha⟩
 | x::r,δ,H,ac,w,ha=>by
  obtain ⟨δ1,e1⟩:=hg (.d x) δ H;obtain ⟨is,H',e,w',hl,hk⟩:=news (all:=all) ht hg r δ1 (H++[.l []]) (ac++[H.length]) (w.grow _) fun k hm=>by
   rcases List.mem_append.mp hm with hm | hm
   ·obtain ⟨h1,h2⟩:=ha k hm;exact ⟨h1,by rw [List.getElem?_append_left (List.getElem?_eq_some_iff.mp h2).1];exact h2⟩
   ·simp at hm;subst hm;exact ⟨w.lt,by simp⟩
  refine ⟨is,H',?_,w',by rw [hl];simp;omega,hk⟩;rw [dF,cJ,if_pos rfl,e1];simp [ht,e]
theorem Wy.new (w:Wy h0 n fs Ls m H) {is:List Nat} (hl:is.length=n) (hk:∀ k∈is,h0.length < k/\H[k]?=some (.l [])):Wy h0 n fs (H.length::Ls) m (H++[.r is]) where
 sm:=(w.grow _).sm
 ob:=(w.grow _).ob
 ls q hq:=by
  rcases List.mem_cons.mp hq with rfl | hq
  ·refine ⟨is,by simp,hl,fun k hm=>?_⟩;obtain ⟨h1,h2⟩:=hk k hm;exact ⟨h1,[],by rw [List.getElem?_append_left (List.getElem?_eq_some_iff.mp h2).1];exact h2,Nat.zero_le _⟩
  ·exact (w.grow _).ls q hq
end K15
namespace K15
open PySem PySem.Spec PyProof.Rows L2 DL CI SJ
theorem fin {x:Option (Fl×aA)} {P:DSt->aA->Prop} {Q:aA->Prop} (hq:∀ δ H,P δ H->Q H) (e:∃ δ H,x=some (.nx δ,H)/\P δ H):∃ H,x.bind jU=some (.d .none,H)/\Q H:=by
 obtain ⟨δ,H,rfl,p⟩:=e;exact ⟨H,rfl,hq δ H p⟩
theorem dF5:T.fo 291 (Str.ofString "first")=true/\T.fo 291 (Str.ofString "listed")=true/\T.fo 291 (Str.ofString "musts")=true/\T.fo 291 (Str.ofString "ahead")=true/\T.fo 291 (Str.ofString "later")=true/\T.fo 291 (Str.ofString "gaps")=true:=by decide +kernel
def F3 (b:Pb) (ms:List PyData):List (Str×W):=[("first",.d (.tuple (b.st.map .int))),("listed",.d (.tuple (b.its.map It.dat))),("musts",.d (.list ms))]
def F6 (b:Pb) (ms:List PyData) (x y z:Nat):List (Str×W):=[("first",.d (.tuple (b.st.map .int))),("listed",.d (.tuple (b.its.map It.dat))),("musts",.d (.list ms)),("ahead",.c x),("later",.c y),("gaps",.c z)]
def isM:PyData->Bool
 | .tuple [_,.tuple [_,_,.str w]]=>w==Str.ofString "must"
 | _=>false
def cP8:PyData->PyData
 | .tuple [k,_]=>k
 | _=>.none
theorem cD5 {xs:List PyData} {z:PyData} (hz:z∈lJ xs):∃ (k:Nat) (y:PyData),y∈xs/\z=.tuple [.int k,y]:=by
 obtain ⟨i,e⟩:=List.getElem?_of_mem hz;obtain ⟨y,e1,e2⟩:=iY e;exact ⟨_,y,List.mem_of_getElem? e1,e2⟩
def Jw (h0:aA) (n:Nat) (δ0:DSt) (F:List PyData->List (Str×W)) (δ:DSt) (H:aA):Prop:=δ=δ0/\∃ ms,Wy h0 n (F ms) [] 0 H
def Jn (h0:aA) (n:Nat) (δ0:DSt) (F:Nat->List (Str×W)) (Ls:List Nat) (δ:DSt) (H:aA):Prop:=δ=δ0/\∃ x,Wy h0 n (F x) (x::Ls) 0 H
theorem Wy.mono {h0 H:aA} {n m m':Nat} {fs:List (Str×W)} {Ls:List Nat} (w:Wy h0 n fs Ls m H) (hm:m<=m'):Wy h0 n fs Ls m' H where
 sm:=w.sm
 ob:=w.ob
 ls q hq:=by
  obtain ⟨is,e,hl,hk⟩:=w.ls q hq;refine ⟨is,e,hl,fun k hm'=>?_⟩;obtain ⟨h1,xs,h2,h3⟩:=hk k hm';exact ⟨h1,xs,h2,by omega⟩
theorem dF6 {H:aA} {q x k:Nat} {is:List Nat} (e:H[q]?=some (.r is)) (ek:is[x]?=some k):xIx (.c q) (.d (.int x)) H=some (.c k,H):=by
 have:atI is (x:Int)=some k:=fC ek;simp [xIx,ref,e,xIr,this]
theorem vQ {h0 H:aA} {n m:Nat} {fs:List (Str×W)} {Ls:List Nat} (w:Wy h0 n fs Ls m H) {q x:Nat} (hq:q∈Ls) (hx:x < n) (hm:m < 1000) :
  ∃ k xs,xIx (.c q) (.d (.int x)) H=some (.c k,H)/\H[k]?=some (.l xs)/\kA (Str.ofString "append") (.c k) H=true/\xs.length < 16777216/\∀ y,Wy h0 n fs Ls (m+1) (H.set k (.l (xs++[y]))):=by
 obtain ⟨is,e,hl,hk⟩:=w.ls q hq;have hx':x < is.length:=by omega
 obtain ⟨h1,xs,h2,h3⟩:=hk is[x] (List.getElem_mem hx');exact ⟨is[x],xs,dF6 e (by simp [hx']),h2,by simp [kA,h2],by omega,fun y=>w.app h1 h2 h3 y⟩
def RL (h0:aA) (b:Pb) (F:List (Str×W)) (Ls:List Nat) (m:Nat) (δ:DSt) (H:aA):Prop:=(∃ u v w,δ=[some (.c h0.length),some (.d b.dat),u,v,w])/\Wy h0 b.its.length F Ls m H
theorem cD6 (d:Nat) {b:Pb} (hb:b.ok) (h0:aA):∃ H,callI T (d+2) "Ways" [.c h0.length,.d b.dat] (h0++[.o 291 []])=some (.d .none,H)/\∃ ms x y z m,Wy h0 b.its.length (F6 b ms x y z) [z,y,x] m H:=by
 obtain ⟨f1,f2,f3,f4,f5,f6⟩:=dF5;rw [bB9];simp only [bB7];have w0:Wy h0 b.its.length [] [] 0 (h0++[.o 291 []]):=⟨fun i hi=>by rw [List.getElem?_append_left hi],by simp,fun q hq=>nomatch hq⟩;generalize h0++[Cell.o 291 []]=H0 at w0;refine fin (P:=fun _ H=>∃ ms x y z m,Wy h0 b.its.length (F6 b ms x y z) [z,y,x] m H) (fun _ _ p=>p) ?_;have w1:=w0.put [(Str.ofString "first",.d (.tuple (b.st.map .int)))];refine cB [some (.c h0.length),some (.d b.dat),none,none,none] (H0.set h0.length (.o 291 [(Str.ofString "first",.d (.tuple (b.st.map .int)))])) (by simp [w0.ob,f1,Pb.dat,jA]) ?_;generalize H0.set h0.length (.o 291 [(Str.ofString "first",.d (.tuple (b.st.map .int)))])=H1 at w1;have w2:=w1.put [(Str.ofString "first",.d (.tuple (b.st.map .int))),(Str.ofString "listed",.d (.tuple (b.its.map It.dat)))];refine cB [some (.c h0.length),some (.d b.dat),none,none,none] (H1.set h0.length (.o 291 [(Str.ofString "first",.d (.tuple (b.st.map .int))),(Str.ofString "listed",.d (.tuple (b.its.map It.dat)))])) (by simp [w1.ob,f2,Pb.dat,jA]) ?_;generalize H1.set h0.length (.o 291 [(Str.ofString "first",.d (.tuple (b.st.map .int))),(Str.ofString "listed",.d (.tuple (b.its.map It.dat)))])=H2 at w2;refine cT (Jw h0 b.its.length [some (.c h0.length),some (.d b.dat),none,none,none] (F3 b)) ?_ ?_
 ·simp [w2.ob,f2,f3,fZ,aQ,List.lookup];rw [iM isM cP8 (fun δ=>∃ a b,δ=[a,b])]
  ·simp [w2.ob,f3,jA];exact ⟨_,_,⟨rfl,rfl⟩,rfl,_,w2.put _⟩
  ·exact ⟨_,_,rfl⟩
  ·rintro z hz δ ⟨a,b',rfl⟩;obtain ⟨k,y,hy,rfl⟩:=cD5 hz;obtain ⟨y,hy,rfl⟩:=List.mem_map.mp hy;exact ⟨[some (.d (.int k)),some (.d y.dat)],by simp,⟨_,_,rfl⟩,by simp [It.dat,isM,PyData.eqv],by simp [cP8]⟩
 rintro δ H3 ⟨rfl,ms,w3⟩;have ht:∀ (δ:DSt) (h:aA),bR (xPl (aC [])) δ h=some (.c h.length,h++[.l []]):=fun δ h=>by simp [bR,szl]
 refine cT (Jn h0 b.its.length [some (.c h0.length),some (.d b.dat),none,none,none] (fun x=>[(Str.ofString "first",.d (.tuple (b.st.map .int))),(Str.ofString "listed",.d (.tuple (b.its.map It.dat))),(Str.ofString "musts",.d (.list ms)),(Str.ofString "ahead",.c x)]) []) ?_ ?_
 ·obtain ⟨is,H',e,w',hl,hk⟩:=news (all:=b.its.map It.dat) ht (g:=YG 0) (fun w δ h=>⟨_,rfl⟩) (b.its.map It.dat) [none] H3 [] w3 (fun _ z=>nomatch z);have w4:=w'.new (by simpa using hl) hk;simp only [bB8] at e;simp [w3.ob,f2,f4,aQ,List.lookup,F3,e];rw [w4.ob];simp [f4,F3,jA];exact ⟨_,_,⟨rfl,rfl⟩,rfl,_,w4.put _⟩
 rintro δ H4 ⟨rfl,x4,w4⟩;dsimp only at w4;refine cT (Jn h0 b.its.length [some (.c h0.length),some (.d b.dat),none,none,none] (fun x=>[(Str.ofString "first",.d (.tuple (b.st.map .int))),(Str.ofString "listed",.d (.tuple (b.its.map It.dat))),(Str.ofString "musts",.d (.list ms)),(Str.ofString "ahead",.c x4),(Str.ofString "later",.c x)]) [x4]) ?_ ?_
 ·obtain ⟨is,H',e,w',hl,hk⟩:=news (all:=b.its.map It.dat) ht (g:=YG 0) (fun w δ h=>⟨_,rfl⟩) (b.its.map It.dat) [none] H4 [] w4 (fun _ z=>nomatch z);have wn:=w'.new (by simpa using hl) hk;simp only [bB8] at e;simp [w4.ob,f2,f5,aQ,List.lookup,e];rw [wn.ob];simp [f5,jA];exact ⟨_,_,⟨rfl,rfl⟩,rfl,_,wn.put _⟩
 rintro δ H5 ⟨rfl,x5,w5⟩;dsimp only at w5;refine cT (Jn h0 b.its.length [some (.c h0.length),some (.d b.dat),none,none,none] (fun x=>[(Str.ofString "first",.d (.tuple (b.st.map .int))),(Str.ofString "listed",.d (.tuple (b.its.map It.dat))),(Str.ofString "musts",.d (.list ms)),(Str.ofString "ahead",.c x4),(Str.ofString "later",.c x5),(Str.ofString "gaps",.c x)]) [x5,x4]) ?_ ?_
 ·obtain ⟨is,H',e,w',hl,hk⟩:=news (all:=b.its.map It.dat) ht (g:=YG 0) (fun w δ h=>⟨_,rfl⟩) (b.its.map It.dat) [none] H5 [] w5 (fun _ z=>nomatch z);have wn:=w'.new (by simpa using hl) hk;simp only [bB8] at e;simp [w5.ob,f2,f6,aQ,List.lookup,e];rw [wn.ob];simp [f6,jA];exact ⟨_,_,⟨rfl,rfl⟩,rfl,_,wn.put _⟩
 rintro δ H6 ⟨rfl,x6,w6⟩;dsimp only at w6;obtain ⟨F,eF⟩:∃ F,F=F6 b ms x4 x5 x6:=⟨_,rfl⟩;have lA:F.lookup (Str.ofString "ahead")=some (.c x4):=by rw [eF];simp [F6,List.lookup]
 have lL:F.lookup (Str.ofString "later")=some (.c x5):=by rw [eF];simp [F6,List.lookup]
 have lG:F.lookup (Str.ofString "gaps")=some (.c x6):=by rw [eF];simp [F6,List.lookup]
 have lI:F.lookup (Str.ofString "listed")=some (.d (.tuple (b.its.map It.dat))):=by rw [eF];simp [F6,List.lookup]
 have w6':Wy h0 b.its.length F [x6,x5,x4] 0 H6:=by rw [eF];exact w6
 refine cT (RL h0 b F [x6,x5,x4] 200) ?_ ?_
 ·simp [Pb.dat];refine cU (fun k=>RL h0 b F [x6,x5,x4] (2*k)) ⟨⟨_,_,_,rfl⟩,w6'⟩ (fun δ H r=>⟨r.1,r.2.mono (by have:=hb.pl;simp;omega)⟩) fun k hk δ H r=>?_;obtain ⟨⟨u,v,w,rfl⟩,wy⟩:=r;have hk':k < b.ps.length:=by simpa using hk
  have h100:=hb.pl;obtain ⟨q1,q2,q3⟩:=hb.ps b.ps[k] (List.getElem_mem hk');refine ⟨[some (.c h0.length),some (.d b.dat),some (.d (.int b.ps[k].1)),some (.d (.int b.ps[k].2)),w],H,by simp [p2],?_⟩;obtain ⟨k1,xs,e1,e2,e3,e4,e5⟩:=vQ wy (q:=x5) (by simp) q1 (by omega);have w7:=e5 (.int b.ps[k].2);obtain ⟨k2,ys,g1,g2,g3,g4,g5⟩:=vQ w7 (q:=x4) (by simp) q2 (by omega);have e6:=oR (List.getElem?_eq_getElem q1);refine cB [some (.c h0.length),some (.d b.dat),some (.d (.int b.ps[k].1)),some (.d (.int b.ps[k].2)),w] (H.set k1 (.l (xs++[.int b.ps[k].2]))) (by simp [wy.ob,f5,lL,e1,e2,e3,e4,szl]) ?_;generalize H.set k1 (.l (xs++[.int b.ps[k].2]))=H8 at w7 g1 g2 g3 g5
  by_cases hw:b.its[b.ps[k].1].w="must"
  ·simp [w7.ob,f2,lI,e6,It.dat,hw,PyData.eqv,f4,lA,g1,g2,g3,g4,szl];exact ⟨_,_,⟨rfl,rfl⟩,⟨_,_,_,rfl⟩,(g5 _).mono (by omega)⟩
  ·simp [w7.ob,f2,lI,e6,It.dat,hw,PyData.eqv,szl];exact ⟨_,_,⟨rfl,rfl⟩,⟨_,_,_,rfl⟩,w7.mono (by omega)⟩
 rintro δ H7 ⟨⟨u,v,w,rfl⟩,w7⟩;have fin3:∀ δ H,RL h0 b F [x6,x5,x4] 300 δ H->∃ ms x y z m,Wy h0 b.its.length (F6 b ms x y z) [z,y,x] m H:=fun δ H r=>⟨ms,x4,x5,x6,300,by rw [<- eF];exact r.2⟩;refine cT (RL h0 b F [x6,x5,x4] 300) ?_ ?_
 ·simp [Pb.dat];refine cU (fun k=>RL h0 b F [x6,x5,x4] (200+k)) ⟨⟨_,_,_,rfl⟩,w7⟩ (fun δ H r=>⟨r.1,r.2.mono (by have:=hb.tl;simp;omega)⟩) fun k hk δ H r=>?_;obtain ⟨⟨u,v,w,rfl⟩,wy⟩:=r;have hk':k < b.ts.length:=by simpa using hk
  have h100:=hb.tl;obtain ⟨q1,q2,q3,_⟩:=hb.ts b.ts[k] (List.getElem_mem hk');refine ⟨[some (.c h0.length),some (.d b.dat),some (.d (.int b.ts[k].1)),some (.d (.int b.ts[k].2.1)),some (.d (.int b.ts[k].2.2))],H,by simp [p3],?_⟩;obtain ⟨k1,xs,e1,e2,e3,e4,e5⟩:=vQ wy (q:=x6) (by simp) q3 (by omega);simp [wy.ob,f6,lG,e1,e2,e3,e4,szl];exact ⟨_,_,⟨rfl,rfl⟩,⟨_,_,_,rfl⟩,(e5 _).mono (by omega)⟩
 rintro δ H9 r;exact ⟨δ,H9,rfl,fin3 δ H9 r⟩
variable (d:Nat) (h:aA)
theorem Wy.okp {h0 H:aA} {n m:Nat} {fs:List (Str×W)} {Ls:List Nat} (w:Wy h0 n fs Ls m H):okP h0 H:=fun i c hi e=>.inr (by rw [<- w.sm i hi];exact e)
theorem Wy.tk {h0 H:aA} {n m:Nat} {fs:List (Str×W)} {Ls:List Nat} (w:Wy h0 n fs Ls m H):H.take h0.length=h0:=by
 apply List.ext_getElem?;intro i
 by_cases hi:i < h0.length
 ·rw [List.getElem?_take_of_lt hi];exact w.sm i hi
 ·rw [List.getElem?_eq_none (by simp;omega),List.getElem?_eq_none (by omega)]
theorem cD7 {b:Pb} (hb:b.ok):∃ H,callW T (d+14) "ways_of" [.d b.dat] h=some (.c h.length,H)/\∃ ms x y z m,Wy h b.its.length (F6 b ms x y z) [z,y,x] m H:=by
 obtain ⟨H,e,w⟩:=cD6 (d+11) hb h;refine ⟨H,?_,w⟩;have e1:=bD6 d h hb;have e2:xMk 291 (callI T (d+13) (Str.ofString "Ways")) [.d b.dat] h=some (.c h.length,H):=by
  unfold xMk;rw [show d+13=d+11+2 from rfl,e];rfl
 simp [vG,e1,e2]
theorem aP4 {b:Pb} (hb:b.ok) {st:List Int} {x:Nat} {y:It} (ey:b.its[x]?=some y) (hl:st.length=8):aD T (d+15) "behind" [.d b.dat,.d (.tuple (st.map .int)),.d (.int x)] h=some (bh st y,h):=by
 obtain ⟨H,e,ms,a,b',c,m,w⟩:=cD7 d h hb;have hf:(F6 b ms a b' c).lookup (Str.ofString "listed")=some (.d (.tuple (b.its.map It.dat))):=by simp [F6,List.lookup]
 have hn:(F6 b ms a b' c).lookup (Str.ofString "stand_behind")=none:=by simp [F6,List.lookup]
 have e1:=dF4 (d+8) H ey (hb.its y (List.mem_of_getElem? ey)) hl w.ob hf;simp [aN8,e,w.ob,hn,e1,w.okp,w.tk]
end K15
namespace K15
open PySem PySem.Spec PyProof.Rows L2 DL CI SJ
def pst (n:Nat) (a:List (Nat×Nat)×S3):List (Nat×Nat)×S3 :=
 if 1 < n then (a.1++[((aI a.2 n).toNat,((aI a.2 n).toNat+1+(aI (digS a.2 n) (n - 1)).toNat)%n)],digS (digS a.2 n) (n - 1)) else a
def itP (n:Nat) (s:S3):Nat->List (Nat×Nat)×S3
 | 0=>([],s)
 | k+1=>pst n (itP n s k)
theorem qQ (n:Nat) (s:S3):∀ k,(itP n s k).1.length<=k
 | 0=>Nat.le_refl 0
 | k+1=>by
  have:=qQ n s k;unfold itP pst;split
  ·simp;omega
  ·omega
theorem aP5 {n x y:Nat} (hx:x < n) (hy:y+1 < n):x≠(x+1+y)%n:=by
 by_cases h:x+1+y < n
 ·rw [Nat.mod_eq_of_lt h];omega
 ·rw [Nat.mod_eq_sub_mod (by omega),Nat.mod_eq_of_lt (by omega)];omega
theorem vR (n:Nat) (s:S3):∀ k,∀ p∈(itP n s k).1,p.1 < n/\p.2 < n/\p.1≠p.2
 | 0,p,hp=>nomatch hp
 | k+1,p,hp=>by
  unfold itP pst at hp;split at hp
  ·rename_i hn;rcases List.mem_append.mp hp with hp | hp
   ·exact vR n s k p hp
   ·simp at hp;subst hp;obtain ⟨x,ex,hx⟩:=bB (itP n s k).2 (b:=n) (by omega);obtain ⟨y,ey,hy⟩:=bB (digS (itP n s k).2 n) (b:=n - 1) (by omega);rw [ex,ey];simp only [Int.toNat_natCast];exact ⟨by omega,Nat.mod_lt _ (by omega),aP5 (by omega) (by omega)⟩
  ·exact vR n s k p hp
section
variable {h:aA} {i:Nat} (hi:i < h.length)
include hi
theorem gl (xs:List PyData) (s:S3):((h++[Cell.l xs]).set i (stL s))[h.length]?=some (Cell.l xs):=by
 rw [List.getElem?_set_ne (by omega)];simp
theorem gl2 (xs:List PyData) (s:S3) (pf:h.length < ((h++[Cell.l xs]).set i (stL s)).length):((h++[Cell.l xs]).set i (stL s))[h.length]'pf=.l xs:=by
 have:=gl hi xs s;rw [List.getElem?_eq_getElem pf] at this;exact Option.some.inj this
theorem gm (xs:List PyData) (s:S3):kA (Str.ofString "append") (.c h.length) ((h++[Cell.l xs]).set i (stL s))=true:=by
 unfold kA;rw [if_pos rfl];dsimp only;rw [gl hi]
theorem gs (xs ys:List PyData) (s:S3):((h++[Cell.l xs]).set i (stL s)).set h.length (Cell.l ys)=(h++[Cell.l ys]).set i (stL s):=by
 rw [List.set_comm _ _ (by omega)];simp
theorem g_t (xs:List PyData) (s:S3):bY [.c h.length] ((h++[Cell.l xs]).set i (stL s))=some (.d (.tuple xs),(h++[Cell.l xs]).set i (stL s)):=by
 unfold bY ref;dsimp only;rw [gl hi]
theorem gi (c:Cell):i < (h++[c]).length:=by simp;omega
end
theorem bD8 (d:Nat) (h:aA) {i n:Nat} (s:S3) (hi:i < h.length) (hn:n<=120):aD T (d+2) "_law_pairs" [.c i,.d (.int n)] (h.set i (stL s))=some (.tuple ((itP n (digS s 5) (aI s 5).toNat).1.map p2),h.set i (stL (itP n (digS s 5) (aI s 5).toNat).2)):=by
 have e5:aU 5=true:=by decide
 obtain ⟨k,ek,hk⟩:=bB s (b:=5) (by decide);have er:gA 0 (k:Int)=true:=bT (by omega) (by omega);have sa:∀ (s:S3) (L:aA),h.set i (stL s)++L=(h++L).set i (stL s):=fun s L=>dN hi;have g1:=gi hi (Cell.l []);have dg:=cY d (h++[Cell.l []]) s 5 g1 (by decide) e5;rw [show d+2=(d+1)+1 from rfl,qK];simp [bR,szl,sa,dg,ek,er];generalize hr:cI _ _ _ _ _ _ _=r;have kk:∃ δ' h',r=some (.nx δ',h')/\∃ (x3 x4:Option W),δ'=[some (.c i),some (.d (.int n)),some (.c h.length),x3,x4]/\h'=(h++[Cell.l ((itP n (digS s 5) k).1.map p2)]).set i (stL (itP n (digS s 5) k).2):=by
  rw [<- hr];clear hr;refine cU (fun m δ' h'=>∃ (x3 x4:Option W),δ'=[some (.c i),some (.d (.int n)),some (.c h.length),x3,x4]/\h'=(h++[Cell.l ((itP n (digS s 5) m).1.map p2)]).set i (stL (itP n (digS s 5) m).2)) ⟨_,_,rfl,rfl⟩ (fun δ h'=>?_) ?_
  ·rw [CI.rng_len];exact id
  ·rintro m hm δ h' ⟨x3,x4,rfl,rfl⟩;have ll:=qQ n (digS s 5) m;have hm':m < k:=by simpa [rng] using hm
   refine ⟨[some (.c i),some (.d (.int n)),some (.c h.length),some (.d (rng 0 k)[m]),x4],_,rfl,?_⟩;rw [itP];generalize itP n (digS s 5) m=q at *;obtain ⟨L,t⟩:=q;dsimp only at *;have l1:L.length < 16777216:=by omega
   by_cases h1:1 < n
   ·have h1':(1:Int) < n:=by omega
    obtain ⟨x,ex,hx⟩:=bB t (b:=n) (by omega);obtain ⟨y,ey,hy⟩:=bB (digS t n) (b:=n - 1) (by omega);have d1:=cY d (h++[Cell.l (L.map p2)]) t n (gi hi _) (by omega) (cX (by omega) (by omega));have d2:=cY d (h++[Cell.l (L.map p2)]) (digS t n) (n - 1) (gi hi _) (by omega) (cX (by omega) (by omega));have h0n:0 < n:=by omega
    have dn:aU (n:Int)=true:=cX (by omega) (by omega);refine ⟨[some (.c i),some (.d (.int n)),some (.c h.length),some (.d (rng 0 k)[m]),some (.d (.int x))],(h++[Cell.l ((L++[(x,(x+1+y)%n)]).map p2)]).set i (stL (digS (digS t n) (n - 1))),?_,_,_,rfl,?_⟩
    ·have em:((x:Int)+1+y)%n=(((x+1+y)%n:Nat):Int):=by simp
     simp [h1',d1,d2,ex,ey,gl hi,gl2 hi,gm hi,gs hi,l1,szl,dn,p2,h0n]
    ·simp [pst,h1,ex,ey]
   ·have h1':¬ (1:Int) < n:=by omega
    refine ⟨[some (.c i),some (.d (.int n)),some (.c h.length),some (.d (rng 0 k)[m]),x4],(h++[Cell.l (L.map p2)]).set i (stL t),by simp [h1'],_,_,rfl,?_⟩;simp [pst,h1]
 obtain ⟨δ',h',rfl,x3,x4,rfl,rfl⟩:=kk;have o1:∀ L s',okP (h.set i (stL s)) ((h++L).set i (stL s'))=True:=fun L s'=>aN4 s' hi;have o2:∀ (L:aA) (s':S3),((h++L).set i (stL s')).take h.length=h.set i (stL s'):=fun L s'=>aN5 hi;simp [g_t hi,szl,o1,o2]
def nI (k:Nat):PyData:=.int k
def vS (its:List It) (k:Nat):Bool:=match its[k]? with
 | some y=>decide (y.w="must")
 | none=>false
def mus (its:List It):List Nat:=(List.range its.length).filter (vS its)
def rst (n a b:Nat):List Nat:=(List.range n).filter fun z=>decide (z≠a)&&decide (z≠b)
theorem hV (n:Nat):rng 0 n=(List.range n).map nI:=cC4 n
theorem aP6 (p:PyData->Bool) (q:Nat->Bool) (n:Nat) (h:∀ k,k < n->p (nI k)=q k):((rng 0 n).filter p).map id=((List.range n).filter q).map nI:=by
 rw [hV,List.map_id,List.filter_map]
 congr 1
 exact List.filter_congr fun k hk=>h k (List.mem_range.mp hk)
theorem kM {its:List It} {x:Nat} (h:x∈mus its):x < its.length/\must its x:=by
 obtain ⟨h1,h2⟩:=List.mem_filter.mp h;have hx:=List.mem_range.mp h1;refine ⟨hx,its[x],by simp [hx],?_⟩
 simpa [vS,hx] using h2
theorem aB5 (its:List It):(mus its).Nodup:=List.Pairwise.filter _ List.nodup_range
theorem xI {n a b:Nat} (hn:2 < n):0 < (rst n a b).length:=by
 apply List.length_pos_iff.mpr;intro e;have hz:∀ z,z < 3->z=a\/z=b:=fun z hz=>by
  by_cases h:z≠a/\z≠b
  ·have:z∈rst n a b:=List.mem_filter.mpr ⟨List.mem_range.mpr (by omega),by simp [h.1,h.2]⟩;rw [e] at this;cases this
  ·omega
 have h0:=hz 0 (by omega);have h1:=hz 1 (by omega);have h2:=hz 2 (by omega);omega
def tst (its:List It) (a:List (Nat×Nat×Nat)×S3):List (Nat×Nat×Nat)×S3 :=
 if 1 < (mus its).length/\2 < its.length then
  let l:=(mus its).length
  let x:=(aI a.2 l).toNat
  let s1:=digS a.2 l
  let y:=(x+1+(aI s1 (l - 1)).toNat)%l
  let s2:=digS s1 (l - 1)
  let r:=rst its.length ((mus its).getD x 0) ((mus its).getD y 0)
  (a.1++[((mus its).getD x 0,(mus its).getD y 0,r.getD (aI s2 r.length).toNat 0)],digS s2 r.length)
 else a
def itT (its:List It) (s:S3):Nat->List (Nat×Nat×Nat)×S3
 | 0=>([],s)
 | k+1=>tst its (itT its s k)
theorem qR (its:List It) (s:S3):∀ k,(itT its s k).1.length<=k
 | 0=>Nat.le_refl 0
 | k+1=>by
  have:=qR its s k;unfold itT tst;split
  ·simp;omega
  ·omega
theorem mJ {l:List Nat} {x:Nat} (h:x < l.length):l.getD x 0∈l:=by
 rw [List.getD_eq_getElem?_getD,List.getElem?_eq_getElem h];exact List.getElem_mem h
theorem vT (its:List It) (s:S3):∀ k,∀ p∈(itT its s k).1,p.1 < its.length/\p.2.1 < its.length/\p.2.2 < its.length/\p.1≠p.2.1/\p.1≠p.2.2/\p.2.1≠p.2.2/\must its p.1/\must its p.2.1
 | 0,p,hp=>nomatch hp
 | k+1,p,hp=>by
  unfold itT tst at hp;split at hp
  ·rename_i hn;rcases List.mem_append.mp hp with hp | hp
   ·exact vT its s k p hp
   ·simp only [List.mem_singleton] at hp;obtain ⟨x,ex,hx⟩:=bB (itT its s k).2 (b:=(mus its).length) (by omega);obtain ⟨y,ey,hy⟩:=bB (digS (itT its s k).2 (mus its).length) (b:=(mus its).length - 1) (by omega);rw [ex,ey] at hp;simp only [Int.toNat_natCast] at hp;have hm:(x+1+y)%(mus its).length < (mus its).length:=Nat.mod_lt _ (by omega);have hne:=aP5 (n:=(mus its).length) (x:=x) (y:=y) (by omega) (by omega);generalize (x+1+y)%(mus its).length=y2 at *;have m1:=mJ (l:=mus its) (x:=x) (by omega);have m2:=mJ (l:=mus its) hm;have hab:(mus its).getD x 0≠(mus its).getD y2 0:=fun e=>hne ((List.getD_inj (by omega) hm (aB5 its)).mp e);generalize hA:(mus its).getD x 0=A at *;generalize hB:(mus its).getD y2 0=B at *;have hr:=xI (n:=its.length) (a:=A) (b:=B) hn.2;obtain ⟨z,ez,hz⟩:=bB (digS (digS (itT its s k).2 (mus its).length) ((mus its).length - 1)) (b:=(rst its.length A B).length) (by omega);rw [ez] at hp;simp only [Int.toNat_natCast] at hp;have m3:=mJ (l:=rst its.length A B) (x:=z) (by omega);obtain ⟨r1,r2⟩:=List.mem_filter.mp m3;have r3:=List.mem_range.mp r1;simp at r2;subst hp;exact ⟨(kM m1).1,(kM m2).1,r3,hab,fun e=>r2.1 e.symm,fun e=>r2.2 e.symm,(kM m1).2,(kM m2).2⟩
  ·exact vT its s k p hp
def pM (its:List It):PyData->Bool
 | .int k=>vS its k.toNat
 | _=>false
def pR (a b:Nat):PyData->Bool
 | .int k=>decide (k≠a)&&decide (k≠b)
 | _=>false
theorem aP7 {l:List Nat} {x:Nat} (h:x < l.length):atI (l.map nI) (x:Int)=some (.int (l.getD x 0)):=by
 apply fC;rw [List.getElem?_map,List.getElem?_eq_getElem h,List.getD_eq_getElem?_getD,List.getElem?_eq_getElem h];rfl
theorem aB6 (d:Nat) (h:aA) {i:Nat} (s:S3) (hi:i < h.length) {its:List It} (hn:its.length<=120):aD T (d+2) "_law_triples" [.c i,.d (.tuple (its.map It.dat))] (h.set i (stL s))=some (.tuple ((itT its (digS s 4) (aI s 4).toNat).1.map p3),h.set i (stL (itT its (digS s 4) (aI s 4).toNat).2)):=by
 have e4:aU 4=true:=by decide
 obtain ⟨k,ek,hk⟩:=bB s (b:=4) (by decide);have er:gA 0 (k:Int)=true:=bT (by omega) (by omega);have en:gA 0 (its.length:Int)=true:=bT (by omega) (by omega);have sa:∀ (s:S3) (L:aA),h.set i (stL s)++L=(h++L).set i (stL s):=fun s L=>dN hi;have dg:=cY d (h++[Cell.l []]) s 4 (gi hi (.l [])) (by decide) e4;rw [show d+2=(d+1)+1 from rfl,lX];simp [szl,en,aQ];rw [iM (pM its) id (fun δ=>∃ a,δ=[a,some (.d (.tuple (its.map It.dat)))]) _ _ _ ⟨_,rfl⟩ (fun z hz δ ⟨a,e⟩=>by
  subst e;rw [hV] at hz;obtain ⟨q,hq,rfl⟩:=List.mem_map.mp hz;have hq:=List.mem_range.mp hq;have e6:=oR (List.getElem?_eq_getElem hq);refine ⟨[some (.d (nI q)),_],rfl,⟨_,rfl⟩,?_,fun _=>by simp⟩;simp [nI,e6,It.dat,PyData.eqv,pM,vS,hq];try rfl)]
 rw [List.nil_append,aP6 (pM its) (vS its) its.length (fun k _=>by simp [pM,nI])];rw [show (List.range its.length).filter (vS its)=mus its from rfl];simp [bR,szl,sa,dg,ek,er];generalize hr:cI _ _ _ _ _ _ _=r;have kk:∃ δ' h',r=some (.nx δ',h')/\∃ (x2 x5 x6 x7:Option W),δ'=[some (.c i),some (.d (.tuple (its.map It.dat))),x2,some (.d (.list ((mus its).map nI))),some (.c h.length),x5,x6,x7]/\h'=(h++[Cell.l ((itT its (digS s 4) k).1.map p3)]).set i (stL (itT its (digS s 4) k).2):=by
  rw [<- hr];clear hr;refine cU (fun m δ' h'=>∃ (x2 x5 x6 x7:Option W),δ'=[some (.c i),some (.d (.tuple (its.map It.dat))),x2,some (.d (.list ((mus its).map nI))),some (.c h.length),x5,x6,x7]/\h'=(h++[Cell.l ((itT its (digS s 4) m).1.map p3)]).set i (stL (itT its (digS s 4) m).2)) ⟨_,_,_,_,rfl,rfl⟩ (fun δ h'=>?_) ?_
  ·rw [CI.rng_len];exact id
  ·rintro m hm δ h' ⟨x2,x5,x6,x7,rfl,rfl⟩;have ll:=qR its (digS s 4) m;have hm':m < k:=by simpa [rng] using hm
   refine ⟨[some (.c i),some (.d (.tuple (its.map It.dat))),x2,some (.d (.list ((mus its).map nI))),some (.c h.length),some (.d (rng 0 k)[m]),x6,x7],_,rfl,?_⟩;rw [itT];generalize itT its (digS s 4) m=q at *;obtain ⟨L,t⟩:=q;dsimp only at *;have l1:L.length < 16777216:=by omega
   by_cases h1:1 < (mus its).length/\2 < its.length
   ·have ml:(mus its).length<=its.length:=by
     have:=List.length_filter_le (vS its) (List.range its.length)
     simpa [mus] using this
    obtain ⟨l,el⟩:∃ l,l=(mus its).length:=⟨_,rfl⟩;have h1a:(1:Int) < (mus its).length:=by omega
    have h1b:(2:Int) < its.length:=by omega
    obtain ⟨x,ex,hx⟩:=bB t (b:=(mus its).length) (by omega);obtain ⟨y,ey,hy⟩:=bB (digS t (mus its).length) (b:=(mus its).length - 1) (by omega);have d1:=cY d (h++[Cell.l (L.map p3)]) t (mus its).length (gi hi _) (by omega) (cX (by omega) (by omega));have d2:=cY d (h++[Cell.l (L.map p3)]) (digS t (mus its).length) ((mus its).length - 1) (gi hi _) (by omega) (cX (by omega) (by omega));have dn:aU ((mus its).length:Int)=true:=cX (by omega) (by omega);have h0n:0 < (mus its).length:=by omega
    have hmod:(x+1+y)%(mus its).length < (mus its).length:=Nat.mod_lt _ (by omega);have em:((x:Int)+1+y)%((mus its).length:Int)=(((x+1+y)%(mus its).length:Nat):Int):=by simp
    obtain ⟨y2,ey2⟩:∃ y2,y2=(x+1+y)%(mus its).length:=⟨_,rfl⟩;rw [<- ey2] at em hmod;have a1:=aP7 (l:=mus its) (x:=x) (by omega);have a2:=aP7 (l:=mus its) hmod;obtain ⟨A,eA⟩:∃ A,A=(mus its).getD x 0:=⟨_,rfl⟩;obtain ⟨B,eB⟩:∃ B,B=(mus its).getD y2 0:=⟨_,rfl⟩;rw [<- eA] at a1;rw [<- eB] at a2;have hrp:=xI (n:=its.length) (a:=A) (b:=B) h1.2;have rl:(rst its.length A B).length<=its.length:=by
     have:=List.length_filter_le (fun z=>decide (z≠A)&&decide (z≠B)) (List.range its.length)
     simpa [rst] using this
    obtain ⟨z,ez,hz⟩:=bB (digS (digS t (mus its).length) ((mus its).length - 1)) (b:=(rst its.length A B).length) (by omega);have d3:=cY d (h++[Cell.l (L.map p3)]) (digS (digS t (mus its).length) ((mus its).length - 1)) (rst its.length A B).length (gi hi _) (by omega) (cX (by omega) (by omega));have a3:=aP7 (l:=rst its.length A B) (x:=z) (by omega);obtain ⟨Z,eZ⟩:∃ Z,Z=(rst its.length A B).getD z 0:=⟨_,rfl⟩;rw [<- eZ] at a3;refine ⟨[some (.c i),some (.d (.tuple (its.map It.dat))),some (.d (.int x)),some (.d (.list ((mus its).map nI))),some (.c h.length),some (.d (rng 0 k)[m]),some (.d (.int y2)),some (.d (.list ((rst its.length A B).map nI)))],(h++[Cell.l ((L++[(A,B,Z)]).map p3)]).set i (stL (digS (digS (digS t (mus its).length) ((mus its).length - 1)) (rst its.length A B).length)),?_,_,_,_,_,rfl,?_⟩
    ·simp [h1a,h1b,h1.1,h1.2,d1,d2,ex,ey,em,dn,h0n,szl,aQ,en];rw [iM (pR A B) id (fun δ=>∃ a,δ=[a,some (.d (.list ((mus its).map nI))),some (.d (.int x)),some (.d (.int y2))]) _ _ _ ⟨_,rfl⟩ (fun w hw δ ⟨a,e⟩=>by
      subst e;rw [hV] at hw;obtain ⟨q,hq,rfl⟩:=List.mem_map.mp hw;refine ⟨[some (.d (nI q)),_,_,_],rfl,⟨_,rfl⟩,?_,fun _=>by simp⟩
      by_cases hqA:(q:Int)=A<;>simp [nI,a1,a2,PyData.eqv,pR,hqA])]
     rw [List.nil_append,aP6 (pR A B) (fun z=>decide (z≠A)&&decide (z≠B)) its.length (fun k _=>by
      have e1:((k:Int)=A)=(k=A):=propext (by omega);have e2:((k:Int)=B)=(k=B):=propext (by omega);simp [pR,nI,e1,e2])]
     rw [show (List.range its.length).filter (fun z=>decide (z≠A)&&decide (z≠B))=rst its.length A B from rfl];simp [a1,a2,d3,ez,a3,gl hi,gl2 hi,gm hi,gs hi,l1,szl,p3]
    ·rw [tst,if_pos h1];simp only [ex,ey,Int.toNat_natCast,<- ey2,<- eA,<- eB,ez,<- eZ]
   ·refine ⟨[some (.c i),some (.d (.tuple (its.map It.dat))),x2,some (.d (.list ((mus its).map nI))),some (.c h.length),some (.d (rng 0 k)[m]),x6,x7],(h++[Cell.l (L.map p3)]).set i (stL t),?_,_,_,_,_,rfl,?_⟩
    ·by_cases h2:1 < (mus its).length
     ·have h3:¬ 2 < its.length:=fun z=>h1 ⟨h2,z⟩;have h2':(1:Int) < (mus its).length:=by omega
      have h3':¬ (2:Int) < its.length:=by omega
      simp [h2',h3']
     ·have h2':¬ (1:Int) < (mus its).length:=by omega
      simp [h2']
    ·simp [tst,h1]
 obtain ⟨δ',h',rfl,x2,x5,x6,x7,rfl,rfl⟩:=kk;have o1:∀ L s',okP (h.set i (stL s)) ((h++L).set i (stL s'))=True:=fun L s'=>aN4 s' hi;have o2:∀ (L:aA) (s':S3),((h++L).set i (stL s')).take h.length=h.set i (stL s'):=fun L s'=>aN5 hi;simp [g_t hi,szl,o1,o2]
def aB7 (st:List Int):Stp->PyData
 | .call c=>(aB1 (dnC st c).1).dat
 | .look c=>(aB1 (dnC st c).1).dat
 | .lay _=>.tuple [.str "done"]
theorem xJ {c:SJ.Call} (hc:c.ok) {st:List Int} (hl:st.length=8):∀ ns,(dnC st c).1=.all ns->ns≠[]/\ns.length<=8:=by
 intro ns e;cases c with
 | one o=>cases e
 | deal cs=>cases e
 | span lo hi =>
  have h1:=hc.1;have h2:=hc.2;have e':(st.drop lo).take (hi - lo)=ns:=by cases e;rfl
  have l:ns.length=hi - lo:=by rw [<- e'];simp;omega
  exact ⟨fun z=>by rw [z] at l;simp at l;omega,by omega⟩
theorem cP9 (d:Nat) (h:aA) {p:Stp} (hp:Sok p) {st:List Int} (hl:st.length=8):aD T (d+2) "_law_altered" [.d (dnS st p).1] h=some (aB7 st p,h):=by
 cases p with
 | call c=>exact aP1 d h _ (xJ hp hl)
 | look c=>exact aP1 d h _ (xJ hp hl)
 | lay ps=>exact vO (d+1) h .dn
def qS:Stp->Bool
 | .call _=>true
 | _=>false
def anF (st:List Int) (p:Stp) (s:S3):PyData×S3 :=
 if aI s 7=0 then (.none,digS s 7) else if aI s 7=1 then (aB7 st p,digS s 7)
 else if aI s 7=2/\qS p=true then (if aI (digS s 7) 4=0 then (aB2,digS (digS s 7) 4) else ((dnS st p).1,digS (digS s 7) 4))
 else ((dnS st p).1,digS s 7)
theorem xK {p:Stp} (hp:Sok p) {st:List Int} (hl:st.length=8):kE p (dnS st p).1=true:=by
 cases p with
 | call c=>exact (iQ hp (iP hp hl)).1
 | look c=>exact (iQ hp (iP hp hl)).2
 | lay ps=>simp [kE,dnS,aG]
theorem aP8 {p:Stp} (hp:Sok p) {st:List Int} (hl:st.length=8):kE p (aB7 st p)=true/\tOk (aB7 st p):=by
 cases p with
 | call c=>exact ⟨(iQ hp (tK hp (iP hp hl))).1,.inr (.inr ⟨_,rfl⟩)⟩
 | look c=>exact ⟨(iQ hp (tK hp (iP hp hl))).2,.inr (.inr ⟨_,rfl⟩)⟩
 | lay ps=>exact ⟨by simp [kE,aB7,aG],.inr (.inr ⟨.one .dn,rfl⟩)⟩
theorem cD8 {p:Stp} (hp:Sok p) {st:List Int} (hl:st.length=8) (s:S3):((anF st p s).1=.none\/kE p (anF st p s).1=true)/\tOk (anF st p s).1:=by
 unfold anF;split
 ·exact ⟨.inl rfl,.inl rfl⟩
 split
 ·exact ⟨.inr (aP8 hp hl).1,(aP8 hp hl).2⟩
 split
 ·rename_i hc;split
  ·refine ⟨.inr ?_,.inr (.inl rfl)⟩;cases p with
   | call c=>simp [kE,aB2,aG]
   | look c=>cases hc.2
   | lay ps=>cases hc.2
  ·exact ⟨.inr (xK hp hl),(bD7 st p).1⟩
 ·exact ⟨.inr (xK hp hl),(bD7 st p).1⟩
def wdF (n:Int):String:=if n < 4 then "must" else if n < 6 then "may" else "out"
noncomputable def itF (st:List Int) (s:S3):It×List Int×S3 :=
 let p:=(sF s).1
 let a:=anF st p (sF s).2
 (⟨p,a.1,wdF (aI a.2 7)⟩,(dnS st p).2,digS a.2 7)
theorem cD9 {st:List Int} (hl:st.length=8) (s:S3):(itF st s).1.ok/\(itF st s).2.1.length=8:=by
 have h:=cD8 (bD1 s) hl (sF s).2;refine ⟨⟨bD1 s,h.1,h.2,?_⟩,bD3 (bD1 s) hl⟩;show wdF _=_\/wdF _=_\/wdF _=_;unfold wdF;split
 ·exact .inl rfl
 split
 ·exact .inr (.inl rfl)
 ·exact .inr (.inr rfl)
theorem cQ0 (s:S3):atI [PyData.str (Str.ofString "must"),.str (Str.ofString "must"),.str (Str.ofString "must"),.str (Str.ofString "must"),.str (Str.ofString "may"),.str (Str.ofString "may"),.str (Str.ofString "out")] (aI s 7)=some (.str (Str.ofString (wdF (aI s 7)))):=by
 have h1:=eR s (b:=7) (by decide);have h2:=eS s (b:=7) (by decide);have:aI s 7=0\/aI s 7=1\/aI s 7=2\/aI s 7=3\/aI s 7=4\/aI s 7=5\/aI s 7=6:=by omega
 rcases this with e | e | e | e | e | e | e<;>rw [e]<;>first | (simp [wdF];done) | exact fC (j:=6) rfl
end K15
set_option maxHeartbeats 4000000
namespace K15
open PySem PySem.Spec PyProof.Rows L2 DL CI SJ
variable (d:Nat) (h:aA)
section
variable {α:Type} (F:α->PyData)
def cV (p:Nat×α):PyData×PyData:=(.int p.1,F p.2)
def jI (g:List (Nat×α)) (k:Nat) (v:α):List (Nat×α):=if (g.any fun p=>decide (p.1=k))=true then g.map (fun p=>if p.1=k then (p.1,v) else p) else g++[(k,v)]
def eD (g:List (Nat×α)) (k:Nat):Option α:=(g.find? fun p=>decide (p.1=k)).map (·.2)
theorem iR (i:Int):aY (.int i)=some (.inl i):=rfl
theorem vU (p:Nat×α) (k:Nat):(aY (cV F p).1=aY (.int (k:Int)))=(p.1=k):=by simp [cV,iR];omega
theorem cE0 (g:List (Nat×α)) (k:Nat) (v:α):pJ (g.map (cV F)) (.int (k:Int)) (F v)=(jI g k v).map (cV F):=by
 have e1:((g.map (cV F)).any fun p=>decide (aY p.1=aY (.int (k:Int))))=g.any fun p=>decide (p.1=k):=by
  rw [List.any_map]
  congr 1
  funext p
  simp only [Function.comp,vU]
 unfold pJ jI;rw [e1];split
 ·rw [List.map_map,List.map_map];refine List.map_congr_left fun p _=>?_;simp only [Function.comp,vU];split<;>rfl
 ·rw [List.map_append];rfl
theorem bD9 (g:List (Nat×α)) (k:Nat):((g.map (cV F)).find? fun p=>decide (aY p.1=aY (.int (k:Int)))).map (·.2)=(eD g k).map F:=by
 unfold eD;induction g with
 | nil=>rfl
 | cons p r ih =>
  rw [List.map_cons,List.find?_cons,List.find?_cons];have e:=vU F p k
  by_cases h:p.1=k
  ·have h':aY (cV F p).1=aY (.int (k:Int)):=by rw [e];exact h
   simp only [h',h,decide_true];rfl
  ·have h':¬ aY (cV F p).1=aY (.int (k:Int)):=by rw [e];exact h
   simp only [h',h,decide_false];exact ih
theorem bE0 (g:List (Nat×α)) (k:Nat) (v:α):(jI g k v).length<=g.length+1:=by
 unfold jI;split<;>simp
theorem xL (g:List (Nat×α)) (k:Nat) (v:α) (j:Nat):eD (jI g k v) j=if j=k then some v else eD g j:=by
 have hm:∀ g:List (Nat×α),eD (g.map fun p=>if p.1=k then (p.1,v) else p) j=if j=k then (eD g j).map fun _=>v else eD g j:=fun g=>by
  unfold eD;induction g with
  | nil=>simp
  | cons p r ih =>
   rw [List.map_cons,List.find?_cons,List.find?_cons]
   by_cases e1:p.1=k
   ·rw [if_pos e1]
    by_cases e2:p.1=j
    ·simp [e2,e1.symm.trans e2]
    ·have:¬ j=k:=fun z=>e2 (e1.trans z.symm);simp only [this,if_false] at ih ⊢;simp only [decide_eq_false e2];exact ih
   ·rw [if_neg e1]
    by_cases e2:p.1=j
    ·have:¬ j=k:=fun z=>e1 (e2.trans z);simp [e2,this]
    ·simp only [decide_eq_false e2];exact ih
 have ha:∀ g:List (Nat×α),(g.any fun p=>decide (p.1=k))=(eD g k).isSome:=fun g=>by
  unfold eD;induction g with
  | nil=>rfl
  | cons p r ih =>
   rw [List.any_cons,List.find?_cons,ih]
   by_cases e:p.1=k<;>simp [e]
 unfold jI;rw [ha];split
 ·rename_i z;rw [hm];split
  ·rename_i e;rw [e];obtain ⟨w,ew⟩:=Option.isSome_iff_exists.mp z;rw [ew];rfl
  ·rfl
 ·rename_i z;have z:eD g k=none:=by simpa using z
  unfold eD at z ⊢;rw [List.find?_append];split
  ·rename_i e;rw [e];have z:g.find? (fun p=>decide (p.1=k))=none:=by simpa using z
   rw [z];simp
  ·rename_i e;have:¬ k=j:=fun q=>e q.symm;cases q:g.find? (fun p=>decide (p.1=j))<;>simp [this]
end
end K15
set_option maxHeartbeats 400000
namespace K15
open PySem PySem.Spec PyProof.Rows L2 DL CI SJ
structure Rn where
 ops:List Nat
 kv:List (Nat×It)
 st:List Int
 s:S3
noncomputable def rnd (q:Rn):Rn :=
 ⟨q.ops.eraseIdx (aI (itF q.st q.s).2.2 q.ops.length).toNat,jI q.kv (q.ops.getD (aI (itF q.st q.s).2.2 q.ops.length).toNat 0) (itF q.st q.s).1,(itF q.st q.s).2.1,digS (itF q.st q.s).2.2 q.ops.length⟩
noncomputable def itI (n:Nat) (st:List Int) (s:S3):Nat->Rn
 | 0=>⟨List.range n,[],st,s⟩
 | k+1=>rnd (itI n st s k)
structure Rn.ok (n k:Nat) (q:Rn):Prop where
 ol:q.ops.length+k=n
 ob:∀ x∈q.ops,x < n
 kl:q.kv.length<=k
 st:q.st.length=8
 al:∀ x,x < n->x∈q.ops\/∃ y,eD q.kv x=some y
 kv:∀ x y,eD q.kv x=some y->y.ok
theorem cE1 {n k:Nat} {q:Rn} (hq:q.ok n k) (hk:k < n):(rnd q).ok n (k+1):=by
 have hl:=hq.ol;obtain ⟨j,ej,hj⟩:=bB (itF q.st q.s).2.2 (b:=q.ops.length) (by omega);have hj':j < q.ops.length:=by omega
 have hi:=cD9 hq.st q.s;have er:rnd q=⟨q.ops.eraseIdx j,jI q.kv (q.ops.getD j 0) (itF q.st q.s).1,(itF q.st q.s).2.1,digS (itF q.st q.s).2.2 q.ops.length⟩:=by
  unfold rnd;rw [ej,Int.toNat_natCast]
 rw [er];refine ⟨?_,fun x hx=>hq.ob x (List.mem_of_mem_eraseIdx hx),?_,hi.2,fun x hx=>?_,fun x y e=>?_⟩
 ·show (q.ops.eraseIdx j).length+(k+1)=n;rw [List.length_eraseIdx_of_lt hj'];omega
 ·have:=bE0 q.kv (q.ops.getD j 0) (itF q.st q.s).1;have:=hq.kl;show (jI _ _ _).length<=k+1;omega
 ·show x∈q.ops.eraseIdx j\/∃ y,eD (jI q.kv (q.ops.getD j 0) (itF q.st q.s).1) x=some y;rw [xL]
  by_cases h1:x=q.ops.getD j 0
  ·right;rw [if_pos h1];exact ⟨_,rfl⟩
  ·rw [if_neg h1];rcases hq.al x hx with h2 | h2
   ·left;obtain ⟨m,hm,e⟩:=List.mem_iff_getElem.mp h2;refine List.mem_eraseIdx_iff_getElem.mpr ⟨m,hm,fun z=>h1 ?_,e⟩;subst z;rw [List.getD_eq_getElem?_getD,List.getElem?_eq_getElem hm,<- e];rfl
   ·exact .inr h2
 ·have e':eD (jI q.kv (q.ops.getD j 0) (itF q.st q.s).1) x=some y:=e;rw [xL] at e';split at e'
  ·cases e';exact hi.1
  ·exact hq.kv x y e'
theorem mK {n:Nat} {st:List Int} (hl:st.length=8) (s:S3):∀ k,k<=n->(itI n st s k).ok n k
 | 0,_=>⟨by simp [itI],fun x hx=>by simpa [itI] using hx,Nat.le_refl 0,hl,fun x hx=>.inl (by simpa [itI] using hx),fun x y e=>by simp [itI,eD] at e⟩
 | k+1,hk=>cE1 (mK hl s k (by omega)) (by omega)
theorem aP9 (f:Nat->PyData):∀ (l:List Nat) (j:Nat),(l.map f).eraseIdx j=(l.eraseIdx j).map f
 | [],j=>by simp
 | a::r,0=>by simp
 | a::r,j+1=>by simp [aP9 f r j]
def Gc (h:aA) (i:Nat) (xs:List PyData) (kvs:List (PyData×PyData)) (s:S3):aA:=(h++[Cell.l xs,Cell.k kvs]).set i (stL s)
section
variable {h:aA} {i:Nat} (hi:i < h.length)
include hi
theorem G_l (xs:List PyData) (kvs:List (PyData×PyData)) (s:S3):(Gc h i xs kvs s)[h.length]?=some (.l xs):=by
 unfold Gc;rw [List.getElem?_set_ne (by omega)];simp
theorem G_k (xs:List PyData) (kvs:List (PyData×PyData)) (s:S3):(Gc h i xs kvs s)[h.length+1]?=some (.k kvs):=by
 unfold Gc;rw [List.getElem?_set_ne (by omega)];simp
theorem dF7 (xs ys:List PyData) (kvs:List (PyData×PyData)) (s:S3):(Gc h i xs kvs s).set h.length (.l ys)=Gc h i ys kvs s:=by
 unfold Gc;rw [List.set_comm _ _ (by omega)];simp
theorem dF8 (xs:List PyData) (kvs kvs':List (PyData×PyData)) (s:S3):(Gc h i xs kvs s).set (h.length+1) (.k kvs')=Gc h i xs kvs' s:=by
 unfold Gc;rw [List.set_comm _ _ (by omega)]
 congr 1
 rw [List.set_append_right _ _ (by omega)];simp
theorem cQ1 (xs:List PyData) (kvs:List (PyData×PyData)) (s:S3):cD [.c h.length] (Gc h i xs kvs s)=some (.d (.int xs.length),Gc h i xs kvs s):=by
 unfold cD ref;dsimp only;rw [G_l hi]
theorem kN (d:Nat) (xs:List PyData) (kvs:List (PyData×PyData)) (s:S3) (b:Int) (hb:0 < b) (hb2:aU b=true):aD T (d+1) "_law_digit" [.c i,.d (.int b)] (Gc h i xs kvs s)=some (.int (aI s b),Gc h i xs kvs (digS s b)):=cY d _ s b (by simp;omega) hb hb2
theorem cE2 (d:Nat) (xs:List PyData) (kvs:List (PyData×PyData)) (s:S3):aD T (d+4) "_law_step" [.c i] (Gc h i xs kvs s)=some ((sF s).1.dat,Gc h i xs kvs (sF s).2):=cD2 d _ s (by simp;omega)
theorem cQ2 {ops:List Nat} {j:Nat} (hj:j < ops.length) (hl:ops.length<=120) (kvs:List (PyData×PyData)) (s:S3):aJ8 h.length [.d (.int j)] (Gc h i (ops.map nI) kvs s)=some (.d (.int (ops.getD j 0)),Gc h i ((ops.eraseIdx j).map nI) kvs s):=by
 unfold aJ8;rw [G_l hi];have e:ixN (ops.map nI).length (j:Int)=some j:=by
  unfold ixN;rw [if_pos (by omega),List.length_map,if_pos (by omega)];simp
 have e2:(ops.map nI)[j]?=some (.int (ops.getD j 0)):=by
  rw [List.getElem?_map,List.getElem?_eq_getElem hj,List.getD_eq_getElem?_getD,List.getElem?_eq_getElem hj];rfl
 simp only [e,e2,bs];rw [if_pos ⟨by omega,by omega⟩,aP9,dF7 hi]
end
end K15
set_option maxHeartbeats 1000000
namespace K15
open PySem PySem.Spec PyProof.Rows L2 DL CI SJ
theorem xM {α:Type} {x:Option α} {f:α->Option (Fl×aA)} {P:DSt->aA->Prop} (a:α) (e:x=some a) (k:∃ δ2 h2,f a=some (.nx δ2,h2)/\P δ2 h2):∃ δ2 h2,x.bind f=some (.nx δ2,h2)/\P δ2 h2:=by
 rw [e];exact k
theorem sq {α β:Type} {x:Option α} {f:α->Option β} {R:Option β} (a:α) (e:x=some a) (k:f a=R):x.bind f=R:=by
 rw [e];exact k
def dfI:It:=⟨.lay [],.none,""⟩
noncomputable def itsF (n:Nat) (st:List Int) (s:S3):List It:=(List.range n).map fun k=>(eD (itI n st s n).kv k).getD dfI
theorem bE1 {n:Nat} {st:List Int} (hl:st.length=8) (s:S3):∀ x∈itsF n st s,x.ok:=by
 intro x hx;obtain ⟨k,hk,rfl⟩:=List.mem_map.mp hx;have hk:=List.mem_range.mp hk;have hq:=mK hl s n (Nat.le_refl n);have ho:(itI n st s n).ops=[]:=List.eq_nil_of_length_eq_zero (by have:=hq.ol;omega);rcases hq.al k hk with z | ⟨y,e⟩
 ·rw [ho] at z;cases z
 ·rw [e];exact hq.kv k y e
theorem aQ0 {n:Nat} {st:List Int} (hl:st.length=8) (s:S3) {k:Nat} (hk:k < n):∃ y,eD (itI n st s n).kv k=some y/\(eD (itI n st s n).kv k).getD dfI=y:=by
 have hq:=mK hl s n (Nat.le_refl n);have ho:(itI n st s n).ops=[]:=List.eq_nil_of_length_eq_zero (by have:=hq.ol;omega);rcases hq.al k hk with z | ⟨y,e⟩
 ·rw [ho] at z;cases z
 ·exact ⟨y,e,by rw [e];rfl⟩
def an2 (st:List Int) (p:Stp) (w:Int):PyData:=if w=1 then aB7 st p else if w=0 then .none else (dnS st p).1
theorem cQ3 (st:List Int) (p:Stp) (s:S3):anF st p s=if aI s 7=2/\qS p=true then (if aI (digS s 7) 4=0 then (aB2,digS (digS s 7) 4) else (an2 st p (aI s 7),digS (digS s 7) 4)) else (an2 st p (aI s 7),digS s 7):=by
 unfold anF an2
 by_cases h0:aI s 7=0
 ·simp [h0]
 by_cases h1:aI s 7=1
 ·simp [h1]
 by_cases h2:aI s 7=2
 ·simp [h2]
 ·simp [h0,h1,h2]
theorem dF9 {p:Stp}:∃ (w:String) (xs:List PyData),p.dat=.tuple (.str (Str.ofString w)::xs)/\(qS p=true ↔ ¬ w="look"/\¬ w="lay")/\w.length < 10:=by
 cases p with
 | call c =>
  cases c with
  | one o=>cases o<;>exact ⟨_,_,rfl,by simp [qS],by decide⟩
  | span lo hi=>exact ⟨_,_,rfl,by simp [qS],by decide⟩
  | deal cs=>exact ⟨_,_,rfl,by simp [qS],by decide⟩
 | look c=>exact ⟨"look",_,rfl,by simp [qS],by decide⟩
 | lay ps=>exact ⟨"lay",_,rfl,by simp [qS],by decide⟩
def IQ (h:aA) (i n:Nat) (st:List Int) (q:Rn) (δ:DSt) (H:aA):Prop:=∃ x6 x7 x8 x9 x10:Option W,δ=[some (.c i),some (.d (.tuple (st.map .int))),some (.d (.int n)),some (.d (.tuple (q.st.map .int))),some (.c h.length),some (.c (h.length+1)),x6,x7,x8,x9,x10]/\H=Gc h i (q.ops.map nI) (q.kv.map (cV It.dat)) q.s
theorem sqE {β:Type} {x:Option (Fl×aA)} {f:Fl×aA->Option β} {R:Option β} (J:DSt->aA->Prop) (e:∃ δ' h',x=some (.nx δ',h')/\J δ' h') (k:∀ δ' h',J δ' h'->f (.nx δ',h')=R):x.bind f=R:=by
 obtain ⟨δ',h',e,j⟩:=e;rw [e];exact k δ' h' j
theorem dG0 {h:aA} {i:Nat} (hi:i < h.length) (xs:List PyData) (kvs:List (PyData×PyData)) (s s':S3):okP (h.set i (stL s)) (Gc h i xs kvs s')/\(Gc h i xs kvs s').take h.length=h.set i (stL s'):=by
 unfold Gc;exact ⟨by rw [aN4 s' hi];trivial,aN5 hi⟩
def fkV (kv:List (Nat×It)):PyData->PyData
 | .int k=>((eD kv k.toNat).getD dfI).dat
 | _=>.none
theorem dG1 {h:aA} {i:Nat} (hi:i < h.length) (xs:List PyData) {kv:List (Nat×It)} {s:S3} {k:Nat} {y:It} (e:eD kv k=some y):xIx (.c (h.length+1)) (.d (.int k)) (Gc h i xs (kv.map (cV It.dat)) s)=some (.d y.dat,Gc h i xs (kv.map (cV It.dat)) s):=by
 have f:=bD9 It.dat kv k;rw [e,iR] at f;unfold xIx ref;dsimp only;rw [G_k hi];dsimp only [iR];cases q:(kv.map (cV It.dat)).find? (fun p=>decide (aY p.1=some (Sum.inl (k:Int)))) with
 | none=>rw [q] at f;cases f
 | some z =>
  rw [q] at f;have:z.2=y.dat:=Option.some.inj f;rw [Option.map_some,this]
theorem bE2 (d:Nat) (h:aA) {i n:Nat} (s:S3) (hi:i < h.length) (hn:n<=120) {st:List Int} (hl:st.length=8):aD T (d+6) "_law_items" [.c i,.d (.tuple (st.map .int)),.d (.int n)] (h.set i (stL s))=some (.tuple ((itsF n st s).map It.dat),h.set i (stL (itI n st s n).s)):=by
 have e7:aU 7=true:=by decide
 have e4:aU 4=true:=by decide
 have er:gA 0 (n:Int)=true:=bT (by omega) (by omega);have sa:∀ (s:S3) (L:aA),h.set i (stL s)++L=(h++L).set i (stL s):=fun s L=>dN hi;rw [show d+6=(d+5)+1 from rfl,qJ];simp only [bB7,cC0];refine sq (.rt (.d (.tuple ((itsF n st s).map It.dat))),Gc h i [] ((itI n st s n).kv.map (cV It.dat)) (itI n st s n).s) ?_ ?_
 ·refine sq (.nx [some (.c i),some (.d (.tuple (st.map .int))),some (.d (.int n)),some (.d (.tuple (st.map .int))),none,none,none,none,none,none,none],h.set i (stL s)) (by simp) ?_;dsimp only;refine sq (.nx [some (.c i),some (.d (.tuple (st.map .int))),some (.d (.int n)),some (.d (.tuple (st.map .int))),some (.c h.length),none,none,none,none,none,none],(h++[Cell.l ((List.range n).map nI)]).set i (stL s)) ?_ ?_
  ·have b1:(-4611686018427387904:Int)<=n:=by omega
   have b2:(n:Int) < 4611686018427387904:=by omega
   have b3:(n:Int)<=16000000:=by omega
   simp [bR,sa,b1,b2,b3,hV]
  dsimp only;refine sq (.nx [some (.c i),some (.d (.tuple (st.map .int))),some (.d (.int n)),some (.d (.tuple (st.map .int))),some (.c h.length),some (.c (h.length+1)),none,none,none,none,none],Gc h i ((List.range n).map nI) [] s) ?_ ?_
  ·have:∀ c,i < (h++[c]).length:=fun c=>by simp;omega
   simp [aK5,Gc];rw [dN (this _),List.append_assoc];rfl
  dsimp only;refine sqE (IQ h i n st (itI n st s n)) ?_ ?_
  ·refine xM ((rng 0 n,none),Gc h i ((List.range n).map nI) [] s) (by simp [er]) ?_;dsimp only;refine cU (fun m=>IQ h i n st (itI n st s m)) ⟨_,_,_,_,_,rfl,rfl⟩ (fun δ h'=>by rw [CI.rng_len];exact id) fun m hm δ H r=>?_;obtain ⟨x6,x7,x8,x9,x10,rfl,rfl⟩:=r;have hm':m < n:=by simpa [rng] using hm
   have hq:=mK (n:=n) hl s m (Nat.le_of_lt hm');rw [itI];generalize (rng 0 n)[m]=v6;generalize itI n st s m=q at hq ⊢;obtain ⟨ops,kv,st',s'⟩:=q;have hst:st'.length=8:=hq.st;have hol:ops.length+m=n:=hq.ol;have hkl:kv.length<=m:=hq.kl;clear hq;obtain ⟨os,eos⟩:∃ os,os=ops.map nI:=⟨_,rfl⟩;obtain ⟨ks,eks⟩:∃ ks,ks=kv.map (cV It.dat):=⟨_,rfl⟩;refine ⟨[some (.c i),some (.d (.tuple (st.map .int))),some (.d (.int n)),some (.d (.tuple (st'.map .int))),some (.c h.length),some (.c (h.length+1)),some (.d v6),x7,x8,x9,x10],Gc h i os ks s',by rw [eos,eks];rfl,?_⟩;have g1:=cE2 hi (d+1) os ks s';obtain ⟨p,s1,ep⟩:∃ p s1,sF s'=(p,s1):=⟨_,_,rfl⟩;have hp:Sok p:=by have:=bD1 s';rw [ep] at this;exact this
   rw [ep] at g1;dsimp only at g1;refine cB [some (.c i),some (.d (.tuple (st.map .int))),some (.d (.int n)),some (.d (.tuple (st'.map .int))),some (.c h.length),some (.c (h.length+1)),some (.d v6),some (.d p.dat),x8,x9,x10] (Gc h i os ks s1) (by simp [g1]) ?_;dsimp only;have g2:=vN d (Gc h i os ks s1) hp hst;refine cB [some (.c i),some (.d (.tuple (st.map .int))),some (.d (.int n)),some (.d (.tuple ((dnS st' p).2.map .int))),some (.c h.length),some (.c (h.length+1)),some (.d v6),some (.d p.dat),some (.d (dnS st' p).1),x9,x10] (Gc h i os ks s1) (by simp [g2]) ?_;dsimp only;have g3:=kN hi (d+4) os ks s1 7 (by decide) e7;obtain ⟨w,ew⟩:∃ w,w=aI s1 7:=⟨_,rfl⟩;rw [<- ew] at g3;refine cB [some (.c i),some (.d (.tuple (st.map .int))),some (.d (.int n)),some (.d (.tuple ((dnS st' p).2.map .int))),some (.c h.length),some (.c (h.length+1)),some (.d v6),some (.d p.dat),some (.d (dnS st' p).1),some (.d (.int w)),x10] (Gc h i os ks (digS s1 7)) (by simp [g3]) ?_;dsimp only;refine cB [some (.c i),some (.d (.tuple (st.map .int))),some (.d (.int n)),some (.d (.tuple ((dnS st' p).2.map .int))),some (.c h.length),some (.c (h.length+1)),some (.d v6),some (.d p.dat),some (.d (if w=0 then .none else (dnS st' p).1)),some (.d (.int w)),x10] (Gc h i os ks (digS s1 7)) (by by_cases z:w=0<;>simp [z]) ?_;dsimp only;refine cB [some (.c i),some (.d (.tuple (st.map .int))),some (.d (.int n)),some (.d (.tuple ((dnS st' p).2.map .int))),some (.c h.length),some (.c (h.length+1)),some (.d v6),some (.d p.dat),some (.d (an2 st' p w)),some (.d (.int w)),x10] (Gc h i os ks (digS s1 7)) (by
    by_cases z:w=1
    ·have g4:=cP9 (d+3) (Gc h i os ks (digS s1 7)) hp hst;simp [z,an2,g4]
    ·simp [z,an2]) ?_
   dsimp only;obtain ⟨A,s2,eA⟩:∃ A s2,anF st' p s1=(A,s2):=⟨_,_,rfl⟩;refine cB [some (.c i),some (.d (.tuple (st.map .int))),some (.d (.int n)),some (.d (.tuple ((dnS st' p).2.map .int))),some (.c h.length),some (.c (h.length+1)),some (.d v6),some (.d p.dat),some (.d A),some (.d (.int w)),x10] (Gc h i os ks s2) (by
    rw [cQ3,<- ew] at eA;obtain ⟨wd,xs,ed,hw,_⟩:=dF9 (p:=p)
    by_cases h2:w=2
    ·by_cases hc:qS p=true
     ·obtain ⟨n1,n2⟩:=hw.mp hc;have g5:=kN hi (d+4) os ks (digS s1 7) 4 (by decide) e4;rw [if_pos ⟨h2,hc⟩] at eA
      by_cases h4:aI (digS s1 7) 4=0
      ·rw [if_pos h4] at eA;cases eA;simp [h2,ed,PyData.eqv,n1,n2,g5,h4,aB2,szl]
      ·rw [if_neg h4] at eA;cases eA;simp [h2,ed,PyData.eqv,n1,n2,g5,h4]
     ·rw [if_neg (fun z=>hc z.2)] at eA;cases eA
      by_cases n1:wd="look"
      ·simp [h2,ed,PyData.eqv,n1]
      ·have n2:wd="lay":=Classical.byContradiction fun n2=>hc (hw.mpr ⟨n1,n2⟩);simp [h2,ed,PyData.eqv,n2]
    ·rw [if_neg (fun z=>h2 z.1)] at eA;cases eA;simp [h2]) ?_
   dsimp only;have g6:=kN hi (d+4) os ks s2 7 (by decide) e7;have g7:=cQ0 s2;refine cB [some (.c i),some (.d (.tuple (st.map .int))),some (.d (.int n)),some (.d (.tuple ((dnS st' p).2.map .int))),some (.c h.length),some (.c (h.length+1)),some (.d v6),some (.d p.dat),some (.d A),some (.d (.int w)),some (.d (.str (Str.ofString (wdF (aI s2 7)))))] (Gc h i os ks (digS s2 7)) (by simp [g6,g7,szl,aQ]) ?_;dsimp only;have lo:(0:Int) < ops.length:=by omega
   obtain ⟨j,ej,hj⟩:=bB (digS s2 7) (b:=ops.length) lo;have hj':j < ops.length:=by omega
   have g8:=kN hi (d+4) os ks (digS s2 7) ops.length lo (cX lo (by omega));have g9:=cQ1 hi os ks (digS s2 7);have g10:=cQ2 hi hj' (by omega) ks (digS (digS s2 7) ops.length);have g11:=G_l hi os ks (digS s2 7);have ol:os.length=ops.length:=by rw [eos];simp
   rw [<- eos] at g10;rw [ej] at g8;rw [ol] at g9;have hk2:ks.length < 16777216:=by rw [eks];simp;omega
   have g12:=G_k hi ((ops.eraseIdx j).map nI) ks (digS (digS s2 7) ops.length);have g13:=cE0 It.dat kv (ops.getD j 0) ⟨p,A,wdF (aI s2 7)⟩;have ei:itF st' s'=(⟨p,A,wdF (aI s2 7)⟩,(dnS st' p).2,digS s2 7):=by simp [itF,ep,eA]
   have er':rnd ⟨ops,kv,st',s'⟩=⟨ops.eraseIdx j,jI kv (ops.getD j 0) ⟨p,A,wdF (aI s2 7)⟩,(dnS st' p).2,digS (digS s2 7) ops.length⟩:=by
    unfold rnd;simp only [ei,ej,Int.toNat_natCast]
   rw [er'];refine ⟨[some (.c i),some (.d (.tuple (st.map .int))),some (.d (.int n)),some (.d (.tuple ((dnS st' p).2.map .int))),some (.c h.length),some (.c (h.length+1)),some (.d v6),some (.d p.dat),some (.d A),some (.d (.int w)),some (.d (.str (Str.ofString (wdF (aI s2 7)))))],Gc h i ((ops.eraseIdx j).map nI) ((jI kv (ops.getD j 0) ⟨p,A,wdF (aI s2 7)⟩).map (cV It.dat)) (digS (digS s2 7) ops.length),?_,_,_,_,_,_,rfl,rfl⟩;rw [<- g13,<- eks];simp [g8,g9,g10,g11,g12,szl,hk2,iR,It.dat,dF8 hi]
  ·rintro δ' H ⟨x6,x7,x8,x9,x10,rfl,rfl⟩;have hq:=mK hl s n (Nat.le_refl n);have ho:(itI n st s n).ops=[]:=List.eq_nil_of_length_eq_zero (by have:=hq.ol;omega);rw [ho];simp [er,aQ,szl];rw [cB1 (fkV (itI n st s n).kv) (fun δ=>∃ a,δ=[a,some (.c (h.length+1))]) _ _ ⟨_,rfl⟩ (fun z hz δ ⟨a,e⟩=>by
    subst e;rw [hV] at hz;obtain ⟨k,hk,rfl⟩:=List.mem_map.mp hz;obtain ⟨y,ey,ey2⟩:=aQ0 hl s (List.mem_range.mp hk);have g:=dG1 hi [] (s:=(itI n st s n).s) ey;refine ⟨[some (.d (nI k)),_],rfl,⟨_,rfl⟩,?_⟩;simp [nI,fkV,g,ey])]
   rw [hV];simp [itsF,Function.comp_def,nI,fkV]
 ·have:=dG0 hi [] ((itI n st s n).kv.map (cV It.dat)) s (itI n st s n).s;simp [this.1,this.2]
end K15
set_option maxHeartbeats 400000
namespace K15
open PySem PySem.Spec PyProof.Rows L2 DL CI SJ
noncomputable def vs:Nat->S3->List Int×S3
 | 0,s=>([],s)
 | k+1,s=>((vF s).1::(vs k (vF s).2).1,(vs k (vF s).2).2)
theorem vV:∀ (k:Nat) (s:S3),(vs k s).1.length=k
 | 0,s=>rfl
 | k+1,s=>by simp [vs,vV k]
theorem qT {g:XG} {te:XR W} {all:List PyData} {h:aA} {i:Nat} (k:Nat) (hg:∀ w δ h,g w δ h=some (δ.set k (some w),h)) :
  ∀ (rest:List PyData) (δ:DSt) (ac:List PyData) (c:Cell) (s:S3),Stf c s->(rest=[]->c=stL s)->(∀ x∈rest,∀ u c s,Stf c s->te ((δ.set k u).set k (some (.d x))) (h.set i c)=some (.d (.int (vF s).1),h.set i (stL (vF s).2))) ->
   aO g (aC true) te none all rest δ (h.set i c) ac=some (ac++(vs rest.length s).1.map .int,h.set i (stL (vs rest.length s).2))
 | [],δ,ac,c,s,_,hn,_=>by rw [hn rfl];simp [aO,vs]
 | x::r,δ,ac,c,s,hc,_,hf=>by
  have e:=hf x List.mem_cons_self none c s hc;rw [List.set_set] at e;rw [aO,cJ,if_pos rfl,hg];simp only [Option.bind_some,lT,if_true,e];rw [qT k hg r _ _ _ _ (stf _) (fun _=>rfl) fun y hy u c s hc=>by
   have:=hf y (List.mem_cons_of_mem _ hy) u c s hc;rw [List.set_set] at this ⊢;rw [List.set_set];exact this]
  simp [vs]
noncomputable def stF (s:S3):List Int×S3:=if aI s 3=0 then vs 8 (digS s 3) else ([0,0,0,0,0,0,0,0],digS s 3)
theorem qU (s:S3):(stF s).1.length=8:=by
 unfold stF;split
 ·exact vV 8 _
 ·rfl
noncomputable def pN (c:Int) (m:Nat):Nat:=(aI (st0 c) (m+1)).toNat
noncomputable def pS (c:Int) (m:Nat):List Int×S3:=stF (digS (st0 c) (m+1))
noncomputable def pI (c:Int) (m:Nat):List It:=itsF (pN c m) (pS c m).1 (pS c m).2
noncomputable def pT (c:Int) (m:Nat):S3:=(itI (pN c m) (pS c m).1 (pS c m).2 (pN c m)).s
noncomputable def pP (c:Int) (m:Nat):List (Nat×Nat)×S3:=itP (pN c m) (digS (pT c m) 5) (aI (pT c m) 5).toNat
noncomputable def pbF (c:Int) (m:Nat):Pb:=⟨(pS c m).1,pI c m,(pP c m).1,(itT (pI c m) (digS (pP c m).2 4) (aI (pP c m).2 4).toNat).1⟩
theorem bK3 (c:Int) (m:Nat):pN c m<=m:=by
 have h1:=eR (st0 c) (b:=(m:Int)+1) (by omega);have h2:=eS (st0 c) (b:=(m:Int)+1) (by omega);unfold pN;omega
theorem aQ1 (c:Int) (m:Nat):(pI c m).length=pN c m:=by simp [pI,itsF]
theorem cE3 (c:Int) {m:Nat} (hm:m<=120):(pbF c m).ok:=by
 have hl:=bK3 c m;have e:=aQ1 c m;refine ⟨qU _,?_,bE1 (qU _) _,?_,?_,?_,vT _ _ _⟩
 ·show (pI c m).length<=120;omega
 ·have:=qQ (pN c m) (digS (pT c m) 5) (aI (pT c m) 5).toNat;have:=eS (pT c m) (b:=5) (by decide);show (itP (pN c m) (digS (pT c m) 5) (aI (pT c m) 5).toNat).1.length<=100;omega
 ·intro p hp;show p.1 < (pI c m).length/\p.2 < (pI c m).length/\p.1≠p.2;rw [e];exact vR _ _ _ p hp
 ·have:=qR (pI c m) (digS (pP c m).2 4) (aI (pP c m).2 4).toNat;have:=eS (pP c m).2 (b:=4) (by decide);show (itT (pI c m) (digS (pP c m).2 4) (aI (pP c m).2 4).toNat).1.length<=100;omega
theorem xN (h:aA) (c c':Cell):h++[c]=(h++[c']).set h.length c:=by simp
theorem aB8 (d:Nat) (h:aA) (c:Int) {m:Nat} (hm:m<=120):aD T (d+7) "_law_problem" [.d (.int c),.d (.int m)] h=some ((pbF c m).dat,h):=by
 have e3:aU 3=true:=by decide
 have er:gA 0 8=true:=bT (by omega) (by omega);have hi:h.length < (h++[Cell.l []]).length:=by simp
 have as:∀ c,h++[c]=(h++[Cell.l []]).set h.length c:=fun c=>xN h c _;obtain ⟨H,eH⟩:∃ H,H=h++[Cell.l []]:=⟨_,rfl⟩;rw [<- eH] at hi as;have hm1:(0:Int) < m+1:=by omega
 have g1:=tG (d+5) H c (m+1) hi hm1 (cX hm1 (by omega));obtain ⟨n,en⟩:∃ n,n=pN c m:=⟨_,rfl⟩;have hn:aI (st0 c) (m+1)=n:=by
  have h1:=eR (st0 c) (b:=(m:Int)+1) (by omega);rw [en];unfold pN;omega
 have hn2:n<=120:=by have:=bK3 c m;omega
 rw [hn] at g1;rw [show d+7=(d+6)+1 from rfl,lY];simp only [bB7,cC0];refine sq (.rt (.d (pbF c m).dat),H.set h.length (stL (itT (pI c m) (digS (pP c m).2 4) (aI (pP c m).2 4).toNat).2)) ?_ ?_
 ·refine sq (.nx [some (.d (.int c)),some (.d (.int m)),some (.c h.length),none,none,none],H.set h.length (.l [.int c])) (by simp [bR,szl,<- as]) ?_;dsimp only;refine sq (.nx [some (.d (.int c)),some (.d (.int m)),some (.c h.length),some (.d (.int n)),none,none],H.set h.length (stL (digS (st0 c) (m+1)))) (by simp [g1]) ?_;dsimp only;refine sq (.nx [some (.d (.int c)),some (.d (.int m)),some (.c h.length),some (.d (.int n)),some (.d (.tuple ([0,0,0,0,0,0,0,0].map .int))),none],H.set h.length (stL (digS (st0 c) (m+1)))) (by simp) ?_;dsimp only;refine sq (.nx [some (.d (.int c)),some (.d (.int m)),some (.c h.length),some (.d (.int n)),some (.d (.tuple ((pS c m).1.map .int))),none],H.set h.length (stL (pS c m).2)) ?_ ?_
  ·have g2:=cY (d+5) H (digS (st0 c) (m+1)) 3 hi (by decide) e3;unfold pS stF
   by_cases z:aI (digS (st0 c) (m+1)) 3=0
   ·rw [if_pos z];rw [z] at g2;simp [g2,er,aQ,szl];rw [qT 0 (fun _ _ _=>rfl) _ _ _ _ _ (stf _) (fun _=>rfl) (fun x hx u c s hc=>by
     have:=mF (d+4) H hc hi;simp [this])]
    simp [rng]
   ·rw [if_neg z];simp [g2,z]
  dsimp only;have g3:=bE2 d H (pS c m).2 hi hn2 (qU (digS (st0 c) (m+1)));have g4:=bD8 (d+4) H (n:=n) (pT c m) hi hn2;have g5:=aB6 (d+4) H (pP c m).2 hi (its:=pI c m) (by rw [aQ1];omega);refine sq (.nx [some (.d (.int c)),some (.d (.int m)),some (.c h.length),some (.d (.int n)),some (.d (.tuple ((pS c m).1.map .int))),some (.d (.tuple ((pI c m).map It.dat)))],H.set h.length (stL (pT c m))) ?_ ?_
  ·have g3':aD T (d+6) "_law_items" [.c h.length,.d (.tuple ((pS c m).1.map .int)),.d (.int n)] (H.set h.length (stL (pS c m).2))=some (.tuple ((pI c m).map It.dat),H.set h.length (stL (pT c m))):=by
    rw [en];rw [en] at g3;exact g3
   simp [g3']
  dsimp only;have g4':aD T (d+6) "_law_pairs" [.c h.length,.d (.int n)] (H.set h.length (stL (pT c m)))=some (.tuple ((pP c m).1.map p2),H.set h.length (stL (pP c m).2)):=by
   rw [en];rw [en] at g4;exact g4
  simp [g4',g5,szl,pbF,Pb.dat]
 ·have ek:∀ c,H.set h.length c=h++[c]:=fun c=>(as c).symm;rw [ek];simp
def stD (st:List Int):PyData:=.tuple (st.map .int)
theorem tP:∀ ns:List Int,peqs (ns.map .int) (ns.map .int)=true
 | []=>by simp [peqs]
 | a::r=>by simp [peqs,peq,tP r]
theorem xO:∀ ss:List (List Int),peqs (ss.map stD) (ss.map stD)=true
 | []=>by simp [peqs]
 | a::r=>by
  rw [List.map_cons,peqs,xO r,stD,peq,tP];rfl
theorem aQ4 (ns:List Int) (a b:Nat):∃ qs:List Int,cut (ns.map PyData.int) (some (a:Int)) (some (b:Int))=qs.map .int/\qs.length<=b:=by
 unfold cut;rw [HT.sIx_nat,HT.sIx_nat,<- List.map_drop,<- List.map_take];exact ⟨_,rfl,by rw [List.length_take];omega⟩
def At (I:DSt->Prop) (H:aA) (δ:DSt) (H':aA):Prop:=I δ/\H'=H
theorem jJ {g:XG} {tb:XS} {c:Option Nat} {all:List PyData} {H:aA} (hc:CI.condB c all H=true) (I:DSt->Prop) {P:DSt->aA->Prop} (hP:∀ δ,I δ->P δ H):∀ (rest:List PyData) (δ:DSt),I δ ->
  (∀ x∈rest,∀ δ,I δ->∃ δ1,g (.d x) δ H=some (δ1,H)/\∃ δ2 h2,tb δ1 H=some (.nx δ2,h2)/\At I H δ2 h2)->∃ δ' h',cI g tb c all rest δ H=some (.nx δ',h')/\P δ' h'
 | [],δ,i,_=>⟨δ,H,by rw [cI,if_pos hc],hP δ i⟩
 | x::r,δ,i,ht=>by
  obtain ⟨δ1,e1,δ2,h2,e2,i2,rfl⟩:=ht x List.mem_cons_self δ i;obtain ⟨δ3,h3,e3,i3⟩:=jJ hc I hP r δ2 i2 fun y hy=>ht y (List.mem_cons_of_mem _ hy);refine ⟨δ3,h3,?_,i3⟩;rw [cI,if_pos hc,e1];simp only [bs,e2];exact e3
theorem tQ:∀ ns:List Int,PyData.eqvAll (ns.map .int) (ns.map .int)=true
 | []=>by simp [PyData.eqvAll]
 | a::r=>by simp [PyData.eqvAll,PyData.eqv,tQ r]
theorem cQ4 (st:List Int) (y:It) (h:aA):xEq (.d (bh st y)) (.d (bh st y)) h=some true:=by
 unfold bh;split
 ·simp [xEq,ref,qP,PyData.eqv,tQ]
 ·simp [xEq,ref,PyData.eqv]
def LJ (ns:List Int) (b:Pb) (m:Nat) (δ:DSt) (H:aA):Prop:=∃ (x3 x4 x5 x6:Option W) (ss:List (List Int)),δ=[some (.d (.list (ns.map .int))),some (.d b.dat),some (.c 0),x3,x4,x5,x6]/\H[0]?=some (.l (ss.map stD))/\(∀ st∈ss,st.length=8)/\ss.length<=m+1
theorem er1 {α:Type} {x:Option α} {f:α->Option (Fl×aA)} {z:W} (a:α) (e:x=some a) (k:∃ H,f a=some (Fl.rt z,H)):∃ H,x.bind f=some (Fl.rt z,H):=by
 rw [e];exact k
theorem erE {x:Option (Fl×aA)} {f:Fl×aA->Option (Fl×aA)} {z:W} (J:DSt->aA->Prop) (e:∃ δ' h',x=some (.nx δ',h')/\J δ' h') (k:∀ δ' h',J δ' h'->∃ H,f (.nx δ',h')=some (Fl.rt z,H)):∃ H,x.bind f=some (Fl.rt z,H):=by
 obtain ⟨δ',h',e,j⟩:=e;rw [e];exact k δ' h' j
theorem dG2 {x:Option (Fl×aA)} (e:∃ H,x=some (Fl.rt (.d (.bool true)),H)):∃ h',x.bind (ends [])=some (.bool true,h'):=by
 obtain ⟨H,e⟩:=e;refine ⟨[],?_⟩;rw [e,bs,cB8,if_pos]
 ·rfl
 ·exact fun i c hi=>absurd hi (by simp)
theorem cE4 (ns:List Int) (d:Nat):∃ h',aD T (d+16) "law" [.d (.list (ns.map .int))] []=some (.bool true,h'):=by
 have hb:=cE3 (ns.head?.getD 0) (m:=8) (by decide);have g0:=bC5 (d+14) [] ns;have g1:aD T (d+15) "_law_problem" [.d (.int (ns.head?.getD 0)),.d (.int 8)] []=_:=aB8 (d+8) [] (ns.head?.getD 0) (m:=8) (by decide);generalize pbF (ns.head?.getD 0) 8=b at hb g1;have er:gA 0 8=true:=bT (by omega) (by omega);have en:gA 0 (b.its.length:Int)=true:=bT (by omega) (by have:=hb.il;omega);rw [show d+16=(d+15)+1 from rfl,cP3];simp only [bB7,cC0];refine dG2 ?_;refine er1 (.nx [some (.d (.list (ns.map .int))),some (.d b.dat),none,none,none,none,none],[]) (by simp [g0,g1]) ?_;dsimp only;refine er1 (.nx [some (.d (.list (ns.map .int))),some (.d b.dat),some (.c 0),none,none,none,none],[.l [stD b.st]]) (by simp [bR,szl,Pb.dat,stD]) ?_;dsimp only;obtain ⟨qs,eq,ql⟩:∃ qs:List Int,cut (ns.map PyData.int) (some 1) (some 5)=qs.map .int/\qs.length<=5:=aQ4 ns 1 5;refine erE (LJ ns b 5) ?_ ?_
 ·refine xM ((qs.map .int,none),[.l [stD b.st]]) (by simp [eq]) ?_;dsimp only;refine cU (LJ ns b) ⟨_,_,_,_,[b.st],rfl,rfl,by simp [hb.st],by simp⟩ (fun δ H r=>?_) fun m hm δ H r=>?_
  ·obtain ⟨x3,x4,x5,x6,ss,h1,h2,h3,h4⟩:=r;exact ⟨x3,x4,x5,x6,ss,h1,h2,h3,by simp at h4;omega⟩
  ·obtain ⟨x3,x4,x5,x6,ss,rfl,h2,h3,h4⟩:=r;have hm':m < qs.length:=by simpa using hm
   have eqm:(qs.map PyData.int)[m]=.int qs[m]:=by simp
   rw [eqm];generalize qs[m]=c;refine ⟨[some (.d (.list (ns.map .int))),some (.d b.dat),some (.c 0),some (.d (.int c)),x4,x5,x6],H,rfl,?_⟩;have hi:H.length < (H++[Cell.l []]).length:=by simp
   have as:∀ c,H++[c]=(H++[Cell.l []]).set H.length c:=fun c=>xN H c _;have h0:0 < H.length:=by
    rcases Nat.eq_zero_or_pos H.length with z | z
    ·rw [List.getElem?_eq_none (by omega)] at h2;cases h2
    ·exact z
   have k1:∀ c,((H++[Cell.l []]).set H.length c)[0]?=some (.l (ss.map stD)):=fun c=>by
    rw [<- as,List.getElem?_append_left h0];exact h2
   obtain ⟨G,eG⟩:∃ G,G=H++[Cell.l []]:=⟨_,rfl⟩;rw [<- eG] at hi as k1;refine cB [some (.d (.list (ns.map .int))),some (.d b.dat),some (.c 0),some (.d (.int c)),some (.c H.length),x5,x6] (G.set H.length (.l [.int c])) (by simp [bR,szl,<- as]) ?_;dsimp only;have m1:kA (Str.ofString "append") (.c 0) (G.set H.length (.l [.int c]))=true:=by
    unfold kA;rw [if_pos rfl];dsimp only;rw [k1]
   have sl:ss.length < 16777216:=by omega
   refine ⟨[some (.d (.list (ns.map .int))),some (.d b.dat),some (.c 0),some (.d (.int c)),some (.c H.length),x5,x6],(G.set H.length (stL (vs 8 (st0 c)).2)).set 0 (.l ((ss++[(vs 8 (st0 c)).1]).map stD)),?_,_,_,_,_,ss++[(vs 8 (st0 c)).1],rfl,?_,?_,?_⟩
   ·have cv:=qT (g:=YG 0) (te:=xb (xb (aB 1) YN) (YF (d+15) "_law_value")) (all:=rng 0 8) (h:=G) (i:=H.length) 0 (fun _ _ _=>rfl) (rng 0 8) [none,some (.c H.length)] [] (.l [.int c]) (st0 c) (.inr ⟨c,rfl,rfl⟩) (fun z=>by cases z) (fun x hx u c s hc=>by
     have:=mF (d+13) G hc hi;simp [this])
    simp only [dF2,dF1,bB8] at cv;simp [m1,er,aQ,szl];rw [cv];simp [k1,sl,szl,rng,stD]
   ·have:0 < (G.set H.length (stL (vs 8 (st0 c)).2)).length:=by simp;omega
    rw [List.getElem?_set_self this]
   ·intro st hst;rcases List.mem_append.mp hst with z | z
    ·exact h3 st z
    ·simp at z;rw [z];exact vV 8 _
   ·simp;omega
 ·rintro δ H ⟨x3,x4,x5,x6,ss,rfl,h2,h3,_⟩;dsimp only;have hc:CI.condB (some 0) (ss.map stD) H=true:=by
   unfold CI.condB;dsimp only;rw [h2];exact xO ss
  refine erE (fun δ' H'=>H'=H) ?_ ?_
  ·refine xM ((ss.map stD,some 0),H) (by simp [h2]) ?_;dsimp only;refine jJ (P:=fun δ' H'=>H'=H) hc (fun δ'=>∃ x3 x4 x5 x6,δ'=[some (.d (.list (ns.map .int))),some (.d b.dat),some (.c 0),x3,x4,x5,x6]) (fun _ _=>rfl) _ _ ⟨_,_,_,_,rfl⟩ fun x hx δ i=>?_;obtain ⟨y3,y4,y5,y6,rfl⟩:=i;obtain ⟨st,hst,rfl⟩:=List.mem_map.mp hx;have hl:=h3 st hst;refine ⟨[some (.d (.list (ns.map .int))),some (.d b.dat),some (.c 0),y3,y4,some (.d (stD st)),y6],rfl,?_⟩;refine cT (At (fun δ'=>∃ x3 x4 x5 x6,δ'=[some (.d (.list (ns.map .int))),some (.d b.dat),some (.c 0),x3,x4,x5,x6]) H) ?_ (fun δ' h' j=>⟨δ',h',rfl,j⟩);refine xM ((rng 0 b.its.length,none),H) (by simp [Pb.dat,en]) ?_;dsimp only;refine jJ (c:=none) rfl (fun δ'=>∃ y6,δ'=[some (.d (.list (ns.map .int))),some (.d b.dat),some (.c 0),y3,y4,some (.d (stD st)),y6]) (fun δ i=>?_) _ _ ⟨_,rfl⟩ fun x hx δ i=>?_
   ·obtain ⟨y6,rfl⟩:=i;exact ⟨⟨_,_,_,_,rfl⟩,rfl⟩
   obtain ⟨y6,rfl⟩:=i;rw [hV] at hx;obtain ⟨k,hk,rfl⟩:=List.mem_map.mp hx;have hk:=List.mem_range.mp hk;have ey:b.its[k]?=some b.its[k]:=List.getElem?_eq_getElem hk;have q1:=aP4 d H hb ey hl;have q2:=cP7 (d+9) H ey (hb.its _ (List.getElem_mem hk)) hl;refine ⟨[some (.d (.list (ns.map .int))),some (.d b.dat),some (.c 0),y3,y4,some (.d (stD st)),some (.d (nI k))],rfl,[some (.d (.list (ns.map .int))),some (.d b.dat),some (.c 0),y3,y4,some (.d (stD st)),some (.d (nI k))],H,?_,⟨_,rfl⟩,rfl⟩;have q3:=cQ4 st b.its[k] H;simp [stD,nI,q1,q2,q3]
  ·rintro δ' H' rfl;exact ⟨_,rfl⟩
end K15
set_option maxHeartbeats 4000000
namespace K15
open PySem PySem.Spec PyProof.Rows L2 DL CI
def top (k:Nat):Stmt:=PySem.Challenge.pw_storejudge_k15_behind_an_item.main.body.getD k (.Pass ⟨0,0,0,0⟩)
abbrev s_0:Stmt:=top 0
abbrev s_1:Stmt:=top 2
abbrev s_2:Stmt:=top 3
abbrev s_3:Stmt:=top 4
abbrev s_4:Stmt:=top 5
abbrev s_5:Stmt:=top 6
abbrev s_6:Stmt:=top 11
abbrev s_7:Stmt:=top 12
abbrev s_8:Stmt:=top 13
abbrev s_9:Stmt:=top 14
abbrev cQ5:Stmt:=top 15
abbrev cQ6:Stmt:=top 16
abbrev cQ7:Stmt:=top 17
abbrev cQ8:Stmt:=top 18
abbrev cQ9:Stmt:=top 19
abbrev cR0:Stmt:=top 20
abbrev cR1:Stmt:=top 21
abbrev cR2:Stmt:=top 22
abbrev cR3:Stmt:=top 23
abbrev cR4:Stmt:=top 29
abbrev cR5:Stmt:=top 30
abbrev cR6:Stmt:=top 31
abbrev cR7:Stmt:=top 32
abbrev cR8:Stmt:=top 33
abbrev cR9:Stmt:=top 34
abbrev cS0:Stmt:=top 40
abbrev cS1:Stmt:=top 41
abbrev cS2:Stmt:=top 42
abbrev cS3:Stmt:=top 43
abbrev cS4:Stmt:=top 44
abbrev cS5:Stmt:=top 45
abbrev cS6:Stmt:=top 46
abbrev cS7:Stmt:=top 48
abbrev cS8:Stmt:=top 49
abbrev cS9:Stmt:=top 50
abbrev cT0:Stmt:=top 52
abbrev cT1:Stmt:=top 53
abbrev cT2:Stmt:=top 54
abbrev cT3:Stmt:=top 55
abbrev cT4:Stmt:=top 56
abbrev cT5:Stmt:=top 57
abbrev cT6:Stmt:=top 58
abbrev cT7:Stmt:=top 59
abbrev cT8:Stmt:=top 60
abbrev cT9:Stmt:=top 61
abbrev cU0:Stmt:=top 62
abbrev tR:Stmt:=top 63
theorem cU1:gcl body=([(Str.ofString "LAST_KEY",PyData.int 7),(Str.ofString "MOST_PARTS",PyData.int 4),(Str.ofString "FIRST",PyData.tuple [PyData.int 0,PyData.int 0,PyData.int 0,PyData.int 0,PyData.int 0,PyData.int 0,PyData.int 0,PyData.int 0]),(Str.ofString "WORDS",PyData.tuple [PyData.str (Str.ofString "must"),PyData.str (Str.ofString "may"),PyData.str (Str.ofString "out")]),(Str.ofString "MOST_ITEMS",PyData.int 120),(Str.ofString "MOST_PAIRS",PyData.int 4000),(Str.ofString "MOST_TRIPLES",PyData.int 4000)]:List (Str×PyData)):=by kernel_rfl
theorem cU2:tkl body=([(Str.ofString "NUMBERS_BEHIND",[(Str.ofString "read",0),(Str.ofString "write",1),(Str.ofString "add",1),(Str.ofString "swap",2)])]:List (Str×List (Str×Int))):=by kernel_rfl
theorem cU3:dfl body=([(Str.ofString "_wall",s_0),(Str.ofString "is_whole",s_1),(Str.ofString "is_between",s_2),(Str.ofString "is_tuple_of",s_3),(Str.ofString "are_whole",s_4),(Str.ofString "are_rising",s_5),(Str.ofString "is_key",s_6),(Str.ofString "word_of",s_7),(Str.ofString "is_worded",s_8),(Str.ofString "is_single",s_9),(Str.ofString "is_span",cQ5),(Str.ofString "is_deal",cQ6),(Str.ofString "is_call",cQ7),(Str.ofString "is_look",cQ8),(Str.ofString "is_value_pair",cQ9),(Str.ofString "is_lay",cR0),(Str.ofString "is_step",cR1),(Str.ofString "is_answer",cR2),(Str.ofString "is_own_answer",cR3),(Str.ofString "is_stand",cR4),(Str.ofString "with_value",cR5),(Str.ofString "done",cR6),(Str.ofString "single_done",cR7),(Str.ofString "deal_done",cR8),(Str.ofString "laid",cR9),(Str.ofString "is_item",cS0),(Str.ofString "are_items",cS1),(Str.ofString "are_numbers",cS2),(Str.ofString "are_unlike",cS3),(Str.ofString "are_pairs",cS4),(Str.ofString "are_triples",cS5),(Str.ofString "is_problem",cS6),(Str.ofString "check_problem",cS7),(Str.ofString "ways_of",cS8),(Str.ofString "behind",cS9),(Str.ofString "_law_cell_at",cT0),(Str.ofString "_law_digit",cT1),(Str.ofString "_law_value",cT2),(Str.ofString "_law_plain_call",cT3),(Str.ofString "_law_step",cT4),(Str.ofString "_law_altered",cT5),(Str.ofString "_law_items",cT6),(Str.ofString "_law_pairs",cT7),(Str.ofString "_law_triples",cT8),(Str.ofString "_law_problem",cT9),(Str.ofString "_law_due",cU0),(Str.ofString "law",tR)]:List (Str×Stmt)):=by kernel_rfl
def clsB:List Stmt:=match top 47 with
 | .ClassDef _ _ _ b _ _ _ _ _ _ _=>b
 | _=>[]
abbrev sI:Stmt:=clsB.getD 0 (.Pass ⟨0,0,0,0⟩)
abbrev sM0:Stmt:=clsB.getD 3 (.Pass ⟨0,0,0,0⟩)
theorem mI:methOf "__init__"=some sI:=by kernel_rfl
theorem mM0:methOf "stand_behind"=some sM0:=by kernel_rfl
theorem bE3:T.defs "law"=some tR:=by kernel_rfl
theorem cU4:aP tR=([Str.ofString "_law_script"]:List Str):=by kernel_rfl
theorem bK4 {x:Str} {C:Addr} {s:Stmt} (h:T.mt x=some (C,s)):C=291/\((x="stand_behind"/\s=sM0)):=by
 have h:mt x=some (C,s):=h;unfold mt at h;split at h
 ·rename_i e;try rw [e] at h
  rw [mM0] at h;cases h;exact ⟨rfl,⟨e,rfl⟩⟩
 cases h
theorem all_mk {l:PySem.W.OpenLaw} {w:World} {K:Frag} {h:Heap} {mg:Str->Option Value} {fa:Addr} (X:K.In h) (G:h.Ns mainGlobals mg) (hfa:mg "law"=some (.ref fa))
  (a0:FI K "_wall" s_0)
  (a1:FI K "is_whole" s_1)
  (a2:FI K "is_between" s_2)
  (a3:FI K "is_tuple_of" s_3)
  (a4:FI K "are_whole" s_4)
  (a5:FI K "are_rising" s_5)
  (a6:FI K "is_key" s_6)
  (a7:FI K "word_of" s_7)
  (a8:FI K "is_worded" s_8)
  (a9:FI K "is_single" s_9)
  (a10:FI K "is_span" cQ5)
  (a11:FI K "is_deal" cQ6)
  (a12:FI K "is_call" cQ7)
  (a13:FI K "is_look" cQ8)
  (a14:FI K "is_value_pair" cQ9)
  (a15:FI K "is_lay" cR0)
  (a16:FI K "is_step" cR1)
  (a17:FI K "is_answer" cR2)
  (a18:FI K "is_own_answer" cR3)
  (a19:FI K "is_stand" cR4)
  (a20:FI K "with_value" cR5)
  (a21:FI K "done" cR6)
  (a22:FI K "single_done" cR7)
  (a23:FI K "deal_done" cR8)
  (a24:FI K "laid" cR9)
  (a25:FI K "is_item" cS0)
  (a26:FI K "are_items" cS1)
  (a27:FI K "are_numbers" cS2)
  (a28:FI K "are_unlike" cS3)
  (a29:FI K "are_pairs" cS4)
  (a30:FI K "are_triples" cS5)
  (a31:FI K "is_problem" cS6)
  (a32:FI K "check_problem" cS7)
  (a33:FI K "ways_of" cS8)
  (a34:FI K "behind" cS9)
  (a35:FI K "_law_cell_at" cT0)
  (a36:FI K "_law_digit" cT1)
  (a37:FI K "_law_value" cT2)
  (a38:FI K "_law_plain_call" cT3)
  (a39:FI K "_law_step" cT4)
  (a40:FI K "_law_altered" cT5)
  (a41:FI K "_law_items" cT6)
  (a42:FI K "_law_pairs" cT7)
  (a43:FI K "_law_triples" cT8)
  (a44:FI K "_law_problem" cT9)
  (a45:FI K "_law_due" cU0)
  (a46:FI K "law" tR)
  {tg0:Tok} (cg0:PySem.W.nsIn K mainGlobals "LAST_KEY"=some (some (.int 7 tg0)))
  {tg1:Tok} (cg1:PySem.W.nsIn K mainGlobals "MOST_PARTS"=some (some (.int 4 tg1)))
  {q2:Addr} {nq2:Nat} {tq2_0 tq2_1 tq2_2 tq2_3 tq2_4 tq2_5 tq2_6 tq2_7:Tok} (aQ2:PySem.W.nsIn K mainGlobals "FIRST"=some (some (.ref q2))) (lQ2:K.lookup q2=some ⟨.type "tuple",none,.seq #[.int 0 tq2_0,.int 0 tq2_1,.int 0 tq2_2,.int 0 tq2_3,.int 0 tq2_4,.int 0 tq2_5,.int 0 tq2_6,.int 0 tq2_7] nq2,#[]⟩)
  {q3:Addr} {nq3:Nat} {tq3_0 tq3_1 tq3_2:Tok} (aQ3:PySem.W.nsIn K mainGlobals "WORDS"=some (some (.ref q3))) (lQ3:K.lookup q3=some ⟨.type "tuple",none,.seq #[.str "must" tq3_0,.str "may" tq3_1,.str "out" tq3_2] nq3,#[]⟩)
  {tg4:Tok} (cg4:PySem.W.nsIn K mainGlobals "MOST_ITEMS"=some (some (.int 120 tg4)))
  {tg5:Tok} (cg5:PySem.W.nsIn K mainGlobals "MOST_PAIRS"=some (some (.int 4000 tg5)))
  {tg6:Tok} (cg6:PySem.W.nsIn K mainGlobals "MOST_TRIPLES"=some (some (.int 4000 tg6)))
  {p0:Addr} {n0:Nat} {hh0_0 hh0_1 hh0_2 hh0_3:Int} {tk0_0 tv0_0 tk0_1 tv0_1 tk0_2 tv0_2 tk0_3 tv0_3:Tok} (aT0:PySem.W.nsIn K mainGlobals "NUMBERS_BEHIND"=some (some (.ref p0))) (lT0:K.lookup p0=some ⟨.type "dict",none,.dict #[⟨hh0_0,.str "read" tk0_0,.int 0 tv0_0⟩,⟨hh0_1,.str "write" tk0_1,.int 1 tv0_1⟩,⟨hh0_2,.str "add" tk0_2,.int 1 tv0_2⟩,⟨hh0_3,.str "swap" tk0_3,.int 2 tv0_3⟩] n0,#[]⟩) (kT0:PySem.W.KeysLit w.params [⟨hh0_0,.str "read" tk0_0,.int 0 tv0_0⟩,⟨hh0_1,.str "write" tk0_1,.int 1 tv0_1⟩,⟨hh0_2,.str "add" tk0_2,.int 1 tv0_2⟩,⟨hh0_3,.str "swap" tk0_3,.int 2 tv0_3⟩]) (sT0:(p0==sysModules)=false)
  (m0:FM K 291 "__init__" "Ways.__init__" sI)
  (m1:FM K 291 "stand_behind" "Ways.stand_behind" sM0)
  (cW:PySem.W.nsIn K mainGlobals "Ways"=some (some (.ref 291))) (mkW:PySem.W.makesIn K 291=true) (kpW:PySem.W.keepIn K (.ref 291)=true) (clW:Cls K 291) (noW:∀ f∈(["first","listed","musts","ahead","later","gaps"]:List Str),PySem.W.findIn K (.ref 291) f=some none)
  (zb:∀ b∈blAll,PySem.W.nsIn K mainGlobals b=some none) :
  ∃ fd:FuncData,(∀ (s:Shared) (v:Value),BindsTo s fd ⟨[v],[]⟩ [("_law_script",v)])/\∀ base:Heap,K.In base->base.Ns mainGlobals mg->FnOk l.prog w K mg base CX0 16 fa fd ["_law_script"] (lB K (mP (aD T 16 "law"))):=by
 have aL:=a46;obtain ⟨f46,od46,an46,sl46,oc46,kV46,dc46,pm46,cd46,ct46,b46,l46,c46,kk46⟩:=aL;have e:=hfa.symm.trans (PySem.W.mg_of X G b46);cases e;have F46:=uG (st:=tR) l46 c46 kk46;refine ⟨PySem.W.fnOf "law" "law" (bM tR) (aX tR) (aE tR) .none kV46 dc46 pm46 an46 cd46 ct46,fun s v=>.of_eq rfl,fun base XB GB=>?_⟩;have TT:TopOk T l.prog w K mg base:=by
  refine ⟨fun x hx=>?_,fun x z hz=>?_,fun x f hf=>?_,fun x s hs=>?_,fun x C s hs=>?_,fun x C s hs=>?_,fun C f hf=>?_⟩
  ·have hx:blAll.contains x=true:=hx;rw [List.contains_iff_mem] at hx;exact PySem.W.mg_none_of X G (zb x hx)
  ·have hm:=cB2 (show cA2 body x=some z from hz);rw [cU1] at hm;simp only [List.mem_cons,List.not_mem_nil,or_false,Prod.mk.injEq] at hm;rcases hm with ⟨rfl,rfl⟩ | ⟨rfl,rfl⟩ | ⟨rfl,rfl⟩ | ⟨rfl,rfl⟩ | ⟨rfl,rfl⟩ | ⟨rfl,rfl⟩ | ⟨rfl,rfl⟩
   ·exact ⟨.int 7,_,PySem.W.mg_of X G cg0,⟨tg0,rfl⟩,fun _ _=>iB⟩
   ·exact ⟨.int 4,_,PySem.W.mg_of X G cg1,⟨tg1,rfl⟩,fun _ _=>iB⟩
   ·exact ⟨.ref q2,_,PySem.W.mg_of X G aQ2,rfl,cB7 (ws:=[0,0,0,0,0,0,0,0]) lQ2 (.cons ⟨_,rfl⟩ (.cons ⟨_,rfl⟩ (.cons ⟨_,rfl⟩ (.cons ⟨_,rfl⟩ (.cons ⟨_,rfl⟩ (.cons ⟨_,rfl⟩ (.cons ⟨_,rfl⟩ (.cons ⟨_,rfl⟩ .nil)))))))) (show 8<=16777216 by decide)⟩
   ·exact ⟨.ref q3,_,PySem.W.mg_of X G aQ3,rfl,cB6 (ws:=["must","may","out"]) lQ3 (.cons ⟨_,rfl⟩ (.cons ⟨_,rfl⟩ (.cons ⟨_,rfl⟩ .nil))) (show 3<=16777216 by decide) (by decide +kernel)⟩
   ·exact ⟨.int 120,_,PySem.W.mg_of X G cg4,⟨tg4,rfl⟩,fun _ _=>iB⟩
   ·exact ⟨.int 4000,_,PySem.W.mg_of X G cg5,⟨tg5,rfl⟩,fun _ _=>iB⟩
   ·exact ⟨.int 4000,_,PySem.W.mg_of X G cg6,⟨tg6,rfl⟩,fun _ _=>iB⟩
  ·obtain ⟨t,hm,rfl⟩:=cB3 (show cA4 body x=some f from hf);rw [cU2] at hm;simp only [List.mem_cons,List.not_mem_nil,or_false,Prod.mk.injEq] at hm;rcases hm with ⟨rfl,rfl⟩
   ·refine ⟨p0,PySem.W.mg_of X G aT0,⟨⟨_,n0,lT0,kT0,fun y i hy=>?_,fun y hy=>?_⟩,sT0⟩⟩
    ·repeat rw [sT]
     simp only [List.lookup] at hy
     repeat (first | (split at hy;(rename_i q;rw [if_pos (eq_of_beq q).symm];cases hy;exact ⟨_,rfl⟩);(rename_i q;rw [if_neg (fun z=>(beq_eq_false_iff_ne.mp q) z.symm)])) | cases hy)
    ·repeat rw [sT]
     simp only [List.lookup] at hy
     repeat (split at hy;(cases hy);(rename_i q;rw [if_neg (fun z=>(beq_eq_false_iff_ne.mp q) z.symm)]))
     rfl
  ·have hm:=cB4 (show vB body x=some s from hs);rw [cU3] at hm;simp only [List.mem_cons,List.not_mem_nil,or_false,Prod.mk.injEq] at hm;rcases hm with ⟨rfl,rfl⟩ | ⟨rfl,rfl⟩ | ⟨rfl,rfl⟩ | ⟨rfl,rfl⟩ | ⟨rfl,rfl⟩ | ⟨rfl,rfl⟩ | ⟨rfl,rfl⟩ | ⟨rfl,rfl⟩ | ⟨rfl,rfl⟩ | ⟨rfl,rfl⟩ | ⟨rfl,rfl⟩ | ⟨rfl,rfl⟩ | ⟨rfl,rfl⟩ | ⟨rfl,rfl⟩ | ⟨rfl,rfl⟩ | ⟨rfl,rfl⟩ | ⟨rfl,rfl⟩ | ⟨rfl,rfl⟩ | ⟨rfl,rfl⟩ | ⟨rfl,rfl⟩ | ⟨rfl,rfl⟩ | ⟨rfl,rfl⟩ | ⟨rfl,rfl⟩ | ⟨rfl,rfl⟩ | ⟨rfl,rfl⟩ | ⟨rfl,rfl⟩ | ⟨rfl,rfl⟩ | ⟨rfl,rfl⟩ | ⟨rfl,rfl⟩ | ⟨rfl,rfl⟩ | ⟨rfl,rfl⟩ | ⟨rfl,rfl⟩ | ⟨rfl,rfl⟩ | ⟨rfl,rfl⟩ | ⟨rfl,rfl⟩ | ⟨rfl,rfl⟩ | ⟨rfl,rfl⟩ | ⟨rfl,rfl⟩ | ⟨rfl,rfl⟩ | ⟨rfl,rfl⟩ | ⟨rfl,rfl⟩ | ⟨rfl,rfl⟩ | ⟨rfl,rfl⟩ | ⟨rfl,rfl⟩ | ⟨rfl,rfl⟩ | ⟨rfl,rfl⟩ | ⟨rfl,rfl⟩
   all_goals first | exact FI.ok1 (by assumption) X G (by kernel_rfl) (fun _ _ _ _ _ _ _=>rfl) | exact FI.ok2 (by assumption) X G (by kernel_rfl) (fun _ _ _ _ _ _ _ _=>rfl) | exact FI.ok3 (by assumption) X G (by kernel_rfl) (fun _ _ _ _ _ _ _ _ _=>rfl)
  ·have h:(if x="Ways" then (methOf "__init__").map fun s=>((291:Addr),s) else none)=some (C,s):=hs;rw [mI] at h;split at h
   ·rename_i e;cases h;subst e;obtain ⟨f,fd,F,M,B⟩:=m0.ok (ps:=["self","problem"]) (by kernel_rfl) fun _ _ _ _ _ _ us hl=>match us,hl with | [_,_],_=>rfl
    exact ⟨_,_,f,fd,F,⟨mkW,M.at_,M.fn,kpW⟩,PySem.W.mg_of X G cW,B⟩
   ·cases h
  ·refine ⟨?_,?_⟩
   ·obtain ⟨e,_⟩:=bK4 hs;rw [e];exact clW
   ·obtain ⟨e,hm⟩:=bK4 hs;subst e;rcases hm with ⟨rfl,rfl⟩
    ·obtain ⟨f,fd,F,M,B⟩:=m1.ok (ps:=["self","stand","x"]) (by kernel_rfl) fun _ _ _ _ _ _ us hl=>match us,hl with | [_,_,_],_=>rfl
     exact ⟨_,_,f,fd,F,M,B⟩
  ·have h:(decide (C=291)&&(["first","listed","musts","ahead","later","gaps"]:List Str).contains f)=true:=hf;rw [Bool.and_eq_true,decide_eq_true_eq,List.contains_iff_mem] at h;obtain ⟨rfl,h⟩:=h;exact ⟨clW,noW f h⟩
 have q:=law_fn (k:=15) TT bE3 F46;rw [cU4] at q;exact q
theorem walk {l:PySem.W.OpenLaw} {q:Program} {loose:List Str} {XP:(Str->Option Value)->Heap->Prop} {YP:World->Heap->Prop} {d:DefRec} {K:Params->Frag} (hn:l.most=some 63) (hdf:d.params.defaults=[])
  (hY:∀ (w:World) (h:Heap),YP w h->(K w.params).In h)
  (F:∀ (w:World) (mg:Str->Option Value) (fa:Addr) (h:Heap),(K w.params).In h->h.Ns mainGlobals mg->mg d.name=some (.ref fa) ->
   ∃ fd:FuncData,(∀ (s:Shared) (u:Value),BindsTo s fd ⟨[u],[]⟩ [("_law_script",u)])/\∀ base:Heap,(K w.params).In base->base.Ns mainGlobals mg->FnOk l.prog w (K w.params) mg base CX0 16 fa fd ["_law_script"] (lB (K w.params) (mP (aD T 16 "law")))) :
  PySem.W.WalkO q loose XP YP l.row.toRowW d [] (fun f vs=>PySem.call f vs) :=
 L2.walk_of (n:=63) (k:=16) (x:="_law_script") (CX:=fun _=>CX0) (sp:=fun w=>lB (K w.params) (mP (aD T 16 "law"))) hn (by decide) hdf ⟨rfl,by decide,by decide⟩ hY F (fun w H a ns hl _ hS=>cB5 (t:=T) (d:=16) (fun ns=>cE4 ns 0) _ H a ns hS) fun _ _ _ _ _ z=>z
end K15
open PySem PySem.W PyProof.Rows
set_option maxHeartbeats 0
local macro_rules
 | `(tactic| o_head $H) => `(tactic| refine holds_open (q := hdQ) (loose := [Str.ofString "NUMBERS_BEHIND"]) (Xt := fun s => xlAt hdQ [] s && recOk (RowW.records (OpenRow.toRowW (OpenLaw.row PySem.Challenge.rw_storejudge_k15_behind_an_item))) s) (XP := XL hdQ []) (Yf := Hook.obs $H) (Ya := Hook.val $H) (YP := Hook.says $H) (N := 4756) ?hl (Hook.of $H) (Hook.keeps $H) (fun s e => xl_of s (Bool.and_eq_true_iff.mp e).1) XL.keeps (by rfl) (by rfl) (by rfl) (fun s e => recFacts_of (Bool.and_eq_true_iff.mp e).2) (by rfl) (by first | assumption | decide +kernel) (by decide +kernel) ⟨rfl, rfl, rfl, rfl, rfl, by decide +kernel⟩ ?hw ?hc)
theorem PySem.Challenge.cw_storejudge_k15_behind_an_item_holds : PySem.Challenge.rw_storejudge_k15_behind_an_item.Holds := by
 w_on;refine holds_law hdS fun said=>?_
 o_head (kHook hdP.heap_1 hdA hdE)
 case hl =>
  refine LeftO.of_split "special-get-raises" ?_;intro w;exact CI.two_of (hdL1 w) (hdL2 w)
 (case hw=>w_witness2)
 k_fill
 refine K15.walk (l:=PySem.Challenge.rw_storejudge_k15_behind_an_item) rfl rfl (fun w h Y=>PySem.W.kIn_of Y) ?F
 case F =>
  intro w mg fa h KX G hmg;refine' K15.all_mk KX G hmg ?a0 ?a1 ?a2 ?a3 ?a4 ?a5 ?a6 ?a7 ?a8 ?a9 ?a10 ?a11 ?a12 ?a13 ?a14 ?a15 ?a16 ?a17 ?a18 ?a19 ?a20 ?a21 ?a22 ?a23 ?a24 ?a25 ?a26 ?a27 ?a28 ?a29 ?a30 ?a31 ?a32 ?a33 ?a34 ?a35 ?a36 ?a37 ?a38 ?a39 ?a40 ?a41 ?a42 ?a43 ?a44 ?a45 ?a46 ?cg0 ?cg1 ?aQ2 ?lQ2 ?aQ3 ?lQ3 ?cg4 ?cg5 ?cg6 ?aT0 ?lT0 ?kT0 ?sT0 ?m0 ?m1 ?cW ?mkW ?kpW ?clW ?noW ?zb
  all_goals try (refine' CI.fi_mk ?a ?l ?c ?k;(case a=>k_is);(case l=>k_is);(case c=>k_is);(case k=>k_is))
  (case cg0=>k_is)
  (case cg1=>k_is)
  (case aQ2=>k_is);(case lQ2=>k_is)
  (case aQ3=>k_is);(case lQ3=>k_is)
  (case cg4=>k_is)
  (case cg5=>k_is)
  (case cg6=>k_is)
  (case aT0=>k_is);(case lT0=>k_is);(case kT0=>k_keys);(case sT0=>first | rfl | decide | k_is)
  (case m0=>refine' CI.fm_mk (f:=260) ?a ?i ?l ?c ?k;(case a=>kernel_rfl);(case i=>kernel_rfl);(case l=>k_is);(case c=>k_is);(case k=>k_is))
  (case m1=>refine' CI.fm_mk (f:=281) ?a ?i ?l ?c ?k;(case a=>kernel_rfl);(case i=>kernel_rfl);(case l=>k_is);(case c=>k_is);(case k=>k_is))
  (case cW=>k_is);(case mkW=>kernel_rfl);(case kpW=>k_is);(case clW=>exact ⟨by kernel_rfl,by kernel_rfl,by kernel_rfl,by kernel_rfl⟩)
  (case noW=>intro f hf;simp only [List.mem_cons,List.not_mem_nil,or_false] at hf;rcases hf with rfl | rfl | rfl | rfl | rfl | rfl<;>kernel_rfl)
  (case zb=>intro b hb;simp only [CI.blAll,List.mem_cons,List.not_mem_nil,or_false] at hb;rcases hb with rfl | rfl | rfl | rfl | rfl | rfl | rfl | rfl | rfl | rfl | rfl | rfl | rfl | rfl | rfl | rfl | rfl | rfl | rfl | rfl<;>k_is)
