import PyProof.Rows.All
import Wide.All
import OpenK.AllK
import Wide.FinOn
import Lean
import PyProof.EqAt
import PyProof.EqKinds
import PyProof.TupleCall
import PyProof.ZipIter
import PyProof.EnumIter
import KE.KDictSum
import KE.KItemsList
import KE.KSortKey
import KE.KLam
import PyProof.SeqI3
import PyProof.WalkInts
import PyProof.EqLayable
import KE.KSortTup
import PyProof.SetNew
import PyProof.Rows.SetFrom
import PyProof.EnumFor
import PyProof.EnumStmt
import PyProof.WalksMore
import PyProof.SetRoads
import PyProof.ListRange
import PyProof.Conv_int_bool
import KE.KRevSl
import PySem.Challenge.RW_storejudge_k16_the_fault_of_a_row
set_option genInjectivity false
set_option compiler.extract_closed false
set_option bootstrap.genMatcherCode false
set_option genSizeOf false
section
open PySem PySem.W PyProof.Rows
set_option Elab.async false
set_option maxRecDepth 100000
set_option maxHeartbeats 0
theorem CI.hdF1 (tb:String->Option Builtin) (p:Program) (w:World) (N:Nat):fencedOpening tb p w N=(PySem.W.Fast.tw10274390034422433532 tb (opening p) w N (PySem.W.Fast.tw1435165496053646825 (opening p)).1 (PySem.W.Fast.tw1435165496053646825 (opening p)).2).bind (PySem.W.Fast.tw14289696077712309145 p):=by
 rw [<- PySem.W.Fast.te10274390034422433532,<- PySem.W.Fast.te1435165496053646825,<- PySem.W.Fast.te14289696077712309145];rfl
theorem CI.two_of {α β γ:Type} {A:α->β} {B:α->γ} {O:Option α} {a:β} {b:γ} (h1:O.map A=some a) (h2:O.map B=some b):O.map (fun s=>(A s,B s))=some (a,b):=by
 cases O with
 | none=>cases h1
 | some x=>simp at h1 h2 ⊢;exact ⟨h1,h2⟩
noncomputable def hdQ:Program:=view PySem.Challenge.pw_storejudge_k16_the_fault_of_a_row [0,2,3,4,5,6,8,9,10,11,12,13,14,15,16,17,18,19,20,21,22,23,25,26,28,29,30,31,32,33,34,36,37,38,39,40,41,42,43,44,45,46,47,48,49,51,53,54,55,56,57,58,59,60,61,62,63,64,65,66,67,68]
theorem hdS:PySem.Challenge.rw_storejudge_k16_the_fault_of_a_row.wellSaid=true:=by decide +kernel
local macro_rules
 | `(tactic| o_head $H) => `(tactic| refine holds_open (q := hdQ) (loose := [Str.ofString "NUMBERS_BEHIND"]) (Xt := fun s => xlAt hdQ [] s && recOk (RowW.records (OpenRow.toRowW (OpenLaw.row PySem.Challenge.rw_storejudge_k16_the_fault_of_a_row))) s) (XP := XL hdQ []) (Yf := Hook.obs $H) (Ya := Hook.val $H) (YP := Hook.says $H) (N := 5038) ?hl (Hook.of $H) (Hook.keeps $H) (fun s e => xl_of s (Bool.and_eq_true_iff.mp e).1) XL.keeps (by rfl) (by rfl) (by rfl) (fun s e => recFacts_of (Bool.and_eq_true_iff.mp e).2) (by rfl) (by first | assumption | decide +kernel) (by decide +kernel) ⟨rfl, rfl, rfl, rfl, rfl, by decide +kernel⟩ ?hw ?hc)
theorem hdP (hf:False):PySem.Challenge.rw_storejudge_k16_the_fault_of_a_row.Holds:=by
 w_on;refine holds_law hdS fun said=>?_
 k_head
 all_goals exact hf.elim
noncomputable def hdA:List Addr:=[2,3,15,17,18,20,21,22,24,25,27,28,29,31,32,34,35,36,38,39,41,42,43,46,47,48,51,52,53,54,56,57,59,60,61,63,64,66,67,68,70,71,73,74,75,77,78,80,81,82,84,85,87,88,89,92,93,94,96,97,99,100,101,103,104,106,107,108,110,111,113,114,115,118,119,120,122,123,125,126,127,129,130,132,133,134,137,138,139,146,147,148,149,152,159,160,161,164,165,167,168,170,171,172,174,175,177,178,179,181,182,184,185,186,188,189,191,192,193,195,196,198,199,200,202,203,205,206,207,208,210,211,213,214,215,218,219,220,223,224,225,227,228,230,231,232,235,236,237,240,241,242,244,245,247,248,256,259,260,261,263,264,266,267,268,270,271,273,274,275,277,278,280,281,282,285,286,287,288,289,290,291,294,296,297,299,300,301,303,304,306,307,308,310,311,313,314,315,317,318,320,321,322,324,325,327,328,329,331,332,334,335,336,338,339,341,342,343,346,347,348,351,352,353,356,357,358,360,361,363,364,365,368,369,370,373,374,375,377,378,380,381,382,384,385,387,388,389,391,392,394,395,396,399,400,401,404,405,406,408,409,411,412]
theorem hdE (P:Params):hdA=(hdP.heap_1 P).map (·.1):=by kernel_rfl
theorem hdL1 (w:World):Option.map (fun s₀=>Option.map (fun s=>(openSeen hdQ [Str.ofString "NUMBERS_BEHIND"] (importedModules PySem.Challenge.rw_storejudge_k16_the_fault_of_a_row.row.prog.main.body) (fun s=>xlAt hdQ [] s&&recOk PySem.Challenge.rw_storejudge_k16_the_fault_of_a_row.row.records s) true s,(kHook hdP.heap_1 hdA hdE).obs s)) (topFrom treeTable PySem.Challenge.rw_storejudge_k16_the_fault_of_a_row.row.prog (w.withFollow "special-get-raises" false) 5038 s₀)) (fencedOpening treeTable PySem.Challenge.rw_storejudge_k16_the_fault_of_a_row.row.prog w 5038)=some (some (openGood hdQ [Str.ofString "NUMBERS_BEHIND"],(kHook hdP.heap_1 hdA hdE).val (w.withFollow "special-get-raises" false))):=by
 simp only [CI.hdF1];unfold topFrom;rw [PySem.W.Fast.te14082659384304107361,PySem.W.Fast.te14364793385576792824,PySem.W.Fast.te4187177175401517315]
 kernel_rfl
theorem hdL2 (w:World):Option.map (fun s₀=>Option.map (fun s=>(openSeen hdQ [Str.ofString "NUMBERS_BEHIND"] (importedModules PySem.Challenge.rw_storejudge_k16_the_fault_of_a_row.row.prog.main.body) (fun s=>xlAt hdQ [] s&&recOk PySem.Challenge.rw_storejudge_k16_the_fault_of_a_row.row.records s) true s,(kHook hdP.heap_1 hdA hdE).obs s)) (topFrom treeTable PySem.Challenge.rw_storejudge_k16_the_fault_of_a_row.row.prog (w.withFollow "special-get-raises" true) 5038 s₀)) (fencedOpening treeTable PySem.Challenge.rw_storejudge_k16_the_fault_of_a_row.row.prog w 5038)=some (some (openGood hdQ [Str.ofString "NUMBERS_BEHIND"],(kHook hdP.heap_1 hdA hdE).val (w.withFollow "special-get-raises" true))):=by
 simp only [CI.hdF1];unfold topFrom;rw [PySem.W.Fast.te14082659384304107361,PySem.W.Fast.te14364793385576792824,PySem.W.Fast.te4187177175401517315]
 kernel_rfl
end
theorem ZR0 (h:True:=by rfl):True:=h
def ZR:Lean.Syntax:=ZR0._auto_1
theorem ZD0 (h:True:=by decide):True:=h
def ZD:Lean.Syntax:=ZD0._auto_1
theorem ZI0 (h:True:=by intro _;rfl):True:=h
def ZI:Lean.Syntax:=ZI0._auto_1
theorem ZW0 (h:True:=by with_unfolding_all rfl):True:=h
def ZW:Lean.Syntax:=ZW0._auto_1
open PySem.W (Frag)
set_option Elab.async false
set_option linter.all false
set_option maxRecDepth 100000
namespace L2
open PySem PySem.Spec PyProof.Rows
abbrev Key:=Sum Int Str
noncomputable def nW:Key->Value->Bool
 | .inl k,v=>Value.isInt k v
 | .inr x,v=>Value.isStrOf x v
noncomputable def dD8 (w:World):Key->Int
 | .inl k=>hashInt k
 | .inr x=>hashStr w x
theorem keyIs_shape:∀ {k:Key} {v:Value},nW k v=true->(∃ i t,k=Sum.inl i/\v=Value.int i t)\/(∃ x t,k=Sum.inr x/\v=Value.str x t)
 | .inl i,v,h=>by
  obtain ⟨t,e⟩:=Value.isInt_shape (k:=i) (v:=v) h;exact .inl ⟨i,t,rfl,e⟩
 | .inr x,v,h=>by
  obtain ⟨t,e⟩:=Value.isStrOf_shape (x:=x) (v:=v) h;exact .inr ⟨x,t,rfl,e⟩
def zN (i:Int) (t:Tok):nW (.inl i) (.int i t)=true:=by simp [nW,Value.isInt]
def zO (x:Str) (t:Tok):nW (.inr x) (.str x t)=true:=by simp [nW,Value.isStrOf]
def bQ7 (a b:Int):decide ((Sum.inl a:Key)=Sum.inl b)=(a==b):=by
 by_cases e:a=b
 ·subst e;simp
 ·have h:¬ (Sum.inl a:Key)=Sum.inl b:=fun q=>e (Sum.inl.inj q);rw [decide_eq_false h];exact (beq_eq_false_iff_ne.mpr e).symm
def bQ8 (a b:Str):decide ((Sum.inr a:Key)=Sum.inr b)=decide (a=b):=by
 by_cases e:a=b
 ·subst e;simp
 ·have h:¬ (Sum.inr a:Key)=Sum.inr b:=fun q=>e (Sum.inr.inj q);rw [decide_eq_false h,decide_eq_false e]
def bQ9 (a:Int) (b:Str):decide ((Sum.inl a:Key)=Sum.inr b)=false:=decide_eq_false (fun q=>nomatch q)
def bR0 (a:Str) (b:Int):decide ((Sum.inr a:Key)=Sum.inl b)=false:=decide_eq_false (fun q=>nomatch q)
noncomputable def cN (prog:Program) (w:World):PySem.KeyKind prog w Key where
 is:=nW
 hash:=dD8 w
 inj:=fun v a b ha hb=>by
  rcases keyIs_shape ha with ⟨i,t,rfl,rfl⟩ | ⟨x,t,rfl,rfl⟩
  ·rcases keyIs_shape hb with ⟨j,u,rfl,e⟩ | ⟨y,u,rfl,e⟩
   ·injection e with e1 _;rw [e1]
   ·exact nomatch e
  ·rcases keyIs_shape hb with ⟨j,u,rfl,e⟩ | ⟨y,u,rfl,e⟩
   ·exact nomatch e
   ·injection e with e1 _;rw [e1]
 byValue:=fun k v h=>by
  rcases keyIs_shape h with ⟨i,t,rfl,rfl⟩ | ⟨x,t,rfl,rfl⟩<;>rfl
 pyHash:=fun hv h=>by
  rcases keyIs_shape hv with ⟨i,t,rfl,rfl⟩ | ⟨x,t,rfl,rfl⟩
  ·exact wpAny_pyHash_int h
  ·exact wpAny_pyHash_str h
 eqBool:=fun hu hv h=>by
  rcases keyIs_shape hu with ⟨i,t,rfl,rfl⟩ | ⟨x,t,rfl,rfl⟩
  ·rcases keyIs_shape hv with ⟨j,u,rfl,rfl⟩ | ⟨y,u,rfl,rfl⟩
   ·rw [bQ7] at h;exact wpAny_eqBool_int h
   ·rw [bQ9] at h;exact SeqAt.EqAt.int_str i t y u _ _ _ _ h
  ·rcases keyIs_shape hv with ⟨j,u,rfl,rfl⟩ | ⟨y,u,rfl,rfl⟩
   ·rw [bR0] at h;exact SeqAt.EqAt.str_int x t j u _ _ _ _ h
   ·rw [bQ8] at h;exact wpAny_eqBool_str h
 «strs»:=fun k x t v h=>by
  rcases keyIs_shape h with ⟨i,u,rfl,e⟩ | ⟨y,u,rfl,e⟩
  ·exact nomatch e
  ·injection e with e1 _
   subst e1;cases v<;>rfl
def sE (prog:Program) (w:World) (i:Int) (t:Tok):(cN prog w).is (.inl i) (.int i t)=true:=zN i t
def sG (prog:Program) (w:World) (x:Str) (t:Tok):(cN prog w).is (.inr x) (.str x t)=true:=zO x t
def IsTupD (h:Heap) (a:Addr) (items:Array Value):Prop:=∃ o,h.get? a=some o/\o.cls=.type "tuple"/\(∃ n,o.data=.seq items n)/\o.dict=none
def IsTupD.tup {h:Heap} {a:Addr} {items:Array Value} (x:IsTupD h a items):IsTup h a items:=let ⟨o,h1,h2,h3,_⟩:=x;⟨o,h1,h2,h3⟩
def IsTupD.lt {h:Heap} {a:Addr} {items:Array Value} (x:IsTupD h a items):a < h.objs.size:=let ⟨_,h1,_⟩:=x;Heap.lt_size h1
def IsTupD.new (h:Heap) (items:Array Value):IsTupD (h.push { cls:=.type "tuple",data:=.seq items }) h.objs.size items:=⟨_,Heap.get?_push_size _ rfl,rfl,⟨_,rfl⟩,rfl⟩
set_option genInjectivity true in
inductive V where
 | non | bl (b:Bool) | int (i:Int) | str (x:Str) | byt (b:Array UInt8) | flt (b:UInt64) | ref (a:Addr) | ty (n:String)
 deriving DecidableEq
noncomputable def RelV:V->Value->Prop
 | .non,u=>u=Value.none
 | .bl b,u=>u=Value.bool b
 | .int i,u=>∃ t,u=Value.int i t
 | .str x,u=>∃ t,u=Value.str x t
 | .byt b,u=>∃ t,u=Value.bytes b t
 | .flt b,u=>∃ t,u=Value.float b t
 | .ref a,u=>u=Value.ref a
 | .ty n,u=>u=Value.type n
abbrev Vals:List V->List Value->Prop:=Paired RelV
def Vals.length {xs:List V} {us:List Value} (r:Vals xs us):xs.length=us.length:=Paired.length r
theorem Vals.get:∀ {xs:List V} {us:List Value} {i:Nat} {x:V},Vals xs us->xs[i]?=some x->∃ u,us[i]?=some u/\RelV x u
 | _,_,_,_,.nil,e=>by simp at e
 | _,_,0,_,.cons r _,e=>by simp at e;subst e;exact ⟨_,rfl,r⟩
 | _,_,i+1,x,.cons _ t,e=>by
  obtain ⟨u,h1,h2⟩:=Vals.get (i:=i) (x:=x) t (by simpa using e);exact ⟨u,by simpa using h1,h2⟩
theorem Vals.set {x:V} {u:Value} (r:RelV x u):∀ {xs:List V} {us:List Value} (i:Nat),Vals xs us->Vals (xs.set i x) (us.set i u)
 | _,_,_,.nil=>.nil
 | _,_,0,.cons _ t=>.cons r t
 | _,_,i+1,.cons q t=>.cons q (Vals.set r i t)
theorem Vals.append:∀ {xs ys:List V} {us ws:List Value},Vals xs us->Vals ys ws->Vals (xs++ys) (us++ws)
 | _,_,_,_,.nil,s=>s
 | _,_,_,_,.cons r t,s=>.cons r (Vals.append t s)
theorem Vals.take:∀ {xs:List V} {us:List Value} (n:Nat),Vals xs us->Vals (xs.take n) (us.take n)
 | _,_,0,_=>.nil
 | _,_,_+1,.nil=>.nil
 | _,_,n+1,.cons r t=>.cons r (Vals.take n t)
theorem Vals.drop:∀ {xs:List V} {us:List Value} (n:Nat),Vals xs us->Vals (xs.drop n) (us.drop n)
 | _,_,0,r=>r
 | _,_,_+1,.nil=>.nil
 | _,_,n+1,.cons _ t=>Vals.drop n t
noncomputable def RelO:Option V->Option Value->Prop
 | some v,some u=>RelV v u
 | none,none=>True
 | _,_=>False
noncomputable def KV {κ:Type}:List (κ×V)->List (κ×Value)->Prop:=Paired fun (p:κ×V) (q:κ×Value)=>p.1=q.1/\RelV p.2 q.2
noncomputable def kV:Key->V
 | .inl i=>.int i
 | .inr x=>.str x
set_option genInjectivity true in
inductive HO where
 | lst (xs:List V)
 | tup (xs:List V)
 | dK (kvs:List (Key×V)) | dT (kvs:List (List Key×V))
 | set (S:Int->Bool) (n:Nat)
 | ins (C dx:Addr) (fs:List (Str×V))
 | own (x:Addr)
 | xd (fs:List (Str×V))
 | met (f x:Addr)
 | rng (lo hi:Int)
 | frz (o:Obj) (u:HO)
 | tbl (ps:Array Value)
 | ext (φ:Heap->Prop)
abbrev Hp:=Addr->Option HO
noncomputable def upd (H:Hp) (a:Addr) (o:HO):Hp:=fun b=>if b=a then some o else H b
def aS {H:Hp} {a:Addr} {o:HO}:upd H a o a=some o:=by unfold upd;rw [if_pos rfl]
def aM {H:Hp} {a b:Addr} {o:HO} (h:b≠a):upd H a o b=H b:=by unfold upd;rw [if_neg h]
def aP {H:Hp} {a b:Addr} {o:HO} (h:H a=some o) (h':H b=none):a≠b:=by
 intro e;subst e;rw [h] at h';cases h'
section
variable (P:Program) (w:World)
noncomputable def ObjOk (H:Hp) (h:Heap) (a:Addr):HO->Prop
 | .lst xs=>xs.length<=sizeLine/\∃ (its:List Value) (n:Nat),Vals xs its/\h.get? a=some { cls:=.type "list",data:=.seq its.toArray n }
 | .tup xs=>xs.length<=sizeLine/\∃ its:List Value,Vals xs its/\IsTupD h a its.toArray
 | .dK kvs=>kvs.length<=sizeLine/\(a==sysModules)=false/\∃ vs,KV kvs vs/\h.DictOf (cN P w) a vs
 | .dT kvs=>kvs.length<=sizeLine/\(a==sysModules)=false/\∃ xs:List (List Key×Addr×Value),
   Paired (fun (p:List Key×V) (q:List Key×Addr×Value)=>p.1=q.1/\H q.2.1=some (.tup (p.1.map kV))/\RelV p.2 q.2.2) kvs xs /\
   ∃ o es ep,h.get? a=some o/\o.ExactDict/\o.data=.dict es ep/\es.toList=xs.map (entryOfKey (tupleKind (cN P w)))/\(xs.map (·.1)).Nodup
 | .set S n=>h.SetOf (intKind P w) a S n
 | .ins C dx fs=>H dx=some (.own a)/\fs.length<=1000/\dx≠a/\h.get? a=some (PySem.W.instObj C dx) /\
   ∃ mA,h.Ns1 dx mA/\(∀ f,RelO (fs.lookup f) (mA f))/\PySem.Within mA (fs.map (·.1))
 | .own _=>∃ o,h.get? a=some o
 | .xd fs=>∃ mA,h.Ns1 a mA/\∀ f,RelO (fs.lookup f) (mA f)
 | .rng lo hi=>∃ t u v,h.get? a=some { cls:=.type "range",data:=.fields #[.int lo t,.int hi u,.int 1 v] }
 | .frz o u=>h.get? a=some o/\ObjOk H h a u
 | .tbl ps=>h.get? a=some { cls:=.none,data:=.fields ps }
 | .met f x=>h.get? a=some (PySem.W.methodObj (.ref f) (.ref x))
 | .ext φ=>φ h/\(∃ o,h.get? a=some o)/\∀ h1 h2:Heap,φ h1->(∀ o,h1.get? a=some o->h2.get? a=some o)->φ h2
def HOk (H:Hp) (h:Heap):Prop:=∀ a o,H a=some o->ObjOk P w H h a o
end
section
variable {P:Program} {w:World} {H H':Hp} {h h':Heap} {a:Addr} {o:HO}
def ObjOk.lt (x:ObjOk P w H h a o):a < h.objs.size:=by
 cases o with
 | lst xs=>obtain ⟨_,_,_,_,e⟩:=x;exact Heap.lt_size e
 | tup xs=>obtain ⟨_,_,_,p⟩:=x;exact p.lt
 | dK kvs=>obtain ⟨_,_,_,_,o,_,_,e,_⟩:=x;exact Heap.lt_size e
 | dT kvs=>obtain ⟨_,_,_,_,o,_,_,e,_⟩:=x;exact Heap.lt_size e
 | set S n=>obtain ⟨o,_,_,_,e,_⟩:=x;exact Heap.lt_size e
 | ins C dx fs=>obtain ⟨_,_,_,e,_⟩:=x;exact Heap.lt_size e
 | own y=>obtain ⟨_,e⟩:=x;exact Heap.lt_size e
 | xd fs=>obtain ⟨_,⟨_,_,_,e,_⟩,_⟩:=x;exact Heap.lt_size e
 | rng lo hi=>obtain ⟨_,_,_,e⟩:=x;exact Heap.lt_size e
 | frz ob u=>obtain ⟨e,_⟩:=x;exact Heap.lt_size e
 | tbl ps=>exact Heap.lt_size (show h.get? a=some _ from x)
 | met f y=>exact Heap.lt_size (show h.get? a=some _ from x)
 | ext φ=>obtain ⟨_,⟨_,e⟩,_⟩:=x;exact Heap.lt_size e
theorem Paired.mapP {α β:Type} {F G:α->β->Prop}:∀ {l₁:List α} {l₂:List β},Paired F l₁ l₂->(∀ a b,F a b->G a b)->Paired G l₁ l₂
 | _,_,.nil,_=>.nil
 | _,_,.cons r t,f=>.cons (f _ _ r) (Paired.mapP t f)
def ObjOk.stay (x:ObjOk P w H h a o) (k:∀ b u,(b=a\/H b=some (.own a))->h.get? b=some u->h'.get? b=some u)
  (ho:∀ b,H b=some (.own a)->H' b=some (.own a)) (ht:∀ b xs,H b=some (.tup xs)->H' b=some (.tup xs)):ObjOk P w H' h' a o:=by
 induction o with
 | lst xs=>obtain ⟨z,its,n,r,e⟩:=x;exact ⟨z,its,n,r,k _ _ (.inl rfl) e⟩
 | tup xs=>obtain ⟨z,its,r,ob,e,c⟩:=x;exact ⟨z,its,r,ob,k _ _ (.inl rfl) e,c⟩
 | dK kvs=>obtain ⟨z,y,vs,r,ob,es,ep,e,c⟩:=x;exact ⟨z,y,vs,r,ob,es,ep,k _ _ (.inl rfl) e,c⟩
 | dT kvs =>
  obtain ⟨z,y,xs,r,ob,es,ep,e,c⟩:=x;exact ⟨z,y,xs,Paired.mapP r fun p q z=>⟨z.1,ht _ _ z.2.1,z.2.2⟩,ob,es,ep,k _ _ (.inl rfl) e,c⟩
 | set S n=>obtain ⟨ob,es,ep,t,e,c⟩:=x;exact ⟨ob,es,ep,t,k _ _ (.inl rfl) e,c⟩
 | ins C dx fs =>
  obtain ⟨d,z,ne,e,mA,⟨od,es,ep,e2,c⟩,r⟩:=x;exact ⟨ho _ d,z,ne,k _ _ (.inl rfl) e,mA,⟨od,es,ep,k _ _ (.inr d) e2,c⟩,r⟩
 | own y=>obtain ⟨ob,e⟩:=x;exact ⟨ob,k _ _ (.inl rfl) e⟩
 | xd fs=>obtain ⟨mA,⟨od,es,ep,e,c⟩,r⟩:=x;exact ⟨mA,⟨od,es,ep,k _ _ (.inl rfl) e,c⟩,r⟩
 | rng lo hi=>obtain ⟨t,u,v,e⟩:=x;exact ⟨t,u,v,k _ _ (.inl rfl) e⟩
 | frz ob u ih=>obtain ⟨e,q⟩:=x;exact ⟨k _ _ (.inl rfl) e,ih q⟩
 | tbl ps =>
  have e:h.get? a=some { cls:=.none,data:=.fields ps }:=x;show h'.get? a=some { cls:=.none,data:=.fields ps };exact k a _ (.inl rfl) e
 | met f y =>
  have e:h.get? a=some (PySem.W.methodObj (.ref f) (.ref y)):=x;show h'.get? a=some (PySem.W.methodObj (.ref f) (.ref y));exact k a _ (.inl rfl) e
 | ext φ=>obtain ⟨p,⟨o,e⟩,st⟩:=x;exact ⟨st _ _ p fun o q=>k _ _ (.inl rfl) q,⟨o,k _ _ (.inl rfl) e⟩,st⟩
def HOk.lt (x:HOk P w H h) (e:H a=some o):a < h.objs.size:=(x a o e).lt
def HOk.fresh (x:HOk P w H h) (e:h.objs.size<=a):H a=none:=by
 cases q:H a with
 | none=>rfl
 | some u=>exact absurd (Nat.lt_of_lt_of_le (x.lt q) e) (Nat.lt_irrefl _)
def HOk.kept (x:HOk P w H h) (k:∀ b u,h.get? b=some u->h'.get? b=some u):HOk P w H h':=fun a o e =>
 (x a o e).stay (fun b u _ q=>k b u q) (fun _ q=>q) fun _ _ q=>q
def HOk.laid (x:HOk P w H h) (k:∀ b u,h.get? b=some u->h'.get? b=some u) (hp:h.objs.size<=a) (new:ObjOk P w (upd H a o) h' a o):HOk P w (upd H a o) h':=fun b u e=>by
 have hn:=x.fresh hp
 by_cases hb:b=a
 ·subst hb;rw [aS] at e;cases e;exact new
 ·rw [aM hb] at e;exact (x b u e).stay (fun c v _ q=>k c v q) (fun c q=>by rw [aM (aP q hn)];exact q) fun c xs q=>by rw [aM (aP q hn)];exact q
end
def Rd (H:Hp) (a:Addr) (u:HO):Prop:=H a=some u\/∃ o,H a=some (.frz o u)
def Rd.ok {P:Program} {w:World} {H:Hp} {h:Heap} {a:Addr} {u:HO} (r:Rd H a u) (x:HOk P w H h):ObjOk P w H h a u:=by
 rcases r with r | ⟨o,r⟩
 ·exact x a u r
 ·obtain ⟨_,q⟩:=x a _ r;exact q
noncomputable def Mut:Option HO->Prop
 | some (.lst _)=>True
 | some (.dK _)=>True
 | some (.dT _)=>True
 | some (.set _ _)=>True
 | some (.ins _ _ _)=>True
 | some (.ext _)=>True
 | _=>False
section
variable {P:Program} {w:World} {H:Hp} {h h':Heap} {x e:Addr} {o':HO}
def HOk.write (ok:HOk P w H h) (mu:Mut (H x)) (he:e=x\/H e=some (.own x)) (k:∀ b u,b≠e->h.get? b=some u->h'.get? b=some u) (heo:∃ u,h'.get? e=some u)
  (new:ObjOk P w (upd H x o') h' x o'):HOk P w (upd H x o') h':=fun b u q=>by
 have nown:∀ c y,H c=some (.own y)->c≠x:=fun c y r z=>by subst z;rw [r] at mu;exact mu
 have ntup:∀ c xs,H c=some (.tup xs)->c≠x:=fun c xs r z=>by subst z;rw [r] at mu;exact mu
 by_cases hb:b=x
 ·subst hb;rw [aS] at q;cases q;exact new
 ·rw [aM hb] at q
  by_cases hbe:b=e
  ·have q':H b=some (.own x):=by
    rcases he with z | z
    ·exact absurd (hbe.trans z) hb
    ·rw [hbe];exact z
   rw [q] at q';cases q';obtain ⟨v,hv⟩:=heo;exact ⟨v,by rw [hbe];exact hv⟩
  ·refine (ok b u q).stay (fun c v hc r=>k c v ?_ r) (fun c r=>by rw [aM (nown c b r)];exact r) fun c xs r=>by rw [aM (ntup c xs r)];exact r
   rcases hc with rfl | hc
   ·exact hbe
   ·rintro rfl;rcases he with z | z
    ·exact nown c b hc z
    ·rw [hc] at z;cases z;exact hb rfl
end
structure Un (fs ex:List Addr) (H H':Hp) (h h':Heap):Prop where
 keep:∀ b o,h.get? b=some o->H b=none->b∉fs->b∉ex->h'.get? b=some o
 slot:∀ b o,h.get? b=some o->H b=none->b∈fs->b∉ex->∃ sl,h'.get? b=some { o with slots:=sl }
 free:∀ b o,h.get? b=some o->H b=none->b∉ex->H' b=none
 there:∀ b o,h.get? b=some o->b∉ex->∃ o',h'.get? b=some o'
 tups:∀ b xs,H b=some (.tup xs)->H' b=some (.tup xs)
 frzs:∀ b o u,H b=some (.frz o u)->H' b=some (.frz o u)
 tbls:∀ b ps,H b=some (.tbl ps)->∃ more,H' b=some (.tbl (ps++more))
section
variable {fs fs' ex ex':List Addr} {H H1 H2:Hp} {h h1 h2 h':Heap} {a x e:Addr} {o:HO}
def Un.any (u:Un fs ex H H1 h h1) {b:Addr} {ob:Obj} (q:h.get? b=some ob) (n:H b=none) (hx:b∉ex):∃ sl,h1.get? b=some { ob with slots:=sl }:=by
 by_cases hb:b∈fs
 ·exact u.slot b ob q n hb hx
 ·exact ⟨ob.slots,u.keep b ob q n hb hx⟩
def Un.kept (k:∀ b u,h.get? b=some u->h'.get? b=some u):Un fs ex H H h h' :=
 ⟨fun b ob q _ _ _=>k b ob q,fun b ob q _ _ _=>⟨ob.slots,k b ob q⟩,fun _ _ _ n _=>n,fun b ob q _=>⟨ob,k b ob q⟩,fun _ _ q=>q,fun _ _ _ q=>q,fun _ ps q=>⟨#[],by rw [q];simp⟩⟩
def Un.refl:Un fs ex H H h h:=Un.kept fun _ _ q=>q
def Un.laid (k:∀ b u,h.get? b=some u->h'.get? b=some u) (hp:h.objs.size<=a) (hn:H a=none):Un fs ex H (upd H a o) h h' where
 keep:=fun b u q _ _ _=>k b u q
 slot:=fun b u q _ _ _=>⟨u.slots,k b u q⟩
 free:=fun b u q n _=>by rw [aM (Nat.ne_of_lt (Nat.lt_of_lt_of_le (Heap.lt_size q) hp))];exact n
 there:=fun b u q _=>⟨u,k b u q⟩
 tups:=fun b xs q=>by rw [aM (aP q hn)];exact q
 frzs:=fun b u xs q=>by rw [aM (aP q hn)];exact q
 tbls:=fun b ps q=>⟨#[],by rw [aM (aP q hn),q];simp⟩
def Un.write (mu:Mut (H x)) (he:e=x\/H e=some (.own x)) (k:∀ b u,b≠e->h.get? b=some u->h'.get? b=some u) (heo:∃ u,h'.get? e=some u):Un fs ex H (upd H x o) h h':=by
 have hx:∀ b,H b=none->b≠x:=fun b n z=>by subst z;rw [n] at mu;exact mu
 have hb:∀ b,H b=none->b≠e:=fun b n z=>by
  subst z;rcases he with r | r
  ·exact hx b n r
  ·rw [n] at r;cases r
 have hm:∀ b u,H b=some u->¬ Mut (some u)->b≠x:=fun b u q nm z=>by subst z;rw [q] at mu;exact nm mu
 refine ⟨fun b u q n _ _=>k b u (hb b n) q,fun b u q n _ _=>⟨u.slots,k b u (hb b n) q⟩,fun b u q n _=>by rw [aM (hx b n)];exact n,fun b u q _=>?_,
  fun b xs q=>by rw [aM (hm b _ q fun z=>z)];exact q,fun b u xs q=>by rw [aM (hm b _ q fun z=>z)];exact q,fun b ps q=>⟨#[],by rw [aM (hm b _ q fun z=>z),q];simp⟩⟩
 by_cases hbe:b=e
 ·subst hbe;exact heo
 ·exact ⟨u,k b u hbe q⟩
end
noncomputable def trk (h:Heap) (H:Hp):List Addr:=(List.range h.objs.size).filter fun a=>(H a).isSome
noncomputable def qC (h:Heap) (H:Hp):Heap:=PySem.W.hideAll h (trk h H)
def zP (h:Heap) (H:Hp):(qC h H).objs.size=h.objs.size:=PySem.W.hideAll_size _ _
def aH7 {h:Heap} {H:Hp} {b:Addr} {o:Obj} (e:h.get? b=some o) (n:H b=none):(qC h H).get? b=some o :=
 PySem.W.hideAll_get _ e fun hm=>by
  have q:(H b).isSome=true:=(List.mem_filter.mp hm).2;rw [n] at q;simp at q
def aW5 {h:Heap} {H:Hp} {b:Addr} {o:Obj} (e:(qC h H).get? b=some o):h.get? b=some o/\H b=none:=by
 have e':h.get? b=some o:=PySem.W.of_hideAll (trk h H) e;refine ⟨e',?_⟩;cases q:H b with
 | none=>rfl
 | some x =>
  have hm:b∈trk h H:=List.mem_filter.mpr ⟨List.mem_range.mpr (Heap.lt_size e'),by simp [q]⟩;have z:(qC h H).get? b=none:=PySem.W.hideAll_none (trk h H) hm;rw [z] at e;cases e
noncomputable def aW6 (g h:Heap) (L:Addr):List (Addr×Obj):=(List.range h.objs.size).filterMap fun a=>if a=L\/(g.get? a).isSome=true then none else (h.get? a).map fun o=>(a,o)
noncomputable def rest (g h:Heap) (L d:Addr):List (Addr×Obj):=(aW6 g h L).filter fun p=>decide (p.1≠d)
structure Mod (K:Frag) (mg:Str->Option Value) (base:Heap):Prop where
 kin:K.In base
 glob:base.Ns mainGlobals mg
 blt:∃ mb,base.Ns builtinsNs mb/\∀ x:Str,x≠"__name__"->mb x=bootBuiltins x
 nolimit:base.NoLimit
structure Cx where
 prog:Program
 w:World
 K:Frag
 mg:Str->Option Value
 base:Heap
 A:Around
 N:List Str
 s₀:Shared
 H₀:Hp
 env:Env
 outer:List Env
 stack:List Env
 ex:List Addr
 fn:Str->Bool
 calm:Bool
 pn:List (Addr×Obj)
 xe:Value->Shared->Prop
noncomputable def frs (l:List Env):List Addr:=l.filterMap (·.frame)
noncomputable abbrev Cx.fs (X:Cx):List Addr:=frs X.outer
def Vis (sc:Scope) (x:Str):Prop:=sc.names.lookup x=some .local\/sc.names.lookup x=some .cell\/sc.names.lookup x=some .free
def Loc (sc:Scope) (x:Str):Prop:=sc.names.lookup x=some .local\/sc.names.lookup x=some .cell
def dD9 (env:Env) (h:Heap) (m:Str->Option Value) (x:Str) (u:Value):Prop :=
 (env.kindOf x=some .local/\m x=some u)\/((env.kindOf x=some .cell\/env.kindOf x=some .free)/\∃ c,env.cells.lookup x=some c/\h.IsCell c (some u))
structure Cx.Ok (X:Cx):Prop where
 mod:Mod X.K X.mg X.base
 kind:X.env.scope.kind=.function
 glob:X.env.globals=mainGlobals
 blt:X.env.builtins=builtinsNs
 above:X.s₀.heap.objs.size<=X.env.locals
 inj:∀ x y c,X.env.cells.lookup x=some c->X.env.cells.lookup y=some c->x=y
 has:∀ x,(X.env.kindOf x=some .cell\/X.env.kindOf x=some .free)->∃ c,X.env.cells.lookup x=some c
 cab:∀ x c,X.fn x=true->X.env.cells.lookup x=some c->X.s₀.heap.objs.size<=c
 hd:X.calm=true->X.A.handled=none
 frames:X.A.frames=some X.stack
 stk:X.stack=X.outer\/(X.stack=X.env::X.outer/\X.env.frame=some X.env.locals)
 exf:∀ b∈X.ex,b≠X.env.locals/\∀ x c,X.env.cells.lookup x=some c->c≠b
 bs:∀ b o,X.base.get? b=some o->X.s₀.heap.get? b=some o/\X.H₀ b=none
 bsz:X.base.objs.size<=X.s₀.heap.objs.size
 noex:∀ b o,X.base.get? b=some o->b∉X.ex
 exfs:∀ b∈X.ex,b∉X.fs
 funs:X.s₀.heap.FunFrames X.base X.outer
 frf:∀ b∈X.fs,X.H₀ b=none
structure Inv (X:Cx) (pins:List (Addr×Obj)) (σ:List (Option V)) (H:Hp) (s:Shared):Prop where
 ok:X.Ok
 os:s.os=X.s₀.os
 bare:AllBare s.gens
 base:Un X.fs X.ex X.H₀ H X.s₀.heap s.heap
 loc:∃ m,s.heap.Ns X.env.locals m/\∀ (i:Nat) (x:Str) (v:V),X.N[i]?=some x->σ[i]?=some (some v)->Vis X.env.scope x->∃ u,RelV v u/\dD9 X.env s.heap m x u
 cell:∀ x c,X.env.cells.lookup x=some c->∃ v,s.heap.IsCell c v
 free:H X.env.locals=none
 freeC:∀ x c,X.env.cells.lookup x=some c->H c=none
 pin:∀ p∈X.pn++pins,s.heap.get? p.1=some p.2/\H p.1=none/\p.1≠X.env.locals/\p.1∉X.fs/\∀ v,p.2.data≠.cell v
 hok:HOk X.prog X.w H s.heap
 len:σ.length=X.N.length
section
variable {X:Cx} {pins:List (Addr×Obj)} {σ:List (Option V)} {H H':Hp} {s:Shared} {h':Heap}
def Cx.Ok.nofr (ok:X.Ok) {b:Addr} {o:Obj} (e:X.base.get? b=some o):b∉X.fs:=fun hb=>by
 have:=(ok.funs.mem hb).1;rw [e] at this;cases this
def Inv.bs (I:Inv X pins σ H s):∀ b o,X.base.get? b=some o->s.heap.get? b=some o/\H b=none:=fun b o e =>
 ⟨I.base.keep b o (I.ok.bs b o e).1 (I.ok.bs b o e).2 (I.ok.nofr e) (I.ok.noex b o e),I.base.free b o (I.ok.bs b o e).1 (I.ok.bs b o e).2 (I.ok.noex b o e)⟩
def Inv.bk (I:Inv X pins σ H s):∀ b o,X.base.get? b=some o->s.heap.get? b=some o:=fun b o e=>(I.bs b o e).1
def Inv.mod (I:Inv X pins σ H s):Mod X.K X.mg X.base:=I.ok.mod
def Inv.kIn (I:Inv X pins σ H s):X.K.In s.heap:=I.ok.mod.kin.keeps I.bk
def Inv.lt (I:Inv X pins σ H s):X.env.locals < s.heap.objs.size:=let ⟨_,hn,_⟩:=I.loc;hn.lt
def Inv.sz (I:Inv X pins σ H s):X.s₀.heap.objs.size<=s.heap.objs.size:=Nat.le_trans I.ok.above (Nat.le_of_lt I.lt)
def Inv.nofs (I:Inv X pins σ H s) {a:Addr} (h:s.heap.objs.size<=a):a∉X.fs:=fun hb=>by
 obtain ⟨_,o,ho,_⟩:=I.ok.funs.mem hb;exact absurd (Nat.lt_of_lt_of_le (Heap.lt_size ho) (Nat.le_trans I.sz h)) (Nat.lt_irrefl _)
def Inv.cne (I:Inv X pins σ H s):∀ x c,X.env.cells.lookup x=some c->c≠X.env.locals:=fun x c e z=>by
 obtain ⟨v,o,ho,hd⟩:=I.cell x c e;obtain ⟨m,⟨o',es,ep,ho',hd',_⟩,_⟩:=I.loc;rw [z,ho'] at ho;cases ho;rw [hd'] at hd;cases hd
def Inv.funs (I:Inv X pins σ H s):s.heap.FunFrames X.base X.outer:=by
 have all:∀ (l:List Env),(∀ b∈frs l,b∈X.fs)->X.s₀.heap.FunFrames X.base l->s.heap.FunFrames X.base l:=by
  intro l;induction l with
  | nil=>intro _ _;trivial
  | cons env r ih =>
   intro hs hl;obtain ⟨hk,⟨L,o,hf,hn,ho,hd⟩,hr⟩:=hl;have hL:L∈X.fs:=hs L (by unfold frs;rw [List.filterMap_cons,hf];exact List.mem_cons_self);obtain ⟨sl,e⟩:=I.base.slot L o ho (I.ok.frf L hL) hL fun z=>I.ok.exfs L z hL;exact ⟨hk,⟨L,_,hf,hn,e,hd⟩,ih (fun b hb=>hs b (by unfold frs;rw [List.filterMap_cons,hf];exact List.mem_cons_of_mem _ hb)) hr⟩
 exact all X.outer (fun _ hb=>hb) I.ok.funs
def Inv.stack (I:Inv X pins σ H s):s.heap.FunFrames X.base X.stack:=by
 rcases I.ok.stk with e | ⟨e,hf⟩
 ·rw [e];exact I.funs
 ·rw [e];obtain ⟨m,hn,_⟩:=I.loc;refine .cons (by rw [I.ok.kind];decide) hf hn ?_ I.funs;exact Heap.get?_none_of_le (Nat.le_trans I.ok.bsz I.ok.above)
def Inv.stkSub (I:Inv X pins σ H s):∀ b∈frs X.stack,b∈X.env.locals::X.fs:=fun b hb=>by
 rcases I.ok.stk with e | ⟨e,hf⟩
 ·rw [e] at hb;exact List.mem_cons_of_mem _ hb
 ·rw [e] at hb;unfold frs at hb;rw [List.filterMap_cons,hf] at hb;exact hb
def Inv.stkFree (I:Inv X pins σ H s):∀ b∈frs X.stack,H b=none:=fun b hb=>by
 rcases List.mem_cons.mp (I.stkSub b hb) with e | hb
 ·rw [e];exact I.free
 ·obtain ⟨_,o,ho,_⟩:=I.ok.funs.mem hb;exact I.base.free b o ho (I.ok.frf b hb) fun z=>I.ok.exfs b z hb
def Inv.step {g':Array GenState} {t':Nat} {d':Drawn} {ch:List Addr} (I:Inv X pins σ H s)
  (hch:∀ b∈ch,(b∈X.ex\/X.s₀.heap.objs.size<=b)/\b≠X.env.locals/\(∀ x c,X.env.cells.lookup x=some c->c≠b)/\∀ p∈X.pn++pins,p.1≠b)
  (keep:∀ b o,b≠X.env.locals->b∉X.fs->b∉ch->s.heap.get? b=some o->H b=none->h'.get? b=some o)
  (slot:∀ b o,b≠X.env.locals->b∈X.fs->b∉ch->s.heap.get? b=some o->H b=none->∃ sl,h'.get? b=some { o with slots:=sl }) (free:∀ b o,b∉ch->s.heap.get? b=some o->H b=none->H' b=none)
  (there:∀ b o,b∉ch->s.heap.get? b=some o->∃ o',h'.get? b=some o')
  (tups:∀ b xs,H b=some (.tup xs)->H' b=some (.tup xs)) (frzs:∀ b o u,H b=some (.frz o u)->H' b=some (.frz o u)) (tbls:∀ b ps,H b=some (.tbl ps)->∃ more,H' b=some (.tbl (ps++more)))
  (ns:∀ m,s.heap.Ns X.env.locals m->h'.Ns X.env.locals m) (hok:HOk X.prog X.w H' h') (hg:AllBare g') :
  Inv X pins σ H' { s with heap:=h',gens:=g',drawn:=d',toks:=t' }:=by
 have neL:∀ b o,X.s₀.heap.get? b=some o->b≠X.env.locals:=fun b o e=>Nat.ne_of_lt (Nat.lt_of_lt_of_le (Heap.lt_size e) I.ok.above);have neC:∀ b o,X.s₀.heap.get? b=some o->b∉X.ex->b∉ch:=fun b o e hx hb=>by
  rcases (hch b hb).1 with z | z
  ·exact hx z
  ·exact absurd (Nat.lt_of_lt_of_le (Heap.lt_size e) z) (Nat.lt_irrefl _)
 have cellK:∀ x c,X.env.cells.lookup x=some c->∀ v,s.heap.IsCell c v->h'.IsCell c v:=fun x c e v ⟨o,ho,hd⟩=>by
  have nch:c∉ch:=fun z=>(hch c z).2.2.1 x c e rfl
  by_cases hc:c∈X.fs
  ·obtain ⟨sl,q⟩:=slot c o (I.cne x c e) hc nch ho (I.freeC x c e);exact ⟨_,q,hd⟩
  ·exact ⟨o,keep c o (I.cne x c e) hc nch ho (I.freeC x c e),hd⟩
 refine ⟨I.ok,I.os,hg,⟨fun b o e n hb hx=>?_,fun b o e n hb hx=>?_,fun b o e n hx=>?_,fun b o e hx=>?_,fun b xs e=>tups b xs (I.base.tups b xs e),fun b o xs e=>frzs b o xs (I.base.frzs b o xs e),fun b ps e=>?_⟩,?_,fun x c e=>?_,?_,fun x c e=>?_,fun p hp=>?_,hok,I.len⟩
 ·exact keep b o (neL b o e) hb (neC b o e hx) (I.base.keep b o e n hb hx) (I.base.free b o e n hx)
 ·obtain ⟨sl,e1⟩:=I.base.slot b o e n hb hx;obtain ⟨sl',e2⟩:=slot b _ (neL b o e) hb (neC b o e hx) e1 (I.base.free b o e n hx);exact ⟨sl',e2⟩
 ·obtain ⟨o',e1⟩:=I.base.there b o e hx;exact free b o' (neC b o e hx) e1 (I.base.free b o e n hx)
 ·obtain ⟨o',e1⟩:=I.base.there b o e hx;exact there b o' (neC b o e hx) e1
 ·obtain ⟨m1,e1⟩:=I.base.tbls b ps e;obtain ⟨m2,e2⟩:=tbls b _ e1;exact ⟨m1++m2,by rw [e2,Array.append_assoc]⟩
 ·obtain ⟨m,hn,hl⟩:=I.loc;refine ⟨m,ns m hn,fun i x v e1 e2 e3=>?_⟩;obtain ⟨u,r,l⟩:=hl i x v e1 e2 e3;refine ⟨u,r,?_⟩;rcases l with l | ⟨k,c,e,z⟩
  ·exact .inl l
  ·exact .inr ⟨k,c,e,cellK x c e _ z⟩
 ·obtain ⟨v,z⟩:=I.cell x c e;exact ⟨v,cellK x c e v z⟩
 ·obtain ⟨m,⟨o,_,_,ho,_⟩,_⟩:=I.loc;exact free _ o (fun z=>(hch _ z).2.1 rfl) ho I.free
 ·obtain ⟨v,o,ho,hd⟩:=I.cell x c e;exact free c o (fun z=>(hch c z).2.2.1 x c e rfl) ho (I.freeC x c e)
 ·obtain ⟨e,n,ne,nf,d⟩:=I.pin p hp;have nch:p.1∉ch:=fun z=>(hch p.1 z).2.2.2 p hp rfl;exact ⟨keep p.1 p.2 ne nf nch e n,free p.1 p.2 nch e n,ne,nf,d⟩
def Inv.un {t':Nat} (I:Inv X pins σ H s) (u:Un X.fs [] H H' s.heap h') (hok:HOk X.prog X.w H' h'):Inv X pins σ H' { s with heap:=h',toks:=t' }:=by
 obtain ⟨m,⟨o,es,ep,ho,r⟩,_⟩:=id I.loc;obtain ⟨sl,hL⟩:=u.any ho I.free (by simp);exact I.step (g':=s.gens) (d':=s.drawn) (ch:=[]) (fun _ z=>nomatch z) (fun b o _ hb _ e n=>u.keep b o e n hb (by simp)) (fun b o _ hb _ e n=>u.slot b o e n hb (by simp)) (fun b o _ e n=>u.free b o e n (by simp)) (fun b o _ e=>u.there b o e (by simp)) u.tups u.frzs u.tbls (fun m' hm=>by
  obtain ⟨o',es',ep',ho',r'⟩:=hm;rw [ho] at ho';cases ho';exact ⟨_,es',ep',hL,r'⟩) hok I.bare
def Inv.call {g':Array GenState} {t':Nat} {d':Drawn} {ch:List Addr} (I:Inv X pins σ H s) (u:Un (frs X.stack) ch H H' s.heap h') (hok:HOk X.prog X.w H' h') (hg:AllBare g')
  (hch:∀ b∈ch,(b∈X.ex\/X.s₀.heap.objs.size<=b)/\b≠X.env.locals/\(∀ x c,X.env.cells.lookup x=some c->c≠b)/\∀ p∈X.pn++pins,p.1≠b) :
  Inv X pins σ H' { s with heap:=h',gens:=g',drawn:=d',toks:=t' }:=by
 obtain ⟨m,⟨o,es,ep,ho,r⟩,_⟩:=id I.loc;obtain ⟨sl,hL⟩:=u.any ho I.free fun z=>(hch _ z).2.1 rfl;exact I.step (ch:=ch) hch (fun b o hL hb hc e n=>u.keep b o e n (fun z=>(List.mem_cons.mp (I.stkSub b z)).elim hL hb) hc) (fun b o _ _ hc e n=>u.any e n hc) (fun b o hc e n=>u.free b o e n hc) (fun b o hc e=>u.there b o e hc) u.tups u.frzs u.tbls (fun m' hm=>by
  obtain ⟨o',es',ep',ho',r'⟩:=hm;rw [ho] at ho';cases ho';exact ⟨_,es',ep',hL,r'⟩) hok hg
def Inv.turned {t':Nat} {it:Addr} (I:Inv X pins σ H s) (k:∀ b o,b≠it->s.heap.get? b=some o->h'.get? b=some o) (hn:H it=none) (hL:it≠X.env.locals)
  (h1:it∈X.ex\/X.s₀.heap.objs.size<=it) (h2:∀ x c,X.env.cells.lookup x=some c->c≠it) (h3:∀ p∈X.pn++pins,p.1≠it):Inv X pins σ H { s with heap:=h',toks:=t' }:=by
 have nit:∀ b u,H b=some u->b≠it:=fun b u e z=>by rw [z,hn] at e;cases e
 refine I.step (g':=s.gens) (d':=s.drawn) (ch:=[it]) (fun b hb=>?_) (fun b o _ _ hc e _=>k b o (fun z=>hc (by simp [z])) e) (fun b o _ _ hc e _=>⟨o.slots,k b o (fun z=>hc (by simp [z])) e⟩) (fun _ _ _ _ n=>n)
  (fun b o hc e=>⟨o,k b o (fun z=>hc (by simp [z])) e⟩) (fun _ _ e=>e) (fun _ _ _ e=>e) (fun b ps e=>⟨#[],by rw [e];simp⟩) (fun m hm=>?_) (fun b u e=>?_) I.bare
 ·have e:b=it:=by simpa using hb
  subst e;exact ⟨h1,hL,h2,h3⟩
 ·obtain ⟨o,es,ep,ho,r⟩:=hm;exact ⟨o,es,ep,k _ o (Ne.symm hL) ho,r⟩
 ·refine (I.hok b u e).stay (fun c v hc q=>k c v ?_ q) (fun _ q=>q) fun _ _ q=>q;rcases hc with z | z
  ·rw [z];exact nit b u e
  ·exact nit c _ z
def Inv.tok (I:Inv X pins σ H s) (t:Nat):Inv X pins σ H { s with toks:=t }:=I.un (h':=s.heap) (t':=t) Un.refl I.hok
def Inv.kept {t':Nat} (I:Inv X pins σ H s) (k:∀ b u,s.heap.get? b=some u->h'.get? b=some u):Inv X pins σ H { s with heap:=h',toks:=t' }:=I.un (Un.kept k) (I.hok.kept k)
def Inv.laid {a:Addr} {o:HO} {t':Nat} (I:Inv X pins σ H s) (k:∀ b u,s.heap.get? b=some u->h'.get? b=some u) (hp:s.heap.objs.size<=a) (new:ObjOk X.prog X.w (upd H a o) h' a o) :
  Inv X pins σ (upd H a o) { s with heap:=h',toks:=t' }:=I.un (Un.laid k hp (I.hok.fresh hp)) (I.hok.laid k hp new)
def Inv.write {x e:Addr} {o:HO} {t':Nat} (I:Inv X pins σ H s) (mu:Mut (H x)) (he:e=x\/H e=some (.own x)) (k:∀ b u,b≠e->s.heap.get? b=some u->h'.get? b=some u) (heo:∃ u,h'.get? e=some u)
  (new:ObjOk X.prog X.w (upd H x o) h' x o):Inv X pins σ (upd H x o) { s with heap:=h',toks:=t' }:=I.un (Un.write mu he k heo) (I.hok.write mu he k heo new)
def Inv.pins_of {pins':List (Addr×Obj)} (I:Inv X pins σ H s) (h:∀ p∈pins',s.heap.get? p.1=some p.2/\H p.1=none/\p.1≠X.env.locals/\p.1∉X.fs/\∀ v,p.2.data≠.cell v):Inv X pins' σ H s :=
 ⟨I.ok,I.os,I.bare,I.base,I.loc,I.cell,I.free,I.freeC,fun p hp=>(List.mem_append.mp hp).elim (fun z=>I.pin p (List.mem_append_left _ z)) (h p),I.hok,I.len⟩
def sH {N:List Str} (hN:N.Nodup) {i j:Nat} {x:Str} (a:N[i]?=some x) (b:N[j]?=some x):i=j:=by
 obtain ⟨h1,e1⟩:=List.getElem?_eq_some_iff.mp a;obtain ⟨h2,e2⟩:=List.getElem?_eq_some_iff.mp b;exact (List.getElem_inj hN).mp (e1.trans e2.symm)
def nX {M:Model} {A:Around} {E:Value->Shared->Prop} {i:Nat} {x:Str} {v:V} {u:Value} {Q:Unit->Shared->Prop} (I:Inv X pins σ H s) (hN:X.N.Nodup) (hi:X.N[i]?=some x) (hx:Loc X.env.scope x) (r:RelV v u)
  (h:∀ s',Inv X pins (σ.set i (some v)) H s'->(∃ a,Heap.SameBut a s.heap s'.heap/\(a=X.env.locals\/X.env.cells.lookup x=some a))->Q () s') (hf:X.fn x=true\/X.env.scope.names.lookup x=some .local:=by first | exact .inl rfl | exact .inr rfl | assumption):wpAny M A (storeName X.env x u) Q E s:=by
 obtain ⟨m,hn,hl⟩:=id I.loc;have hcls:(X.env.scope.kind==.class||(X.env.scope.kind==.module&&X.env.locals != X.env.globals))=false:=by rw [I.ok.kind];rfl
 have hiσ:i < σ.length:=by rw [I.len];exact (List.getElem?_eq_some_iff.mp hi).1
 have cne:=I.cne;have tracked:∀ {a:Addr} {h':Heap},(∃ o,s.heap.get? a=some o/\H a=none)->Heap.SameBut a s.heap h'->HOk X.prog X.w H h':=fun {a h'} ha hs b ob e=>by
  obtain ⟨_,_,hfree⟩:=ha;refine (I.hok b ob e).stay (fun c w' hc q=>(hs.2 c ?_).trans q) (fun _ q=>q) fun _ _ q=>q;rintro rfl;rcases hc with rfl | hc
  ·rw [hfree] at e;cases e
  ·rw [hfree] at hc;cases hc
 rcases hx with hk | hk
 ·refine wpAny_storeName_local hk hn (fun h' hn' hs=>?_) hcls;obtain ⟨oL,_,_,hoL,_⟩:=id hn;refine h _ ⟨I.ok,I.os,I.bare,⟨fun b o e n hb hx=>?_,fun b o e n hb hx=>?_,I.base.free,fun b o e hx=>?_,I.base.tups,I.base.frzs,I.base.tbls⟩,⟨_,hn',fun j y v' e1 e2 e3=>?_⟩,fun y c e=>?_,I.free,I.freeC,fun p hp=>?_,tracked ⟨oL,hoL,I.free⟩ hs,by simpa using I.len⟩ ⟨_,hs,.inl rfl⟩
  ·exact (hs.2 b (Nat.ne_of_lt (Nat.lt_of_lt_of_le (Heap.lt_size e) I.ok.above))).trans (I.base.keep b o e n hb hx)
  ·obtain ⟨sl,e1⟩:=I.base.slot b o e n hb hx;exact ⟨sl,(hs.2 b (Nat.ne_of_lt (Nat.lt_of_lt_of_le (Heap.lt_size e) I.ok.above))).trans e1⟩
  ·obtain ⟨o',e1⟩:=I.base.there b o e hx;exact ⟨o',(hs.2 b (Nat.ne_of_lt (Nat.lt_of_lt_of_le (Heap.lt_size e) I.ok.above))).trans e1⟩
  ·by_cases hj:j=i
   ·subst hj;rw [hi] at e1;cases e1;rw [List.getElem?_set_self hiσ] at e2;cases e2;exact ⟨u,r,.inl ⟨hk,by simp⟩⟩
   ·rw [List.getElem?_set_ne (Ne.symm hj)] at e2;obtain ⟨u',r',q⟩:=hl j y v' e1 e2 e3;refine ⟨u',r',?_⟩;rcases q with ⟨k,e⟩ | ⟨k,c,e,z⟩
    ·refine .inl ⟨k,?_⟩;have:y≠x:=fun e=>hj (sH hN e1 (e ▸ hi));simp [this,e]
    ·exact .inr ⟨k,c,e,z.sameBut hs (cne y c e)⟩
  ·obtain ⟨w',z⟩:=I.cell y c e;exact ⟨w',z.sameBut hs (cne y c e)⟩
  ·obtain ⟨e,n,ne,nf,d⟩:=I.pin p hp;exact ⟨(hs.2 p.1 ne).trans e,n,ne,nf,d⟩
 ·have hfn:X.fn x=true:=by
   rcases hf with z | z
   ·exact z
   ·rw [z] at hk;cases hk
  obtain ⟨c,hc⟩:=I.ok.has x (.inl hk);obtain ⟨w',z⟩:=I.cell x c hc;refine wpAny_storeName_cell I.ok.kind hk hc z (fun h' hc' hs=>?_);obtain ⟨oc,hoc,hocd⟩:=id z;refine h { s with heap:=h' } ⟨I.ok,I.os,I.bare,⟨fun b o e n hb hx=>?_,fun b o e n hb hx=>?_,I.base.free,fun b o e hx=>?_,I.base.tups,I.base.frzs,I.base.tbls⟩,⟨m,hn.sameBut hs (Ne.symm (cne x c hc)),fun j y v' e1 e2 e3=>?_⟩,fun y c' e=>?_,I.free,I.freeC,fun p hp=>?_,tracked ⟨oc,hoc,I.freeC x c hc⟩ hs,by simpa using I.len⟩ ⟨c,hs,.inr hc⟩
  ·exact (hs.2 b (Nat.ne_of_lt (Nat.lt_of_lt_of_le (Heap.lt_size e) (I.ok.cab x c hfn hc)))).trans (I.base.keep b o e n hb hx)
  ·obtain ⟨sl,e1⟩:=I.base.slot b o e n hb hx;exact ⟨sl,(hs.2 b (Nat.ne_of_lt (Nat.lt_of_lt_of_le (Heap.lt_size e) (I.ok.cab x c hfn hc)))).trans e1⟩
  ·obtain ⟨o',e1⟩:=I.base.there b o e hx;exact ⟨o',(hs.2 b (Nat.ne_of_lt (Nat.lt_of_lt_of_le (Heap.lt_size e) (I.ok.cab x c hfn hc)))).trans e1⟩
  ·by_cases hj:j=i
   ·subst hj;rw [hi] at e1;cases e1;rw [List.getElem?_set_self hiσ] at e2;cases e2;exact ⟨u,r,.inr ⟨.inl hk,c,hc,hc'⟩⟩
   ·rw [List.getElem?_set_ne (Ne.symm hj)] at e2;obtain ⟨u',r',q⟩:=hl j y v' e1 e2 e3;refine ⟨u',r',?_⟩;rcases q with q | ⟨k,c',e,z'⟩
    ·exact .inl q
    ·refine .inr ⟨k,c',e,z'.sameBut hs ?_⟩;rintro rfl;exact hj (sH hN e1 (I.ok.inj _ _ _ e hc ▸ hi))
  ·by_cases hcc:c'=c
   ·subst hcc;exact ⟨_,hc'⟩
   ·obtain ⟨w2,z2⟩:=I.cell y c' e;exact ⟨w2,z2.sameBut hs hcc⟩
  ·obtain ⟨e,n,ne,nf,d⟩:=I.pin p hp;refine ⟨(hs.2 p.1 ?_).trans e,n,ne,nf,d⟩;intro q;rw [q,hoc] at e;have q':oc=p.2:=Option.some.inj e;exact d w' (by rw [<- q'];exact hocd)
def sJ {M:Model} {A:Around} {E:Value->Shared->Prop} {i:Nat} {x:Str} {v:V} {u:Value} {Q:Unit->Shared->Prop} (I:Inv X pins σ H s) (hN:X.N.Nodup) (hi:X.N[i]?=some x) (hx:Loc X.env.scope x) (r:RelV v u)
  (h:∀ s',Inv X pins (σ.set i (some v)) H s'->Q () s') (hf:X.fn x=true\/X.env.scope.names.lookup x=some .local:=by first | exact .inl rfl | exact .inr rfl | assumption):wpAny M A (storeName X.env x u) Q E s :=
 nX I hN hi hx r (fun s' I' _=>h s' I') hf
def Inv.call' {s':Shared} {ch:List Addr} (I:Inv X pins σ H s) (ho:s'.os=s.os) (u:Un (frs X.stack) ch H H' s.heap s'.heap) (hok:HOk X.prog X.w H' s'.heap) (hg:AllBare s'.gens)
  (hch:∀ b∈ch,(b∈X.ex\/X.s₀.heap.objs.size<=b)/\b≠X.env.locals/\(∀ x c,X.env.cells.lookup x=some c->c≠b)/\∀ p∈X.pn++pins,p.1≠b):Inv X pins σ H' s':=by
 obtain ⟨h',g',d',t',o'⟩:=s';have e:o'=s.os:=ho;subst e;exact I.call (g':=g') (t':=t') (d':=d') u hok hg hch
end
abbrev XK:=Value->Option Addr->Hp->Prop
abbrev St:=List (Option V)
abbrev VK:=V->Hp->Prop
abbrev TE:=St->Hp->VK->Prop
abbrev TT:=St->Hp->(Bool->Hp->Prop)->Prop
abbrev TA:=St->Hp->(List V->Hp->Prop)->Prop
structure Ends where
 nx:St->Hp->Prop
 rt:VK
 bk:St->Hp->Prop:=fun _ _=>False
 ct:St->Hp->Prop:=fun _ _=>False
abbrev TS:=Ends->St->Hp->Prop
def EP (X:Cx) (pins:List (Addr×Obj)) (σ:St) (Q:VK) (u:Value) (s':Shared):Prop:=∃ v H',Inv X pins σ H' s'/\RelV v u/\Q v H'
def TP (X:Cx) (pins:List (Addr×Obj)) (σ:St) (Q:Bool->Hp->Prop) (b:Bool) (s':Shared):Prop:=∃ H',Inv X pins σ H' s'/\Q b H'
def AP (X:Cx) (pins:List (Addr×Obj)) (σ:St) (Q:List V->Hp->Prop) (us:List Value) (s':Shared):Prop:=∃ vs H',Inv X pins σ H' s'/\Vals vs us/\Q vs H'
def SP (X:Cx) (pins:List (Addr×Obj)) (D:Ends) (f:Flow) (s':Shared):Prop :=
 match f with
 | .next=>∃ σ' H',Inv X pins σ' H' s'/\D.nx σ' H'
 | .brk=>∃ σ' H',Inv X pins σ' H' s'/\D.bk σ' H'
 | .cont=>∃ σ' H',Inv X pins σ' H' s'/\D.ct σ' H'
 | .ret u=>∃ v σ' H',Inv X pins σ' H' s'/\RelV v u/\D.rt v H'
def PE (X:Cx) (e:Expr) (t:TE):Prop :=
 ∀ (pins:List (Addr×Obj)) (s:Shared) (σ:St) (H:Hp) (Q:VK),Inv X pins σ H s->t σ H Q->wpAny (model X.prog X.w) X.A (eval e X.env) (EP X pins σ Q) X.xe s
def PT (X:Cx) (e:Expr) (t:TT):Prop :=
 ∀ (pins:List (Addr×Obj)) (s:Shared) (σ:St) (H:Hp) (Q:Bool->Hp->Prop),Inv X pins σ H s->t σ H Q->wpAny (model X.prog X.w) X.A (isTrue e X.env (eval e X.env)) (TP X pins σ Q) X.xe s
def PW (X:Cx) (e:Expr) (t:TT):Prop :=
 ∀ (whole:Sem Value) (pins:List (Addr×Obj)) (s:Shared) (σ:St) (H:Hp) (Q:Bool->Hp->Prop),Inv X pins σ H s->t σ H Q->wpAny (model X.prog X.w) X.A (isTrue e X.env whole) (TP X pins σ Q) X.xe s
def PA (X:Cx) (es:List Expr) (t:TA):Prop :=
 ∀ (pos:Pos) (pins:List (Addr×Obj)) (s:Shared) (σ:St) (H:Hp) (Q:List V->Hp->Prop),Inv X pins σ H s->t σ H Q->wpAny (model X.prog X.w) X.A (spliced (backTo pos (starEach es X.env))) (AP X pins σ Q) X.xe s
def PS (X:Cx) (st:Stmt) (t:TS):Prop :=
 ∀ (pins:List (Addr×Obj)) (s:Shared) (σ:St) (H:Hp) (D:Ends),Inv X pins σ H s->t D σ H->wpAny (model X.prog X.w) X.A (exec st X.env) (SP X pins D) X.xe s
def PSs (X:Cx) (st:List Stmt) (t:TS):Prop :=
 ∀ (pins:List (Addr×Obj)) (s:Shared) (σ:St) (H:Hp) (D:Ends),Inv X pins σ H s->t D σ H->wpAny (model X.prog X.w) X.A (execs st X.env) (SP X pins D) X.xe s
def thn {α:Type} {t:Sem α} {Q Q':α->Shared->Prop} {M:Model} {A:Around} {E:Value->Shared->Prop} {s:Shared} (h:wpAny M A t Q E s) (hQ:∀ a s,Q a s->Q' a s):wpAny M A t Q' E s:=wpAny_mono h hQ fun _ _ x=>x
section
variable {X:Cx}
def dE0 (i:Nat):TE:=fun σ H Q=>∃ v,σ[i]?=some (some v)/\Q v H
def tC (v:V):TE:=fun _ H Q=>Q v H
def bR1 {i:Nat} {x:Str} {pos:Pos} (hN:X.N[i]?=some x) (hv:Vis X.env.scope x) (hd:autoParam ((x==("__debug__":Str))=false) ZD) (hcd:autoParam ((x==("__classdict__":Str))=false) ZD):PE X (.Name x pos) (dE0 i):=by
 intro pins s σ H Q I h;obtain ⟨v,e,h⟩:=h;obtain ⟨m,hn,hl⟩:=I.loc;obtain ⟨u,r,l⟩:=hl i x v hN e hv;have fin:EP X pins σ Q u s:=⟨v,H,I,r,h⟩;rcases l with ⟨hk,hm⟩ | ⟨hk,c,hc,hcell⟩
 ·exact wpAny_Name (wpAny_loadName_local I.ok.kind hk hn hm fin) hd
 ·rcases hk with hk | hk
  ·exact wpAny_Name (wpAny_loadName_cell I.ok.kind hk hc hcell fin) hd
  ·exact wpAny_Name (wpAny_loadName_free I.ok.kind hk hc hcell fin hcd) hd
def bR2 {i j pos}:PE X (.Constant (.int i) j pos) (tC (.int i)):=fun _ _ _ H _ I h=>wpAny_Constant_int ⟨.int i,H,I.tok _,⟨_,rfl⟩,h⟩
def cM8 {b j pos}:PE X (.Constant (.bool b) j pos) (tC (.bl b)):=fun _ _ _ H _ I h=>Constant_bool ⟨.bl b,H,I,rfl,h⟩
def bR3 {j pos}:PE X (.Constant .none j pos) (tC .non):=fun _ _ _ H _ I h=>Constant_none ⟨.non,H,I,rfl,h⟩
def bR4 {x j pos}:PE X (.Constant (.str x) j pos) (tC (.str x)):=fun _ _ _ H _ I h=>Calls.Constant_str ⟨.str x,H,I.tok _,⟨_,rfl⟩,h⟩
def Gl (X:Cx) (x:Str):Prop:=X.env.kindOf x=some .globalImplicit
def qD {E:Value->Shared->Prop} {pins:List (Addr×Obj)} {s:Shared} {σ:St} {H:Hp} {x:Str} {u:Value} {pos:Pos} {Q:Value->Shared->Prop} (I:Inv X pins σ H s) (hg:Gl X x) (hm:X.mg x=some u) (h:Q u s)
  (hd:autoParam ((x==("__debug__":Str))=false) ZD):wpAny (model X.prog X.w) X.A (eval (.Name x pos) X.env) Q E s :=
 Calls.Name_function_global I.ok.kind hg (Calls.loadGlobal_global (by rw [I.ok.glob];exact I.mod.glob.keeps I.bk) hm h) hd
def eE {E:Value->Shared->Prop} {pins:List (Addr×Obj)} {s:Shared} {σ:St} {H:Hp} {x:Str} {u:Value} {pos:Pos} {Q:Value->Shared->Prop} (I:Inv X pins σ H s) (hg:Gl X x) (hm:X.mg x=none) (hv:bootBuiltins x=some u) (h:Q u s)
  (hn:autoParam (x≠"__name__") ZD) (hd:autoParam ((x==("__debug__":Str))=false) ZD):wpAny (model X.prog X.w) X.A (eval (.Name x pos) X.env) Q E s:=by
 obtain ⟨mb,h1,h2⟩:=I.mod.blt;exact Calls.Name_function_global I.ok.kind hg (Calls.loadGlobal_builtin (by rw [I.ok.glob];exact I.mod.glob.keeps I.bk) hm (by rw [I.ok.blt];exact h1.keeps I.bk) ((h2 x hn).trans hv) h) hd
def lD {x:Str} {v:V} {u:Value} {pos:Pos} (hg:Gl X x) (hm:X.mg x=some u) (r:RelV v u) (hd:autoParam ((x==("__debug__":Str))=false) ZD):PE X (.Name x pos) (tC v) :=
 fun _ _ _ H _ I h=>qD I hg hm ⟨v,H,I,r,h⟩ hd
def qE {x:Str} {v:V} {u:Value} {pos:Pos} (hg:Gl X x) (hm:X.mg x=none) (hv:bootBuiltins x=some u) (r:RelV v u) (hn:autoParam (x≠"__name__") ZD) (hd:autoParam ((x==("__debug__":Str))=false) ZD):PE X (.Name x pos) (tC v) :=
 fun _ _ _ H _ I h=>eE I hg hm hv ⟨v,H,I,r,h⟩ hn hd
variable {a b:Expr} {ta tb:TE} {pos:Pos}
def tB (t:TE):TT:=fun σ H Q=>t σ H fun x H1=>∃ c,x=.bl c/\Q c H1
def bR5 {e:Expr} {t:TE} (h:PE X e t) (he:autoParam (∀ whole,isTrue e X.env whole=(do let v <- whole;standAt e.pos;holding [v] (truthy v))) ZI):PT X e (tB t):=by
 intro pins s σ H Q I hw;refine isTrue_plain (thn (h pins s σ H _ I hw) fun v s1 ⟨x,H1,I1,r1,q1⟩=>?_) (he _);obtain ⟨d,rfl,q⟩:=q1;cases r1;exact wpAny_truthy_bool ⟨H1,I1,q⟩
variable {tA tB':TT} {rest:List Expr}
def dE1 (t u:TT):TT:=fun σ H Q=>t σ H fun c H1=>if c=true then u σ H1 Q else Q false H1
def tOr (t u:TT):TT:=fun σ H Q=>t σ H fun c H1=>if c=true then Q true H1 else u σ H1 Q
def dE2 (t:TT):TT:=fun σ H Q=>t σ H fun c H1=>Q (!c) H1
def aW7 (ha:PT X a tA):PW X (.BoolOp .And [a] pos) tA:=by
 intro wh pins s σ H Q I h;refine isTrue_and (thn (ha pins s σ H Q I h) fun c s1 e=>?_);cases c with
 | true=>exact isTrue_and_nil e
 | false=>exact e
def bR6 (ha:PT X a tA):PW X (.BoolOp .Or [a] pos) tA:=by
 intro wh pins s σ H Q I h;refine isTrue_or (thn (ha pins s σ H Q I h) fun c s1 e=>?_);cases c with
 | false=>exact isTrue_or_nil e
 | true=>exact e
def bR7 (ha:PT X a tA) (hb:PW X (.BoolOp .And (b::rest) pos) tB'):PW X (.BoolOp .And (a::b::rest) pos) (dE1 tA tB'):=by
 intro wh pins s σ H Q I h;refine isTrue_and (thn (ha pins s σ H _ I h) fun c s1 ⟨H1,I1,q1⟩=>?_);cases c with
 | true=>exact hb wh pins s1 σ H1 Q I1 q1
 | false=>exact ⟨H1,I1,q1⟩
def cM9 (ha:PT X a tA) (hb:PW X (.BoolOp .Or (b::rest) pos) tB'):PW X (.BoolOp .Or (a::b::rest) pos) (tOr tA tB'):=by
 intro wh pins s σ H Q I h;refine isTrue_or (thn (ha pins s σ H _ I h) fun c s1 ⟨H1,I1,q1⟩=>?_);cases c with
 | true=>exact ⟨H1,I1,q1⟩
 | false=>exact hb wh pins s1 σ H1 Q I1 q1
def bR8 (ha:PT X a tA):PT X (.UnaryOp .Not a pos) (dE2 tA):=by
 intro pins s σ H Q I h;exact isTrue_not (ha pins s σ H (fun c H1=>Q (!c) H1) I h)
def cN0 (ta tb:TE):TE:=fun σ H Q=>ta σ H fun x H1=>∃ c,x=.bl c/\if c=true then tb σ H1 Q else Q (.bl false) H1
def dE3 (ta tb:TE):TE:=fun σ H Q=>ta σ H fun x H1=>∃ c,x=.bl c/\if c=true then Q (.bl true) H1 else tb σ H1 Q
def cN1 (ta:TE):TE:=fun σ H Q=>ta σ H fun x H1=>∃ c,x=.bl c/\Q (.bl (!c)) H1
def bR9 {op} {t:TE} (h:PE X a t):PE X (.BoolOp op [a] pos) t:=fun pins s σ H Q I hw=>BoolOp_one (h pins s σ H Q I hw)
def bS0 (ha:PE X a ta) (hb:PE X (.BoolOp .And (b::rest) pos) tb):PE X (.BoolOp .And (a::b::rest) pos) (cN0 ta tb):=by
 intro pins s σ H Q I h;refine BoolOp_and (thn (ha pins s σ H _ I h) fun v s1 ⟨x,H1,I1,r1,q1⟩=>?_);obtain ⟨c,rfl,q1⟩:=q1;cases r1;refine wpAny_truthy_bool ?_;cases c with
 | true=>exact hb pins s1 σ H1 Q I1 q1
 | false=>exact ⟨.bl false,H1,I1,rfl,q1⟩
def cN2 (ha:PE X a ta) (hb:PE X (.BoolOp .Or (b::rest) pos) tb):PE X (.BoolOp .Or (a::b::rest) pos) (dE3 ta tb):=by
 intro pins s σ H Q I h;refine BoolOp_or (thn (ha pins s σ H _ I h) fun v s1 ⟨x,H1,I1,r1,q1⟩=>?_);obtain ⟨c,rfl,q1⟩:=q1;cases r1;refine wpAny_truthy_bool ?_;cases c with
 | false=>exact hb pins s1 σ H1 Q I1 q1
 | true=>exact ⟨.bl true,H1,I1,rfl,q1⟩
def bS1 (ha:PE X a ta):PE X (.UnaryOp .Not a pos) (cN1 ta):=by
 intro pins s σ H Q I h;refine UnaryOp_ (thn (ha pins s σ H _ I h) fun v s1 ⟨x,H1,I1,r1,q1⟩=>?_);obtain ⟨c,rfl,q1⟩:=q1;cases r1;exact not_of (wpAny_truthy_bool ⟨.bl (!c),H1,I1,rfl,q1⟩)
def tIf (t:TT) (ta tb:TE):TE:=fun σ H Q=>t σ H fun c H1=>if c=true then ta σ H1 Q else tb σ H1 Q
def aH8 {c:Expr} (hc:PT X c tA) (ha:PE X a ta) (hb:PE X b tb):PE X (.IfExp c a b pos) (tIf tA ta tb):=by
 intro pins s σ H Q I h;refine wpAny_IfExp (thn (hc pins s σ H _ I h) fun d s1 ⟨H1,I1,q1⟩=>?_);cases d with
 | true=>exact ha pins s1 σ H1 Q I1 q1
 | false=>exact hb pins s1 σ H1 Q I1 q1
end
def SqL (K:Frag) (H:Hp) (a:Addr) (xs:List V):Prop :=
 Rd H a (.lst xs) \/
  ∃ (o:Obj) (its:Array Value) (n:Nat),K.lookup a=some o/\o.cls=.type "list"/\o.dict=none/\o.data=.seq its n/\its.size<=sizeLine/\Vals xs its.toList
def SqT (K:Frag) (H:Hp) (a:Addr) (xs:List V):Prop :=
 Rd H a (.tup xs) \/
  ∃ (o:Obj) (its:Array Value) (n:Nat),K.lookup a=some o/\o.cls=.type "tuple"/\o.data=.seq its n/\its.size<=sizeLine/\Vals xs its.toList
noncomputable def dE4:Value->Option V
 | .none=>some .non
 | .bool b=>some (.bl b)
 | .int i _=>some (.int i)
 | .str x _=>some (.str x)
 | .bytes b _=>some (.byt b)
 | .float b _=>some (.flt b)
 | .ref a=>some (.ref a)
 | .type n=>some (.ty n)
 | _=>none
def RelV.abs {x:V} {u:Value} (r:RelV x u):dE4 u=some x:=by
 cases x with
 | non=>cases r;rfl
 | bl _=>cases r;rfl
 | int _=>obtain ⟨t,rfl⟩:=r;rfl
 | str _=>obtain ⟨t,rfl⟩:=r;rfl
 | byt _=>obtain ⟨t,rfl⟩:=r;rfl
 | flt _=>obtain ⟨t,rfl⟩:=r;rfl
 | ref _=>cases r;rfl
 | ty _=>cases r;rfl
def RelV.inj {x y:V} {u:Value} (r:RelV x u) (q:RelV y u):x=y:=Option.some.inj (r.abs.symm.trans q.abs)
theorem Vals.inj:∀ {xs ys:List V} {us:List Value},Vals xs us->Vals ys us->xs=ys
 | _,_,_,.nil,.nil=>rfl
 | _,_,_,.cons r t,.cons r' t'=>by rw [r.inj r',Vals.inj t t']
section
variable {X:Cx} {pins:List (Addr×Obj)} {σ:St} {H:Hp} {s:Shared} {a:Addr} {xs ys:List V}
def SqL.of {K:Frag} (h:H a=some (.lst xs)):SqL K H a xs:=.inl (.inl h)
def Inv.list (I:Inv X pins σ H s) (h:SqL X.K H a xs):∃ its:List Value,Vals xs its/\PlainL s.heap a its.toArray/\xs.length<=sizeLine:=by
 rcases h with h | ⟨o,its,n,hk,hc,hd,hs,hz,r⟩
 ·obtain ⟨z,its,n,r,e⟩:=h.ok I.hok;exact ⟨its,r,⟨_,n,e,rfl,rfl,rfl⟩,z⟩
 ·refine ⟨its.toList,r,⟨o,n,I.kIn a o hk,hc,hd,by simpa using hs⟩,?_⟩;have e:=r.length;simp only [Array.length_toList] at e;omega
def Inv.tuple (I:Inv X pins σ H s) (h:SqT X.K H a xs):∃ its:List Value,Vals xs its/\IsTup s.heap a its.toArray/\xs.length<=sizeLine:=by
 rcases h with h | ⟨o,its,n,hk,hc,hs,hz,r⟩
 ·obtain ⟨z,its,r,p⟩:=h.ok I.hok;exact ⟨its,r,p.tup,z⟩
 ·refine ⟨its.toList,r,⟨o,I.kIn a o hk,hc,n,by simpa using hs⟩,?_⟩;have e:=r.length;simp only [Array.length_toList] at e;omega
def Inv.list_inj (I:Inv X pins σ H s) (h:SqL X.K H a xs) (h':SqL X.K H a ys):xs=ys:=by
 obtain ⟨its,r,⟨o,n,e,_,_,d⟩,_⟩:=I.list h;obtain ⟨its',r',⟨o',n',e',_,_,d'⟩,_⟩:=I.list h';rw [e] at e';cases e';rw [d] at d';injection d' with d1 _
 have:its=its':=by simpa using congrArg Array.toList d1
 subst this;exact r.inj r'
def Inv.tuple_inj (I:Inv X pins σ H s) (h:SqT X.K H a xs) (h':SqT X.K H a ys):xs=ys:=by
 obtain ⟨its,r,⟨o,e,_,n,d⟩,_⟩:=I.tuple h;obtain ⟨its',r',⟨o',e',_,n',d'⟩,_⟩:=I.tuple h';rw [e] at e';cases e';rw [d] at d';injection d' with d1 _
 have:its=its':=by simpa using congrArg Array.toList d1
 subst this;exact r.inj r'
end
abbrev Cx.wish (X:Cx) (E:Value->Shared->Prop):Cx:={ X with xe:=E }
abbrev Cx.nox (X:Cx):Cx:=X.wish fun _ _=>False
def Cx.Ok.wish {X:Cx} (ok:X.Ok) (E:Value->Shared->Prop):(X.wish E).Ok :=
 ⟨ok.mod,ok.kind,ok.glob,ok.blt,ok.above,ok.inj,ok.has,ok.cab,ok.hd,ok.frames,ok.stk,ok.exf,ok.bs,ok.bsz,ok.noex,ok.exfs,ok.funs,ok.frf⟩
def Cx.Ok.unwish {X:Cx} {E:Value->Shared->Prop} (ok:(X.wish E).Ok):X.Ok :=
 ⟨ok.mod,ok.kind,ok.glob,ok.blt,ok.above,ok.inj,ok.has,ok.cab,ok.hd,ok.frames,ok.stk,ok.exf,ok.bs,ok.bsz,ok.noex,ok.exfs,ok.funs,ok.frf⟩
section
variable {X:Cx} {pins:List (Addr×Obj)} {σ:St} {H:Hp} {s:Shared} {E:Value->Shared->Prop}
def Inv.wish (I:Inv X pins σ H s) (E:Value->Shared->Prop):Inv (X.wish E) pins σ H s:=⟨I.ok.wish E,I.os,I.bare,I.base,I.loc,I.cell,I.free,I.freeC,I.pin,I.hok,I.len⟩
def Inv.unwish (I:Inv (X.wish E) pins σ H s):Inv X pins σ H s:=⟨I.ok.unwish,I.os,I.bare,I.base,I.loc,I.cell,I.free,I.freeC,I.pin,I.hok,I.len⟩
def SP.unwish {D:Ends} {f:Flow} {s':Shared} (h:SP (X.wish E) pins D f s'):SP X pins D f s':=by
 cases f with
 | next=>obtain ⟨σ',H',I,q⟩:=h;exact ⟨σ',H',I.unwish,q⟩
 | brk=>obtain ⟨σ',H',I,q⟩:=h;exact ⟨σ',H',I.unwish,q⟩
 | cont=>obtain ⟨σ',H',I,q⟩:=h;exact ⟨σ',H',I.unwish,q⟩
 | ret u=>obtain ⟨v,σ',H',I,r,q⟩:=h;exact ⟨v,σ',H',I.unwish,r,q⟩
def PSs.nox {st:List Stmt} {t:TS} (h:PSs X.nox st t):PSs X st t:=fun pins s σ H D I hw =>
 wpAny_mono (h pins s σ H D (I.wish _) hw) (fun _ _ q=>q.unwish) fun _ _ z=>False.elim z
end
section
variable {X:Cx} {st:Stmt} {rest:List Stmt} {t u:TS} {e:Expr} {te:TE} {pos:Pos}
def bK6:TS:=fun D σ H=>D.nx σ H
def dE5 (t u:TS):TS:=fun D σ H=>t { D with nx:=u D } σ H
def aW8:PSs X [] bK6:=fun _ _ σ H _ I h=>wpAny_execs_nil ⟨σ,H,I,h⟩
def aH9 (h1:PS X st t) (h2:PSs X rest u):PSs X (st::rest) (dE5 t u):=by
 intro pins s σ H D I h;refine wpAny_execs_cons (thn (h1 pins s σ H { D with nx:=u D } I h) fun f s1 q=>?_);cases f with
 | next =>
  obtain ⟨σ',H',I',q⟩:=q;exact h2 pins s1 σ' H' D I' q
 | ret v=>exact q
 | brk=>exact q
 | cont=>exact q
def bS2:TS:=fun D σ H=>D.bk σ H
def cN3:TS:=fun D σ H=>D.ct σ H
def aW9:PS X (.Pass pos) bK6:=fun _ _ σ H _ I h=>wpAny_Pass ⟨σ,H,I,h⟩
def aI0:PS X (.Break pos) bS2:=fun _ _ σ H _ I h=>wpAny_Break ⟨σ,H,I,h⟩
def sK:PS X (.Continue pos) cN3:=fun _ _ σ H _ I h=>wpAny_Continue ⟨σ,H,I,h⟩
def Inv.quiet {pins:List (Addr×Obj)} {σ:St} {H:Hp} {s:Shared} (I:Inv X pins σ H s):interactive X.env=false:=by simp [interactive,I.ok.kind]
def cN4 (te:TE):TS:=fun D σ H=>te σ H fun _ H1=>D.nx σ H1
def aX0 (he:PE X e te) (hs:autoParam (swapsWith e none pos.line X.env=pure false) ZR):PS X (.Expr e pos) (cN4 te):=by
 intro pins s σ H D I h;exact wpAny_Expr_any (thn (he pins s σ H _ I h) fun v s1 ⟨x,H1,I1,r1,q1⟩=>⟨σ,H1,I1,q1⟩) I.quiet hs
def dE6 (te:TE):TS:=fun D σ H=>te σ H D.rt
def bS3 (he:PE X e te):PS X (.Return (some e) pos) (dE6 te):=by
 intro pins s σ H D I h;exact wpAny_Return_some (thn (he pins s σ H _ I h) fun v s1 ⟨x,H1,I1,r1,q1⟩=>⟨x,σ,H1,I1,r1,q1⟩)
def dE7 (c:TT) (t u:TS):TS:=fun D σ H=>c σ H fun b H1=>if b=true then t D σ H1 else u D σ H1
def cN5 {c:Expr} {a b:List Stmt} {tc:TT} (hc:PT X c tc) (ha:PSs X a t) (hb:PSs X b u):PS X (.If c a b pos) (dE7 tc t u):=by
 intro pins s σ H D I h;refine wpAny_If (thn (hc pins s σ H _ I h) fun d s1 ⟨H1,I1,q1⟩=>?_);cases d with
 | true=>exact ha pins s1 σ H1 D I1 q1
 | false=>exact hb pins s1 σ H1 D I1 q1
end
abbrev TG:=V->St->Hp->(St->Hp->Prop)->Prop
abbrev TGs:=List V->St->Hp->(St->Hp->Prop)->Prop
def PG (X:Cx) (target:Expr) (t:TG):Prop :=
 ∀ (pins:List (Addr×Obj)) (s:Shared) (σ:St) (H:Hp) (v:V) (u:Value) (Q:St->Hp->Prop),Inv X pins σ H s->RelV v u->t v σ H Q ->
  wpAny (model X.prog X.w) X.A (assign target X.env u) (fun _ s'=>∃ σ' H',Inv X pins σ' H' s'/\Q σ' H') X.xe s
def PGs (X:Cx) (ts:List Expr) (t:TGs):Prop :=
 ∀ (pins:List (Addr×Obj)) (s:Shared) (σ:St) (H:Hp) (vs:List V) (us:List Value) (Q:St->Hp->Prop),Inv X pins σ H s->Vals vs us->t vs σ H Q ->
  wpAny (model X.prog X.w) X.A (assignInOrder ((assignEach ts X.env).map (·.2)) us) (fun _ s'=>∃ σ' H',Inv X pins σ' H' s'/\Q σ' H') X.xe s
abbrev bS4:=V->V->V->Hp->(Hp->Prop)->Prop
def bS5 (X:Cx) (t:bS4):Prop :=
 ∀ (pins:List (Addr×Obj)) (s:Shared) (σ:St) (H:Hp) (o i v:V) (ov iv u:Value) (Q:Hp->Prop),Inv X pins σ H s->RelV o ov->RelV i iv->RelV v u->t o i v H Q ->
  wpAny (model X.prog X.w) X.A (setItem ov iv u) (fun _ s'=>∃ H',Inv X pins σ H' s'/\Q H') X.xe s
section
variable {X:Cx} {pos:Pos}
def xK (i:Nat):TG:=fun v σ H Q=>Q (σ.set i (some v)) H
def aX1 {i:Nat} {x:Str} (hN:X.N.Nodup) (hi:X.N[i]?=some x) (hx:Loc X.env.scope x) (hf:X.fn x=true\/X.env.scope.names.lookup x=some .local:=by first | exact .inl rfl | exact .inr rfl | assumption):PG X (.Name x pos) (xK i):=by
 intro pins s σ H v u Q I r h;exact wpAny_assign_Name (sJ I hN hi hx r (fun s' I'=>⟨_,H,I',h⟩) hf)
noncomputable def dE8:TGs:=fun vs σ H Q=>vs=[]/\Q σ H
noncomputable def cN6 (t:TG) (u:TGs):TGs:=fun vs σ H Q=>∃ v r,vs=v::r/\t v σ H fun σ' H'=>u r σ' H' Q
def aX2:PGs X [] dE8:=by
 intro pins s σ H vs us Q I r h;obtain ⟨e,h⟩:=h;subst e;cases r;exact assignInOrder_nil ⟨σ,H,I,h⟩
def aI1 {e:Expr} {es:List Expr} {t:TG} {u:TGs} (h1:PG X e t) (h2:PGs X es u)
  (hs:autoParam ((assignEach (e::es) X.env).map (·.2)=assign e X.env::(assignEach es X.env).map (·.2)) ZR):PGs X (e::es) (cN6 t u):=by
 intro pins s σ H vs us Q I r h;obtain ⟨v,vr,e1,h⟩:=h;subst e1;cases r with
 | cons r rr =>
  rw [hs];refine assignInOrder_cons (thn (h1 pins s σ H _ _ _ I r h) fun _ s1 ⟨σ1,H1,I1,q1⟩=>?_);exact h2 pins s1 σ1 H1 _ _ Q I1 rr q1
def dE9 (K:Frag) (n:Nat) (t:TGs):TG:=fun v σ H Q=>∃ a xs,v=.ref a/\SqT K H a xs/\xs.length=n/\t xs σ H Q
def bS6 {es:List Expr} {k:Nat} {t:TGs} {n:Nat} (hc:X.calm=true) (h:PGs X es t)
  (hn:autoParam ((assignEach es X.env).length=n) ZR) (hst:autoParam ((assignEach es X.env).findIdx? (·.1)=none) ZR):PG X (.Tuple es k pos) (dE9 X.K n t):=by
 intro pins s σ H v u Q I r hw;obtain ⟨a,xs,e1,hq,hl,hw⟩:=hw;subst e1;cases r;obtain ⟨its,rv,ht,hz⟩:=I.tuple hq;refine assign_Tuple_tuple (I.ok.hd hc) ht (by simp [hn,<- hl,rv.length]) hst fun h' hx=>?_;have I1:Inv X pins σ H { s with heap:=h' }:=I.kept (t':=s.toks) fun b o e=>hx b o (Nat.ne_of_lt (Heap.lt_size e)) e;exact h pins _ σ H xs _ Q I1 (by simpa using rv) hw
def dF0 (to ti:TE) (t:bS4):TG:=fun v σ H Q=>to σ H fun o H1=>ti σ H1 fun i H2=>t o i v H2 fun H3=>Q σ H3
def bS7 {o i:Expr} {to ti:TE} {t:bS4} (ho:PE X o to) (hi:PE X i ti) (hs:bS5 X t)
  (ha:∀ v,assign (.Subscript o i pos) X.env v=(do
   let ov <- holding [v] (eval o X.env)
   let iv <- holding [v,ov] (eval i X.env)
   standAt pos
   holding [v,ov,iv] (setItem ov iv v)
   release [v,ov,iv] []):=by intro _;rfl):PG X (.Subscript o i pos) (dF0 to ti t):=by
 intro pins s σ H v u Q I r h;rw [ha];refine wpAny_bind (wpAny_holding (thn (ho pins s σ H _ I h) fun ov s1 ⟨x,H1,I1,r1,q1⟩=>?_));refine wpAny_bind (wpAny_holding (thn (hi pins s1 σ H1 _ I1 q1) fun iv s2 ⟨y,H2,I2,r2,q2⟩=>?_));refine wpAny_bind (wpAny_standAt (wpAny_bind (wpAny_holding (thn (hs pins s2 σ H2 x y v ov iv u _ I2 r1 r2 r q2) fun _ s3 ⟨H3,I3,q3⟩=>?_))));exact wpAny_release ⟨σ,H3,I3,q3⟩
def aX3 (te:TE) (g:TG):TS:=fun D σ H=>te σ H fun x H1=>g x σ H1 D.nx
def bS8 {tg e:Expr} {te:TE} {g:TG} (he:PE X e te) (hg:PG X tg g) (hs:autoParam (swapsWithSole [tg] e pos.line X.env=pure false) ZR) (hw:autoParam (swappedStores [tg] e X.env=pure none) ZR)
  (h1:autoParam ((assignEach [tg] X.env).map (·.2)=[assign tg X.env]) ZR):PS X (.Assign [tg] e pos) (aX3 te g):=by
 intro pins s σ H D I h;refine wpAny_Assign_stores (thn (he pins s σ H _ I h) fun v s1 ⟨x,H1,I1,r1,q1⟩=>?_) hs hw;rw [h1];exact thn (hg pins s1 σ H1 x v _ I1 r1 q1) fun _ s2 q=>q
def vG {i:Nat} {x:Str} {e:Expr} {te:TE} {pos':Pos} (hN:X.N.Nodup) (hi:X.N[i]?=some x) (hx:Loc X.env.scope x) (he:PE X e te) (hs:autoParam (swapsWith e (some (.Name x pos')) pos.line X.env=pure false) ZR) (hf:X.fn x=true\/X.env.scope.names.lookup x=some .local:=by first | exact .inl rfl | exact .inr rfl | assumption) :
  PS X (.Assign [.Name x pos'] e pos) (aX3 te (xK i)):=by
 intro pins s σ H D I h;refine wpAny_Assign_Name (thn (he pins s σ H _ I h) fun v s1 ⟨y,H1,I1,r1,q1⟩=>?_) hs;exact sJ I1 hN hi hx r1 (fun s2 I2=>⟨_,H1,I2,q1⟩) hf
end
section
variable {X:Cx} {pos:Pos}
end
structure It where
 go:Nat->Hp->Prop
 yld:Nat->Hp->V->Hp->Prop
 stop:Nat->Hp->Prop
def iI (X:Cx) (pins:List (Addr×Obj)) (H:Hp) (b:Addr):Prop :=
 H b=none/\b≠X.env.locals/\b∉X.fs/\(b∈X.ex\/X.s₀.heap.objs.size<=b)/\(∀ x c,X.env.cells.lookup x=some c->c≠b)/\∀ p∈X.pn++pins,p.1≠b
def Inv.fpOk {X:Cx} {pins:List (Addr×Obj)} {σ:St} {H H':Hp} {s:Shared} {b:Addr} (I:Inv X pins σ H s) (hb:s.heap.objs.size<=b) (hn:H' b=none):iI X pins H' b:=by
 refine ⟨hn,Nat.ne_of_gt (Nat.lt_of_lt_of_le I.lt hb),I.nofs hb,.inr (Nat.le_trans I.sz hb),fun x c e z=>?_,fun p hp z=>?_⟩
 ·obtain ⟨v,q⟩:=I.cell x c e;exact absurd (Nat.lt_of_lt_of_le q.lt (by rw [z];exact hb)) (Nat.lt_irrefl _)
 ·exact absurd (Nat.lt_of_lt_of_le (Heap.lt_size (I.pin p hp).1) (by rw [z];exact hb)) (Nat.lt_irrefl _)
structure Turn (P:Program) (w:World) (K:Frag) (tg:Expr) (J:It) (fp:List Addr) (it:Addr) (tn:Nat->Heap->Prop):Prop where
 mem:it∈fp
 obj:∀ i h,tn i h->∀ b∈fp,∃ o,h.get? b=some o/\∀ v,o.data≠.cell v
 keep:∀ i h h',tn i h->(∀ b∈fp,∀ o,h.get? b=some o->h'.get? b=some o)->tn i h'
 item:∀ (X:Cx),X.prog=P->X.w=w->X.K=K->X.calm=true->∀ (i:Nat) (pins:List (Addr×Obj)) (s:Shared) (σ:St) (H:Hp) (E:Value->Shared->Prop),Inv X pins σ H s->(∀ b∈fp,iI X pins H b)->tn i s.heap->J.go i H ->
  wpAny (model P w) X.A (pyNext (.ref it)) (fun r s1=>∃ u,r=some u /\
   wpAny (model P w) X.A (letOwnedTupleGo tg (.ref it) u) (fun _ s2=>∃ x H',Inv X pins σ H' s2/\RelV x u/\J.yld i H x H'/\tn (i+1) s2.heap/\∀ b∈fp,H' b=none) E s1) E s
 done:∀ (X:Cx),X.prog=P->X.w=w->X.K=K->X.calm=true->∀ (i:Nat) (pins:List (Addr×Obj)) (s:Shared) (σ:St) (H:Hp) (E:Value->Shared->Prop),Inv X pins σ H s->(∀ b∈fp,iI X pins H b)->tn i s.heap->J.stop i H ->
  wpAny (model P w) X.A (pyNext (.ref it)) (fun r s1=>r=none/\Inv X pins σ H s1) E s
 self:∀ (A:Around) (i:Nat) (s:Shared) (Q:Value->Shared->Prop) (E:Value->Shared->Prop),tn i s.heap->Q (.ref it) s->wpAny (model P w) A (pyIter (.ref it)) Q E s
abbrev TI:=St->Hp->(It->Hp->Prop)->Prop
def PIE (X:Cx) (pins:List (Addr×Obj)) (σ:St) (tg:Expr) (R:It->Hp->Prop) (itv:Value) (s2:Shared):Prop :=
 ∃ (it:Addr) (fp:List Addr) (tn:Nat->Heap->Prop) (J:It) (H':Hp),itv=.ref it/\Inv X pins σ H' s2/\Turn X.prog X.w X.K tg J fp it tn/\tn 0 s2.heap/\(∀ b∈fp,iI X pins H' b)/\R J H'
def PI (X:Cx) (tg iter:Expr) (wi:TI):Prop :=
 ∀ (pins:List (Addr×Obj)) (s:Shared) (σ:St) (H:Hp) (R:It->Hp->Prop),Inv X pins σ H s->wi σ H R ->
  wpAny (model X.prog X.w) X.A (eval iter X.env) (fun v s1=>wpAny (model X.prog X.w) X.A (pyIter v) (PIE X pins σ tg R) X.xe s1) X.xe s
def aI2 {M:Model} {A:Around} {E:Value->Shared->Prop} {s:Shared} {tg:Expr} {it:Addr} {u:Value} {o:Obj} {n:String} {vs:Array Value} {Q:Unit->Shared->Prop} (ho:s.heap.get? it=some o) (hc:o.cls=.type n) (hd:o.data=.fields vs)
  (hn:["enumerate","zip","dict_itemiterator","dict_reverseitemiterator","odict_iterator","itertools.zip_longest","itertools.pairwise"].contains n=false) (hQ:Q () s):wpAny M A (letOwnedTupleGo tg (.ref it) u) Q E s:=by
 unfold letOwnedTupleGo;cases tg<;>first
  | exact wpAny_pure hQ
  | (cases u<;>first
    | exact wpAny_pure hQ
    | (refine wpAny_bind (wpAny_load ho ?_)
       rw [hc,hd];show wpAny M A (if (["enumerate","zip","dict_itemiterator","dict_reverseitemiterator","odict_iterator","itertools.zip_longest","itertools.pairwise"].contains n&&vs[0]?==some (rawInt _))=true then _ else _) Q E s;rw [if_neg (by intro h;rw [hn,Bool.false_and] at h;cases h)];exact wpAny_pure hQ))
def Itl (K:Frag) (a:Addr):It :=
 ⟨fun i H=>∃ xs x,SqL K H a xs/\xs[i]?=some x,fun i H x H'=>H'=H/\∀ xs,SqL K H a xs->xs[i]?=some x,fun i H=>∃ xs,SqL K H a xs/\xs.length<=i⟩
def Itt (K:Frag) (a:Addr):It :=
 ⟨fun i H=>∃ xs x,SqT K H a xs/\xs[i]?=some x,fun i H x H'=>H'=H/\∀ xs,SqT K H a xs->xs[i]?=some x,fun i H=>∃ xs,SqT K H a xs/\xs.length<=i⟩
def Itr (lo:Int) (n:Nat):It:=⟨fun i _=>i < n,fun i H x H'=>H'=H/\x=.int (lo+i),fun i _=>n<=i⟩
def zQ {P:Program} {w:World} {K:Frag} {tg:Expr} (a it:Addr):Turn P w K tg (Itl K a) [it] it (fun i h=>h.IsListIter it a i) where
 mem:=by simp
 obj:=fun i h st b hb=>by
  have e:b=it:=by simpa using hb
  subst e;obtain ⟨o,e,c,d⟩:=st;exact ⟨o,e,fun v z=>by rw [d] at z;cases z⟩
 keep:=fun i h h' st k=>st.at fun o e=>k it (by simp) o e
 item:=by
  intro X hP hw hK hc i pins s σ H E I hf st hg;subst hP hw hK;obtain ⟨xs,x,hq,hx⟩:=hg;obtain ⟨its,rv,p,hz⟩:=I.list hq;obtain ⟨u,hu,ru⟩:=rv.get hx;obtain ⟨f0,f1,f2,f3,f4,f5⟩:=hf it (by simp);refine wpAny_pyNext_list_item st p.isList (x:=u) (by simpa using hu) fun h' st' sb=>?_;have I1:Inv X pins σ H { s with heap:=h' }:=I.turned (t':=s.toks) (fun b o hb e=>(sb.2 b hb).trans e) f0 f1 f3 f4 f5;obtain ⟨o,e,c,d⟩:=id st';exact ⟨u,rfl,aI2 (s:={ s with heap:=h' }) e c d (by decide) ⟨x,H,I1,ru,⟨rfl,fun ys hy=>by rw [I.list_inj hy hq];exact hx⟩,st',fun b hb=>(hf b hb).1⟩⟩
 done:=by
  intro X hP hw hK hc i pins s σ H E I hf st hg;subst hP hw hK;obtain ⟨xs,hq,hx⟩:=hg;obtain ⟨its,rv,p,hz⟩:=I.list hq;obtain ⟨f0,f1,f2,f3,f4,f5⟩:=hf it (by simp);have hl:=rv.length;exact wpAny_pyNext_list_end (I.ok.hd hc) st p.isList (by simp;omega) fun h' eb=>⟨rfl,I.turned (t':=s.toks) (fun b o hb e=>eb b o hb e) f0 f1 f3 f4 f5⟩
 self:=fun _ _ _ _ _ st h=>wpAny_pyIter_listiter st h
def vH {P:Program} {w:World} {K:Frag} {tg:Expr} (a it:Addr):Turn P w K tg (Itt K a) [it] it (fun i h=>h.IsTupleIter it a i) where
 mem:=by simp
 obj:=fun i h st b hb=>by
  have e:b=it:=by simpa using hb
  subst e;obtain ⟨o,e,c,d⟩:=st;exact ⟨o,e,fun v z=>by rw [d] at z;cases z⟩
 keep:=fun i h h' st k=>st.at fun o e=>k it (by simp) o e
 item:=by
  intro X hP hw hK hc i pins s σ H E I hf st hg;subst hP hw hK;obtain ⟨xs,x,hq,hx⟩:=hg;obtain ⟨its,rv,p,hz⟩:=I.tuple hq;obtain ⟨u,hu,ru⟩:=rv.get hx;obtain ⟨f0,f1,f2,f3,f4,f5⟩:=hf it (by simp);refine wpAny_pyNext_tuple_item st (show s.heap.IsTuple a its.toArray from p) (x:=u) (by simpa using hu) fun h' st' sb=>?_;have I1:Inv X pins σ H { s with heap:=h' }:=I.turned (t':=s.toks) (fun b o hb e=>(sb.2 b hb).trans e) f0 f1 f3 f4 f5;obtain ⟨o,e,c,d⟩:=id st';exact ⟨u,rfl,aI2 (s:={ s with heap:=h' }) e c d (by decide) ⟨x,H,I1,ru,⟨rfl,fun ys hy=>by rw [I.tuple_inj hy hq];exact hx⟩,st',fun b hb=>(hf b hb).1⟩⟩
 done:=by
  intro X hP hw hK hc i pins s σ H E I hf st hg;subst hP hw hK;obtain ⟨xs,hq,hx⟩:=hg;obtain ⟨its,rv,p,hz⟩:=I.tuple hq;obtain ⟨f0,f1,f2,f3,f4,f5⟩:=hf it (by simp);have hl:=rv.length;exact wpAny_pyNext_tuple_end (I.ok.hd hc) st (show s.heap.IsTuple a its.toArray from p) (by simp;omega) fun h' eb=>⟨rfl,I.turned (t':=s.toks) (fun b o hb e=>eb b o hb e) f0 f1 f3 f4 f5⟩
 self:=fun _ _ _ _ _ st h=>wpAny_pyIter_tupleiter st h
def vI {P:Program} {w:World} {K:Frag} {tg:Expr} (it:Addr) (lo:Int) (n:Nat):Turn P w K tg (Itr lo n) [it] it (fun i h=>IsRangeIter h it (lo+(i:Nat)*1) ((n:Int) - (i:Nat)) 1) where
 mem:=by simp
 obj:=fun i h st b hb=>by
  have e:b=it:=by simpa using hb
  subst e;exact ⟨_,st,fun v z=>by
   have z':Data.fields _=Data.cell v:=z;cases z'⟩
 keep:=fun i h h' st k=>k it (by simp) _ st
 item:=by
  intro X hP hw hK hc i pins s σ H E I hf st hg;subst hP hw hK;obtain ⟨f0,f1,f2,f3,f4,f5⟩:=hf it (by simp);have W:=Walks.range (prog:=X.prog) (w:=X.w) (I.ok.hd hc) it lo 1 n;refine W.item i s _ _ hg st fun v h' tk hv st' kk=>?_;obtain ⟨t,rfl⟩:=hv;have I1:Inv X pins σ H { s with heap:=h',toks:=tk }:=I.turned (fun b o hb e=>kk b o (by simpa using hb) e) f0 f1 f3 f4 f5;refine ⟨_,rfl,aI2 (s:={ s with heap:=h',toks:=tk }) (n:="range_iterator") st' rfl rfl (by decide) ⟨.int (lo+i),H,I1,⟨t,?_⟩,⟨rfl,rfl⟩,st',fun b hb=>(hf b hb).1⟩⟩;rw [Int.mul_one]
 done:=by
  intro X hP hw hK hc i pins s σ H E I hf st hg;subst hP hw hK;obtain ⟨f0,f1,f2,f3,f4,f5⟩:=hf it (by simp);exact wpAny_pyNext_range_end (I.ok.hd hc) st (by have:n<=i:=hg;omega) fun h' eb=>⟨rfl,I.turned (t':=s.toks) (fun b o hb e=>eb b o hb e) f0 f1 f3 f4 f5⟩
 self:=fun _ _ _ _ _ st h=>wpAny_pyIter_rangeiter st h
section
variable {X:Cx} {tg:Expr}
def sL {pins:List (Addr×Obj)} {σ:St} {H:Hp} {s:Shared} {R:It->Hp->Prop} {E:Value->Shared->Prop} {lo hi:Int} {t u v:Tok} {tk:Nat} (I:Inv X pins σ H s) (h1:-(2^62)<=lo) (h2:lo < 2^62) (h3:-(2^62)<=hi) (h4:hi < 2^62)
  (q:R (Itr lo (hi - lo).toNat) H):wpAny (model X.prog X.w) X.A (pyIter (.ref s.heap.objs.size)) (PIE X pins σ tg R) E { s with heap:=s.heap.push { cls:=.type "range",data:=.fields #[.int lo t,.int hi u,.int 1 v] },toks:=tk }:=by
 refine wpAny_pyIter_range (IsRange.new ..) (small_one h1 h2 h3 h4) ?_;have I1:Inv X pins σ H { s with heap:=s.heap.push { cls:=.type "range",data:=.fields #[.int lo t,.int hi u,.int 1 v] },toks:=tk }:=I.kept fun b o e=>Heap.get?_push_of_some _ e;refine ⟨(s.heap.push { cls:=.type "range",data:=.fields #[.int lo t,.int hi u,.int 1 v] }).objs.size,[(s.heap.push { cls:=.type "range",data:=.fields #[.int lo t,.int hi u,.int 1 v] }).objs.size],_,_,H,rfl,
  I1.kept (t':=tk) fun b o e=>Heap.get?_push_of_some _ e,vI _ lo (hi - lo).toNat,?_,fun b hb=>?_,q⟩
 ·have e1:lo+((0:Nat):Int)*1=lo:=by simp
  have e2:(((hi - lo).toNat:Nat):Int) - ((0:Nat):Int)=Builtin.Range.rangeSize lo hi 1:=by rw [rangeSize_one];split<;>omega
  show IsRangeIter _ _ (lo+((0:Nat):Int)*1) ((((hi - lo).toNat:Nat):Int) - ((0:Nat):Int)) 1;rw [e1,e2];exact Heap.get?_push_size _ rfl
 ·have e:b=(s.heap.push { cls:=.type "range",data:=.fields #[.int lo t,.int hi u,.int 1 v] }).objs.size:=by simpa using hb
  subst e;exact I1.fpOk (Nat.le_refl _) (I1.hok.fresh (Nat.le_refl _))
def cN7 (ta:TA):TI:=fun σ H R=>ta σ H fun vs H1=>∃ j:Int,vs=[.int j]/\-(2^62)<=j/\j < 2^62/\R (Itr 0 j.toNat) H1
def cN8 (ta:TA):TI:=fun σ H R=>ta σ H fun vs H1=>∃ i j:Int,vs=[.int i,.int j]/\(-(2^62)<=i/\i < 2^62/\-(2^62)<=j/\j < 2^62)/\R (Itr i (j - i).toNat) H1
def zR {a:Expr} {ta:TA} {p pos:Pos} (hg:Gl X "range") (hm:X.mg "range"=none) (ha:PA X [a] ta) (hs:autoParam (starEach [a] X.env=[(false,eval a X.env)]) ZR):PI X tg (.Call (.Name "range" p) [a] [] pos) (cN7 ta):=by
 intro pins s σ H R I h;refine Call_ (eE I hg hm boot_range (PyProof.Rows.callWith_type1 (thn (ha pos pins s σ H _ I h) fun us s1 ⟨vs,H1,I1,r1,q1⟩=>?_) hs rfl));obtain ⟨j,e,q1,q2,q⟩:=q1;subst e;cases r1 with
 | cons r rr =>
  cases rr;obtain ⟨t,rfl⟩:=r;exact call_range_1 (sL I1 (by omega) (by omega) q1 q2 (by simpa using q))
def zS {a b:Expr} {ta:TA} {p pos:Pos} (hg:Gl X "range") (hm:X.mg "range"=none) (ha:PA X [a,b] ta) (hs:autoParam (starEach [a,b] X.env=[(false,eval a X.env),(false,eval b X.env)]) ZR) (hs2:autoParam (starEach [b] X.env=[(false,eval b X.env)]) ZR) :
  PI X tg (.Call (.Name "range" p) [a,b] [] pos) (cN8 ta):=by
 intro pins s σ H R I h;refine Call_ (eE I hg hm boot_range (PyProof.Rows.callWith_type1 (thn (ha pos pins s σ H _ I h) fun us s1 ⟨vs,H1,I1,r1,q1⟩=>?_) (by rw [hs,hs2]) (by rw [hs2];rfl)));obtain ⟨i,j,e,⟨q1,q2,q3,q4⟩,q⟩:=q1;subst e;cases r1 with
 | cons r rr =>
  cases rr with
  | cons r' rr =>
   cases rr;obtain ⟨t,rfl⟩:=r;obtain ⟨t',rfl⟩:=r';exact call_range_2 (sL I1 q1 q2 q3 q4 q)
def dF1 (wi:TI) (g:TG) (tb:TS):TS:=fun D σ H=>wi σ H fun J H1=>∃ W:Nat->Nat->St->Hp->Prop,(∃ m,W 0 m σ H1)/\∀ i m σ H,W i m σ H ->
 (J.stop i H/\D.nx σ H)\/(J.go i H/\∃ N:St->Hp->Prop,(∀ σ' H',N σ' H'->∃ m',m' < m/\W (i+1) m' σ' H')/\∀ x H',J.yld i H x H'->g x σ H' fun σ2 H2=>tb { D with nx:=N,ct:=N,bk:=D.nx } σ2 H2)
noncomputable def lR (fp:List Addr) (h:Heap):List (Addr×Obj):=fp.filterMap fun b=>(h.get? b).map fun o=>(b,o)
def fN {fp:List Addr} {h:Heap} {b:Addr} {o:Obj} (hb:b∈fp) (e:h.get? b=some o):(b,o)∈lR fp h:=List.mem_filterMap.mpr ⟨b,hb,by rw [e];rfl⟩
def zT {fp:List Addr} {h:Heap} {p:Addr×Obj} (hp:p∈lR fp h):p.1∈fp/\h.get? p.1=some p.2:=by
 obtain ⟨b,hb,e⟩:=List.mem_filterMap.mp hp;cases q:h.get? b with
 | none=>rw [q] at e;cases e
 | some o =>
  rw [q] at e;have e':(b,o)=p:=Option.some.inj e;subst e';exact ⟨hb,q⟩
def Inv.pinned {pins:List (Addr×Obj)} {σ:St} {H:Hp} {s:Shared} {fp:List Addr} (I:Inv X pins σ H s) (hf:∀ b∈fp,iI X pins H b) (ho:∀ b∈fp,∃ o,s.heap.get? b=some o/\∀ v,o.data≠.cell v):Inv X (pins++lR fp s.heap) σ H s :=
 I.pins_of fun p hp=>(List.mem_append.mp hp).elim (fun z=>I.pin p (List.mem_append_right _ z)) fun z=>by
  obtain ⟨hb,e⟩:=zT z;obtain ⟨f0,f1,f2,_⟩:=hf p.1 hb;obtain ⟨o,e',d⟩:=ho p.1 hb;rw [e] at e';cases e';exact ⟨e,f0,f1,f2,d⟩
def Inv.unpinned {pins pl:List (Addr×Obj)} {σ:St} {H:Hp} {s:Shared} (I:Inv X (pins++pl) σ H s):Inv X pins σ H s:=I.pins_of fun p hp=>I.pin p (List.mem_append_right _ (List.mem_append_left _ hp))
def bS9 {iter:Expr} {body:List Stmt} {wi:TI} {g:TG} {tb:TS} {pos:Pos} (hp:PassesOwn (model X.prog X.w) X.A X.env X.xe) (hc:X.calm=true) (hi:PI X tg iter wi) (hg:PG X tg g) (hb:PSs X body tb)
  (hs:autoParam (∀ x,foldedSetIterable iter X.env x=pure x) ZI):PS X (.For tg iter body [] pos) (dF1 wi g tb):=by
 intro pins s σ H D I h;refine wpAny_For (thn (hi pins s σ H _ I h) fun v s1 h1=>thn h1 fun itv s2 h2=>?_) hs;obtain ⟨it,fp,tn,J,H2,e,I2,T,st2,f2,W,⟨m0,w0⟩,turn⟩:=h2;subst e;have stat:∀ {H':Hp},(∀ b∈fp,H' b=none)->∀ b∈fp,iI X pins H' b:=fun hn b hb=>⟨hn b hb,(f2 b hb).2⟩;refine codeAny_forLoop_any (fun n s'=>∃ i σ' H',Inv X pins σ' H' s'/\tn i s'.heap/\(∀ b∈fp,H' b=none)/\W i n σ' H') ?_ m0 ⟨0,σ,H2,I2,st2,fun b hb=>(f2 b hb).1,w0⟩;rintro n s3 ⟨i,σ3,H3,I3,st3,fr3,w3⟩;rcases turn i n σ3 H3 w3 with ⟨stop,qn⟩ | ⟨go,N,hN,step⟩
 ·refine wpAny_passesOwn hp (thn (T.done X rfl rfl rfl hc i pins s3 σ3 H3 X.xe I3 (stat fr3) st3 stop) fun r s4 ⟨hr,I4⟩=>?_);subst hr;exact wpAny_execs_nil ⟨σ3,H3,I4,qn⟩
 ·refine wpAny_passesOwn hp (thn (T.item X rfl rfl rfl hc i pins s3 σ3 H3 X.xe I3 (stat fr3) st3 go) fun r s4 ⟨u,hr,h4⟩=>?_);subst hr;refine wpAny_passesOwn hp (thn h4 fun _ s5 ⟨x,H5,I5,r5,y5,st5,fr5⟩=>?_);have I5':=I5.pinned (stat fr5) (T.obj _ _ st5);refine wpAny_passesOwn hp (thn (hg _ s5 σ3 H5 x u _ I5' r5 (step x H5 y5)) fun _ s6 ⟨σ6,H6,I6,q6⟩=>?_);refine wpAny_passesOwn hp (thn (hb _ s6 σ6 H6 _ I6 q6) fun f s7 q7=>?_);have again:∀ {σ7:St} {H7:Hp},Inv X (pins++lR fp s5.heap) σ7 H7 s7->N σ7 H7->∃ m,m < n/\∃ i σ' H',Inv X pins σ' H' s7/\tn i s7.heap/\(∀ b∈fp,H' b=none)/\W i m σ' H':=fun {σ7 H7} I7 n7=>by
   obtain ⟨m',hm,w7⟩:=hN σ7 H7 n7;refine ⟨m',hm,i+1,σ7,H7,I7.unpinned,T.keep _ _ _ st5 fun b hb o e=>(I7.pin (b,o) (List.mem_append_right _ (List.mem_append_right _ (fN hb e)))).1,fun b hb=>?_,w7⟩;obtain ⟨o,e,d⟩:=T.obj _ _ st5 b hb;exact (I7.pin (b,o) (List.mem_append_right _ (List.mem_append_right _ (fN hb e)))).2.1
  cases f with
  | next=>obtain ⟨σ7,H7,I7,n7⟩:=q7;exact again I7 n7
  | cont=>obtain ⟨σ7,H7,I7,n7⟩:=q7;exact again I7 n7
  | brk=>obtain ⟨σ7,H7,I7,q7⟩:=q7;exact ⟨σ7,H7,I7.unpinned,q7⟩
  | ret v=>obtain ⟨x7,σ7,H7,I7,r7,q7⟩:=q7;exact ⟨x7,σ7,H7,I7.unpinned,r7,q7⟩
end
abbrev R2:=V->V->Hp->VK->Prop
def OpR (X:Cx) (f:Value->Value->Sem Value) (r:R2):Prop :=
 ∀ (pins:List (Addr×Obj)) (s:Shared) (σ:St) (H:Hp) (x y:V) (v u:Value) (Q:VK),Inv X pins σ H s->RelV x v->RelV y u->r x y H Q ->
  wpAny (model X.prog X.w) X.A (f v u) (EP X pins σ Q) X.xe s
def UnR (X:Cx) (f:Value->Sem Value) (r:V->Hp->VK->Prop):Prop :=
 ∀ (pins:List (Addr×Obj)) (s:Shared) (σ:St) (H:Hp) (x:V) (v:Value) (Q:VK),Inv X pins σ H s->RelV x v->r x H Q ->
  wpAny (model X.prog X.w) X.A (f v) (EP X pins σ Q) X.xe s
def cQ (X:Cx) (f:Value) (r:List V->Hp->VK->Prop):Prop :=
 ∀ (pins:List (Addr×Obj)) (s:Shared) (σ:St) (H:Hp) (xs:List V) (us:List Value) (Q:VK),Inv X pins σ H s->Vals xs us->r xs H Q ->
  wpAny (model X.prog X.w) X.A (call f us) (EP X pins σ Q) X.xe s
def tOp (r:R2) (ta tb:TE):TE:=fun σ H Q=>ta σ H fun x H1=>tb σ H1 fun y H2=>r x y H2 Q
def tUn (r:V->Hp->VK->Prop) (ta:TE):TE:=fun σ H Q=>ta σ H fun x H1=>r x H1 Q
noncomputable def rI (C:Int->Int->Prop) (g:Int->Int->V):R2:=fun x y H Q=>∃ i j,x=.int i/\y=.int j/\C i j/\Q (g i j) H
noncomputable def rI0 (g:Int->Int->V):R2:=fun x y H Q=>∃ i j,x=.int i/\y=.int j/\Q (g i j) H
noncomputable def rU (g:Int->V):V->Hp->VK->Prop:=fun x H Q=>∃ i,x=.int i/\Q (g i) H
section
variable {X:Cx} {a b c:Expr} {ta tb tc:TE} {pos:Pos}
def bT0 (ha:PE X a ta) (hb:PE X b tb) {pins:List (Addr×Obj)} {s:Shared} {σ:St} {H:Hp} {R:V->V->Hp->Prop} (I:Inv X pins σ H s)
  (h:ta σ H fun x H1=>tb σ H1 fun y H2=>R x y H2) {Q:Value->Shared->Prop} {f:Value->Value->Sem Value}
  (hf:∀ v u s2 x y H2,Inv X pins σ H2 s2->RelV x v->RelV y u->R x y H2->wpAny (model X.prog X.w) X.A (f v u) Q X.xe s2) :
  wpAny (model X.prog X.w) X.A (eval a X.env) (fun v s₁=>wpAny (model X.prog X.w) X.A (eval b X.env) (fun u s₂=>wpAny (model X.prog X.w) X.A (f v u) Q X.xe s₂) X.xe s₁) X.xe s:=by
 refine thn (ha pins s σ H _ I h) fun v s1 ⟨x,H1,I1,r1,q1⟩=>?_;refine thn (hb pins s1 σ H1 _ I1 q1) fun u s2 ⟨y,H2,I2,r2,q2⟩=>?_;exact hf v u s2 x y H2 I2 r1 r2 q2
def aI3 {op:Operator} {r:R2} (ho:OpR X (binaryOp op) r) (ha:PE X a ta) (hb:PE X b tb):PE X (.BinOp a op b pos) (tOp r ta tb):=by
 intro pins s σ H Q I h;exact wpAny_BinOp (bT0 ha hb I h fun v u s2 x y H2 I2 rx ry q=>ho pins s2 σ H2 x y v u Q I2 rx ry q)
def cN9 {op:UnaryOp} {r:V->Hp->VK->Prop} (ho:UnR X (unaryOp op) r) (ha:PE X a ta):PE X (.UnaryOp op a pos) (tUn r ta):=by
 intro pins s σ H Q I h;exact UnaryOp_ (thn (ha pins s σ H _ I h) fun v s1 ⟨x,H1,I1,r1,q1⟩=>ho pins s1 σ H1 x v Q I1 r1 q1)
def opI {f:Value->Value->Sem Value} {C:Int->Int->Prop} {g:Int->Int->Int}
  (rule:∀ (i j:Int) (t u:Tok) (s:Shared) (Q:Value->Shared->Prop) (E:Value->Shared->Prop),C i j->Q (.int (g i j) s.toks) { s with toks:=s.toks+1 }->wpAny (model X.prog X.w) X.A (f (.int i t) (.int j u)) Q E s) :
  OpR X f (rI C fun i j=>.int (g i j)):=by
 intro pins s σ H x y v u Q I rx ry h;obtain ⟨i,j,rfl,rfl,hc,q⟩:=h;obtain ⟨t,rfl⟩:=rx;obtain ⟨t',rfl⟩:=ry;exact rule i j t t' s _ _ hc ⟨.int (g i j),H,I.tok _,⟨_,rfl⟩,q⟩
def bT1 {f:Value->Value->Sem Value} {g:Int->Int->Int}
  (rule:∀ (i j:Int) (t u:Tok) (s:Shared) (Q:Value->Shared->Prop) (E:Value->Shared->Prop),Q (.int (g i j) s.toks) { s with toks:=s.toks+1 }->wpAny (model X.prog X.w) X.A (f (.int i t) (.int j u)) Q E s) :
  OpR X f (rI0 fun i j=>.int (g i j)):=by
 intro pins s σ H x y v u Q I rx ry h;obtain ⟨i,j,rfl,rfl,q⟩:=h;obtain ⟨t,rfl⟩:=rx;obtain ⟨t',rfl⟩:=ry;exact rule i j t t' s _ _ ⟨.int (g i j),H,I.tok _,⟨_,rfl⟩,q⟩
def aX4 {f:Value->Value->Sem Value} {g:Int->Int->Bool}
  (rule:∀ (i j:Int) (t u:Tok) (s:Shared) (Q:Value->Shared->Prop) (E:Value->Shared->Prop),Q (.bool (g i j)) s->wpAny (model X.prog X.w) X.A (f (.int i t) (.int j u)) Q E s) :
  OpR X f (rI0 fun i j=>.bl (g i j)):=by
 intro pins s σ H x y v u Q I rx ry h;obtain ⟨i,j,rfl,rfl,q⟩:=h;obtain ⟨t,rfl⟩:=rx;obtain ⟨t',rfl⟩:=ry;exact rule i j t t' s _ _ ⟨.bl (g i j),H,I,rfl,q⟩
def aX5 (i j:Int):Prop:=0<=j/\j<=1000000/\i.natAbs < 2^64
def CMul (i j:Int):Prop:=(-(2^64) < i/\i < 2^64)\/(-(2^64) < j/\j < 2^64)
def CMul.ok {i j:Int} (h:CMul i j):IntMulOk i j:=by
 rcases h with ⟨h1,h2⟩ | ⟨h1,h2⟩
 ·exact .of_left (intBits_le_64 h1 h2)
 ·exact .of_right (intBits_le_64 h1 h2)
def vJ (k:Nat):(0:Int)<=2^k:=by
 rw [two_pow_cast];exact Int.natCast_nonneg _
def bT2:OpR X (binaryOp .Add) (rI0 fun i j=>.int (i+j)):=bT1 fun _ _ _ _ _ _ _ q=>add_int q
def bT3:OpR X (binaryOp .Sub) (rI0 fun i j=>.int (i - j)):=bT1 fun _ _ _ _ _ _ _ q=>sub_int q
def bT4:OpR X (binaryOp .Mult) (rI CMul fun i j=>.int (i*j)):=opI fun _ _ _ _ _ _ _ hc q=>mul_int q hc.ok
def bT5:OpR X (binaryOp .Mod) (rI (fun _ j=>0 < j) fun i j=>.int (i%j)):=opI fun i j _ _ _ _ _ hc q=>by
 have h1:(0:Int) < j:=hc;exact mod_int' (by omega) (by rw [Int.fmod_eq_emod_of_nonneg i (by omega)];exact q)
def bT6:OpR X (binaryOp .Pow) (rI aX5 fun i j=>.int (i^j.toNat)):=opI fun _ _ _ _ _ _ _ hc q=>pow_int_small hc.1 hc.2.1 hc.2.2 q
def bT7:OpR X (binaryOp .RShift) (rI (fun _ j=>0<=j) fun i j=>.int (i / 2^j.toNat)):=opI fun i j _ _ _ _ _ hc q =>
 rshift_int hc (by rw [Int.fdiv_eq_ediv_of_nonneg i (vJ _)];exact q)
def bT8:OpR X (binaryOp .BitAnd) (rI0 fun i j=>.int (Builtin.bitAnd i j)):=bT1 fun _ _ _ _ _ _ _ q=>and_int q
def unI {f:Value->Sem Value} {g:Int->Int}
  (rule:∀ (i:Int) (t:Tok) (s:Shared) (Q:Value->Shared->Prop) (E:Value->Shared->Prop),Q (.int (g i) s.toks) { s with toks:=s.toks+1 }->wpAny (model X.prog X.w) X.A (f (.int i t)) Q E s) :
  UnR X f (rU fun i=>.int (g i)):=by
 intro pins s σ H x v Q I rx h;obtain ⟨i,rfl,q⟩:=h;obtain ⟨t,rfl⟩:=rx;exact rule i t s _ _ ⟨.int (g i),H,I.tok _,⟨_,rfl⟩,q⟩
def bT9:UnR X (unaryOp .USub) (rU fun i=>.int (-i)):=unI fun _ _ _ _ _ q=>neg_int q
end
section
variable {X:Cx} {a b c:Expr} {ta tb tc:TE} {pos:Pos}
def cO0:OpR X (compareOp .Lt) (rI0 fun i j=>.bl (decide (i < j))):=aX4 fun _ _ _ _ _ _ _ q=>lt_int q
def cO1:OpR X (compareOp .LtE) (rI0 fun i j=>.bl (decide (i<=j))):=aX4 fun _ _ _ _ _ _ _ q=>le_int q
def cO2:OpR X (compareOp .Gt) (rI0 fun i j=>.bl (decide (j < i))):=aX4 fun _ _ _ _ _ _ _ q=>gt_int q
def cO3:OpR X (compareOp .GtE) (rI0 fun i j=>.bl (decide (j<=i))):=aX4 fun _ _ _ _ _ _ _ q=>ge_int q
def xL {op:CmpOp} {r:R2} (ho:OpR X (compareOp op) r) (ha:PE X a ta) (hb:PE X b tb) (hm:behindInMarks op b=false):PE X (.Compare a [op] [b] pos) (tOp r ta tb):=by
 intro pins s σ H Q I h;exact wpAny_Compare1 (bT0 ha hb I h fun v u s2 x y H2 I2 rx ry q=>ho pins s2 σ H2 x y v u Q I2 rx ry q) hm
def bK7 (t:TE):TT:=fun σ H Q=>t σ H fun x H'=>∃ k,x=.bl k/\Q k H'
def xM {op:CmpOp} {r:R2} (ho:OpR X (compareOp op) r) (ha:PE X a ta) (hb:PE X b tb) (hm:behindInMarks op b=false):PT X (.Compare a [op] [b] pos) (bK7 (tOp r ta tb)):=by
 intro pins s σ H Q I h;refine wpAny_isTrue_Compare1 (thn (ha pins s σ H _ I h) fun v s1 ⟨x,H1,I1,r1,q1⟩=>thn (hb pins s1 σ H1 _ I1 q1) fun u s2 ⟨y,H2,I2,r2,q2⟩ =>
  thn (ho pins s2 σ H2 x y v u _ I2 r1 r2 q2) fun c s3 ⟨z,H3,I3,r3,k,e,q3⟩=>?_) hm
 subst e;cases r3;exact wpAny_truthy_bool ⟨H3,I3,q3⟩
def vK (r r':R2) (ta tb tc:TE):TE:=fun σ H Q=>ta σ H fun x H1=>tb σ H1 fun y H2=>r x y H2 fun z H3=>∃ k,z=.bl k /\
 (if k=true then tc σ H3 fun w' H4=>r' y w' H4 Q else Q (.bl false) H3)
def aI4 {op op':CmpOp} {r r':R2} (ho:OpR X (compareOp op) r) (ho':OpR X (compareOp op') r') (ha:PE X a ta) (hb:PE X b tb) (hc:PE X c tc)
  (hm:autoParam (lastMarks [op,op'] [b,c]=false) ZW):PE X (.Compare a [op,op'] [b,c] pos) (vK r r' ta tb tc):=by
 intro pins s σ H Q I h;refine Compare_chain (thn (ha pins s σ H _ I h) fun v s1 ⟨x,H1,I1,r1,q1⟩=>chain_link (thn (hb pins s1 σ H1 _ I1 q1) fun u s2 ⟨y,H2,I2,r2,q2⟩ =>
  thn (ho pins s2 σ H2 x y v u _ I2 r1 r2 q2) fun d s3 ⟨z,H3,I3,r3,k,e,q3⟩=>?_)) hm
 subst e;cases r3;refine wpAny_truthy_bool ?_;cases k with
 | false=>exact ite_ff ⟨.bl false,H3,I3,rfl,q3⟩
 | true=>exact ite_tt (chain_last (thn (hc pins s3 σ H3 _ I3 q3) fun w' s4 ⟨z',H4,I4,r4,q4⟩=>ho' pins s4 σ H4 y z' u w' Q I4 r2 r4 q4))
def aI5 {op op':CmpOp} {r r':R2} (ho:OpR X (compareOp op) r) (ho':OpR X (compareOp op') r') (ha:PE X a ta) (hb:PE X b tb) (hc:PE X c tc)
  (hm:autoParam (lastMarks [op,op'] [b,c]=false) ZW):PT X (.Compare a [op,op'] [b,c] pos) (bK7 (vK r r' ta tb tc)):=by
 intro pins s σ H Q I h;refine isTrue_chain (thn (ha pins s σ H _ I h) fun v s1 ⟨x,H1,I1,r1,q1⟩=>test_link (thn (hb pins s1 σ H1 _ I1 q1) fun u s2 ⟨y,H2,I2,r2,q2⟩ =>
  thn (ho pins s2 σ H2 x y v u _ I2 r1 r2 q2) fun d s3 ⟨z,H3,I3,r3,k,e,q3⟩=>?_)) hm
 subst e;cases r3;refine wpAny_truthy_bool ?_;cases k with
 | false =>
  obtain ⟨k',e',q'⟩:=q3;cases e';exact ite_ff ⟨H3,I3,q'⟩
 | true =>
  refine ite_tt (test_last (thn (hc pins s3 σ H3 _ I3 q3) fun w' s4 ⟨z',H4,I4,r4,q4⟩=>thn (ho' pins s4 σ H4 y z' u w' _ I4 r2 r4 q4) fun d' s5 ⟨z2,H5,I5,r5,k2,e2,q5⟩=>?_));subst e2;cases r5;exact wpAny_truthy_bool ⟨H5,I5,q5⟩
def qF:(sizeLine:Nat) < 2^63:=by rw [sizeLine_eq];decide
def kE {x:V} {us:List Value} (r:Vals [x] us):∃ u,us=[u]/\RelV x u:=by
 cases r with
 | cons r1 r2=>cases r2;exact ⟨_,rfl,r1⟩
end
structure ObjM (h:Heap) (x dx C:Addr) (mA:Str->Option Value):Prop where
 obj:h.get? x=some (PySem.W.instObj C dx)
 ns:h.Ns1 dx mA
 ne:dx≠x
def zU {h:Heap} {dx:Addr} {mA:Str->Option Value} (n:h.Ns1 dx mA):∃ od,h.get? dx=some od/\∀ name,PySem.W.lookIn name od=some (mA name):=by
 obtain ⟨o,es,ep,ho,hd,hk,_,hm⟩:=n;refine ⟨o,ho,fun name=>?_⟩;have e:=hm name;unfold nsFind findBy at e;rw [<- Array.find?_toList] at e;unfold PySem.W.lookIn;rw [hd];dsimp only;split
 ·rename_i y q;rw [q] at e;exact congrArg some e
 ·rename_i q;rw [q] at e;have a:es.toList.any (·.refKey)=false:=by
   rw [List.any_eq_false];intro y hy;obtain ⟨z,t,hkey⟩:=hk y (Array.mem_toList_iff.mp hy);simp [DictEntry.refKey,hkey]
  have a':¬ es.toList.any (·.refKey)=true:=by rw [a];exact Bool.false_ne_true
  rw [if_neg a'];exact congrArg some e
def ObjM.look {h:Heap} {x dx C:Addr} {mA:Str->Option Value} (I:ObjM h x dx C mA):∃ od,PySem.W.InstAt h x (PySem.W.instObj C dx) C (some od)/\∀ name,PySem.W.lookIn name od=some (mA name) :=
 let ⟨od,ho,hl⟩:=zU I.ns
 ⟨od,⟨I.obj,rfl,rfl,ho⟩,hl⟩
section
variable {prog:Program} {w:World} {A:Around} {E:Value->Shared->Prop} {s:Shared} {K:Frag} {x dx C f:Addr} {mA:Str->Option Value} {name:Str} {v:Value}
def aX6 {expr:Bool} {Q:Value->Shared->Prop} (X:K.In s.heap) (I:ObjM s.heap x dx C mA) (hg:PySem.W.plainGet K C name=true) (hh:PySem.W.hasDictIn K C=true)
  (ha:PySem.W.findIn K (.ref C) name=some none) (hv:mA name=some v) (hv':PySem.W.handedIn v=true) (h:Q v { s with toks:=s.toks+1 }) :
  wpAny (model prog w) A (getAttr (.ref x) name expr) Q E s:=by
 obtain ⟨od,J,hl⟩:=I.look;exact PySem.W.get_value X J (PySem.W.plainGet_of hg).1 (PySem.W.findObj_own hh ha rfl (by rw [hl,hv])) hv' h
def aI6 {pl:Sem Bool} {Q:Value×List Value->Shared->Prop} (X:K.In s.heap) (I:ObjM s.heap x dx C mA) (hg:PySem.W.plainGet K C name=true)
  (hf:PySem.W.findIn K (.ref C) name=some (some (.ref f))) (ht:PySem.W.isFn K (.ref f)=true) (hv:mA name=none) (h:Q (.ref f,[.ref x]) s) :
  wpAny (model prog w) A (getMethod (.ref x) name pl) Q E s:=by
 obtain ⟨od,J,hl⟩:=I.look;exact PySem.W.method_fn X J (PySem.W.plainGet_of hg).1 (PySem.W.plainGet_of hg).2 hf (beq_iff_eq.mp ht) (by show (PySem.W.lookIn name od).map (·.isSome)=some false;rw [hl,hv];rfl) h
def aX7 {ns:List Str} {Q:Unit->Shared->Prop} (X:K.In s.heap) (I:ObjM s.heap x dx C mA)
  (hs:PySem.W.findIn K (.ref C) "__setattr__"=some (some (.builtin "object.__setattr__"))) (hp:PySem.W.plainOver K C=true) (ht:PySem.W.takerIn K C name=some none) (hh:PySem.W.hasDictIn K C=true)
  (hw:PySem.Within mA ns) (hsz:ns.length<=sizeLine)
  (h:∀ h',ObjM h' x dx C (fun y=>if y=name then some v else mA y)->Heap.SameBut dx s.heap h'->Q () { s with heap:=h',toks:=s.toks+2 }) :
  wpAny (model prog w) A (setAttr (.ref x) name v) Q E s:=by
 obtain ⟨od,J,hl⟩:=I.look;refine PySem.W.set_plain X J hs (PySem.W.osa_open (s:={ s with toks:=s.toks+1 }) (r:=none) X J hp ht fun b=>?_);obtain ⟨cd,hc,hd'⟩:=PySem.W.any_some hh;have hx:s.heap.get? x=some ⟨.ref C,some dx,.plain,#[]⟩:=I.obj;refine wpAny_bind (wpAny_pure (wpAny_bind (wpAny_bind (wpAny_loadPart hx (wpAny_bind (PySem.W.Looks.here (s:={ s with toks:=s.toks+1 }) (PySem.W.looks_clsIn X hc) ?_))))));rw [hd'];refine wpAny_pure (a:=some dx) (wpAny_bind (wpAny_pure (wpAny_bind ?_)));refine wpAny_nsSet1 (s:={ s with toks:=s.toks+1 }) I.ns fun h' hn2 hs2=>?_;obtain ⟨oD,esD,epD,hoD,hdD,hcD⟩:=hn2.count (PySem.Within.cons name v hw);refine wpAny_bind (wpAny_lookBehind hoD (by rw [hdD];exact pastItsLine_dict (Nat.le_trans hcD (by rw [List.length_cons];omega))) ?_);exact wpAny_pure (h _ ⟨(hs2.2 _ (Ne.symm I.ne)).trans I.obj,hn2,I.ne⟩ hs2)
def aI7 {R:Result->Shared->Prop} {vs:List Value} {kw:List (Str×Value)} (X:K.In s.heap) (hm:PySem.W.makesIn K C=true)
  (hi:PySem.W.findIn K (.ref C) "__init__"=some (some (.ref f))) (hf:PySem.W.typeIn K (.ref f)=some (.type "function"))
  (h:codeAny (model prog w) (A.under (.builtin "type.__call__" ⟨.ref C::vs,kw⟩)) (.call (.ref f) ⟨.ref (s.heap.objs.size+1)::vs,kw⟩) (PySem.W.InitBack (s.heap.objs.size+1) R)
   { s with heap:=(s.heap.push PySem.W.emptyDict).push (PySem.W.instObj C s.heap.objs.size) }) :
  codeAny (model prog w) A (.call (.ref C) ⟨vs,kw⟩) R s:=by
 obtain ⟨hh,g,d,t,os⟩:=s;exact PySem.W.make_core (PySem.W.makes_of X hm) (PySem.W.looks_findIn X hi) (fun self=>PySem.W.bind_fn X self hf) (.inl rfl) h
end
noncomputable def gI (f:Str) (v:V):List (Str×V)->List (Str×V)
 | []=>[(f,v)]
 | (g,x)::r=>if g=f then (g,v)::r else (g,x)::gI f v r
theorem kF (f g:Str) (v:V):∀ fs:List (Str×V),(gI f v fs).lookup g=if g=f then some v else fs.lookup g
 | []=>by
  show List.lookup g [(f,v)]=_
  by_cases h:g=f
  ·have hb:(g==f)=true:=beq_iff_eq.mpr h;simp only [List.lookup,hb,if_pos h]
  ·have hb:(g==f)=false:=beq_eq_false_iff_ne.mpr h;simp only [List.lookup,hb,if_neg h]
 | (k,x)::r=>by
  have ih:=kF f g v r;rw [show gI f v ((k,x)::r)=(if k=f then (k,v)::r else (k,x)::gI f v r) from rfl]
  by_cases hk:k=f
  ·rw [if_pos hk]
   by_cases h:g=k
   ·have hb:(g==k)=true:=beq_iff_eq.mpr h;simp only [List.lookup,hb,if_pos (h.trans hk)]
   ·have hb:(g==k)=false:=beq_eq_false_iff_ne.mpr h;simp only [List.lookup,hb,if_neg (fun e:g=f=>h (e.trans hk.symm))]
  ·rw [if_neg hk]
   by_cases h:g=k
   ·have hb:(g==k)=true:=beq_iff_eq.mpr h;simp only [List.lookup,hb,if_neg (fun e:g=f=>hk (h.symm.trans e))]
   ·have hb:(g==k)=false:=beq_eq_false_iff_ne.mpr h;simp only [List.lookup,hb];exact ih
theorem jP (f:Str) (v:V):∀ fs:List (Str×V),f∈(gI f v fs).map (·.1)/\∀ g,g∈fs.map (·.1)->g∈(gI f v fs).map (·.1)
 | []=>⟨by simp [gI],fun g h=>by simp at h⟩
 | (k,x)::r=>by
  obtain ⟨i1,i2⟩:=jP f v r;rw [show gI f v ((k,x)::r)=(if k=f then (k,v)::r else (k,x)::gI f v r) from rfl]
  by_cases hk:k=f
  ·rw [if_pos hk];subst hk;exact ⟨by simp,fun g h=>by simpa using h⟩
  ·rw [if_neg hk];refine ⟨?_,fun g h=>?_⟩
   ·rw [List.map_cons];exact List.mem_cons_of_mem _ i1
   ·rw [List.map_cons] at h ⊢;rcases List.mem_cons.mp h with e | e
    ·exact List.mem_cons.mpr (.inl e)
    ·exact List.mem_cons_of_mem _ (i2 g e)
theorem kG (f:Str) (v:V):∀ fs:List (Str×V),(gI f v fs).length<=fs.length+1
 | []=>by simp [gI]
 | (k,x)::r=>by
  have ih:=kG f v r;rw [show gI f v ((k,x)::r)=(if k=f then (k,v)::r else (k,x)::gI f v r) from rfl]
  by_cases hk:k=f
  ·rw [if_pos hk,List.length_cons,List.length_cons];omega
  ·rw [if_neg hk,List.length_cons,List.length_cons];omega
def RelO.some_of {v:V} {o:Option Value} (r:RelO (some v) o):∃ u,o=some u/\RelV v u:=by
 cases o with
 | none=>exact (show False from r).elim
 | some u=>exact ⟨u,rfl,r⟩
def RelO.none_of {o:Option Value} (r:RelO none o):o=none:=by
 cases o with
 | none=>rfl
 | some u=>exact (show False from r).elim
def zV {v:V} {u:Value} (r:RelV v u):PySem.W.handedIn u=true:=by
 cases v with
 | non=>cases (show u=Value.none from r);rfl
 | bl b=>cases (show u=Value.bool b from r);rfl
 | int i=>obtain ⟨t,e⟩:=(show ∃ t,u=Value.int i t from r);cases e;rfl
 | str x=>obtain ⟨t,e⟩:=(show ∃ t,u=Value.str x t from r);cases e;rfl
 | byt b=>obtain ⟨t,e⟩:=(show ∃ t,u=Value.bytes b t from r);cases e;rfl
 | flt b=>obtain ⟨t,e⟩:=(show ∃ t,u=Value.float b t from r);cases e;rfl
 | ref a=>cases (show u=Value.ref a from r);rfl
 | ty n=>cases (show u=Value.type n from r);rfl
section
variable {P:Program} {w:World} {H H':Hp} {h h':Heap} {a C dx:Addr} {fs fs':List (Str×V)}
def qG (hok:HOk P w H h) (e:H a=some (.ins C dx fs)):∃ mA,ObjM h a dx C mA/\(∀ f,RelO (fs.lookup f) (mA f))/\PySem.Within mA (fs.map (·.1))/\fs.length<=1000/\H dx=some (.own a):=by
 obtain ⟨d,z,ne,ob,mA,n,r,q⟩:=(show ObjOk P w H h a (.ins C dx fs) from hok a _ e);exact ⟨mA,⟨ob,n,ne⟩,r,q,z,d⟩
end
structure Cls (K:Frag) (C:Addr):Prop where
 pg:PySem.W.plainGet K C Str.empty=true
 hd:PySem.W.hasDictIn K C=true
 po:PySem.W.plainOver K C=true
 sa:PySem.W.findIn K (.ref C) "__setattr__"=some (some (.builtin "object.__setattr__"))
def Cls.get {K:Frag} {C:Addr} (c:Cls K C) (f:Str):PySem.W.plainGet K C f=true:=c.pg
def NoAttr (K:Frag) (C:Addr) (f:Str):Prop:=PySem.W.findIn K (.ref C) f=some none
def NoAttr.taker {K:Frag} {C:Addr} {f:Str} (n:NoAttr K C f):PySem.W.takerIn K C f=some none:=by
 unfold PySem.W.takerIn;rw [show PySem.W.findIn K (.ref C) f=some none from n];rfl
structure Meth (K:Frag) (C:Addr) (m:Str) (f:Addr):Prop where
 at_:PySem.W.findIn K (.ref C) m=some (some (.ref f))
 fn:PySem.W.isFn K (.ref f)=true
 kp:PySem.W.keepIn K (.ref f)=true
section
variable {X:Cx} {pins:List (Addr×Obj)} {σ:St} {H:Hp} {s:Shared} {a C dx:Addr} {fs:List (Str×V)} {f:Str} {v:V} {A:Around} {E:Value->Shared->Prop}
def vL {b:Bool} {Q:Value->Shared->Prop} (I:Inv X pins σ H s) (e:H a=some (.ins C dx fs)) (c:Cls X.K C) (n:NoAttr X.K C f) (l:fs.lookup f=some v)
  (h:∀ u s',Inv X pins σ H s'->RelV v u->Q u s'):wpAny (model X.prog X.w) A (getAttr (.ref a) f b) Q E s:=by
 obtain ⟨mA,O,r,_,_,_⟩:=qG I.hok e;obtain ⟨u,hu,ru⟩:=RelO.some_of (v:=v) (o:=mA f) (by rw [<- l];exact r f);exact aX6 I.kIn O (c.get f) c.hd n hu (zV ru) (h u _ (I.tok _) ru)
def vM {m:Str} {g:Addr} {pl:Sem Bool} {Q:Value×List Value->Shared->Prop} (I:Inv X pins σ H s) (e:H a=some (.ins C dx fs)) (c:Cls X.K C) (k:Meth X.K C m g) (l:fs.lookup m=none)
  (h:Q (.ref g,[.ref a]) s):wpAny (model X.prog X.w) A (getMethod (.ref a) m pl) Q E s:=by
 obtain ⟨mA,O,r,_,_,_⟩:=qG I.hok e;have hn:mA m=none:=RelO.none_of (by rw [<- l];exact r m);exact aI6 I.kIn O (c.get m) k.at_ k.fn hn h
def vN {y:V} {u:Value} {Q:Unit->Shared->Prop} (I:Inv X pins σ H s) (e:H a=some (.ins C dx fs)) (c:Cls X.K C) (n:NoAttr X.K C f) (hl:fs.length < 1000) (ry:RelV y u)
  (h:∀ s',Inv X pins σ (upd H a (.ins C dx (gI f y fs))) s'->Q () s'):wpAny (model X.prog X.w) A (setAttr (.ref a) f u) Q E s:=by
 obtain ⟨mA,O,r,wi,_,ho⟩:=qG I.hok e;have hz:(fs.map (·.1)).length<=sizeLine:=by rw [List.length_map,sizeLine_eq];omega
 refine aX7 I.kIn O c.sa c.po n.taker c.hd wi hz fun h' O' sb=>h _ ?_;have hd:∃ o,h'.get? dx=some o:=let ⟨o,_,_,e',_⟩:=O'.ns;⟨o,e'⟩
 refine I.write (x:=a) (e:=dx) (by rw [e];exact True.intro) (.inr ho) (fun b q hb z=>(sb.2 b hb).trans z) hd ?_;refine ⟨by rw [aM O.ne];exact ho,?_,O.ne,O'.obj,_,O'.ns,fun g=>?_,fun g hg=>?_⟩
 ·have:=kG f y fs;omega
 ·show RelO ((gI f y fs).lookup g) (if g=f then some u else mA g);rw [kF]
  by_cases q:g=f
  ·rw [if_pos q,if_pos q];exact ry
  ·rw [if_neg q,if_neg q];exact r g
 ·by_cases q:g=f
  ·rw [q];exact (jP f y fs).1
  ·refine (jP f y fs).2 g (wi g fun z=>hg ?_);show (if g=f then some u else mA g)=none;rw [if_neg q];exact z
def Inv.made (I:Inv X pins σ H s):Inv X pins σ (upd (upd H s.heap.objs.size (.own (s.heap.objs.size+1))) (s.heap.objs.size+1) (.ins C s.heap.objs.size []))
  { s with heap:=(s.heap.push PySem.W.emptyDict).push (PySem.W.instObj C s.heap.objs.size) }:=by
 have e1:(s.heap.push PySem.W.emptyDict).get? s.heap.objs.size=some PySem.W.emptyDict:=Heap.get?_push_size s.heap rfl;have e2:((s.heap.push PySem.W.emptyDict).push (PySem.W.instObj C s.heap.objs.size)).get? (s.heap.objs.size+1)=some (PySem.W.instObj C s.heap.objs.size):=by
  have:=Heap.get?_push_size (s.heap.push PySem.W.emptyDict) (o:=PySem.W.instObj C s.heap.objs.size) rfl
  rwa [Heap.size_push] at this
 have e3:(s.heap.push PySem.W.emptyDict).Ns s.heap.objs.size (fun _=>none):=⟨PySem.W.emptyDict,#[],_,e1,rfl,(fun e he=>absurd he (by simp)),fun _=>rfl⟩;have I1:=I.laid (a:=s.heap.objs.size) (o:=.own (s.heap.objs.size+1)) (h':=s.heap.push PySem.W.emptyDict) (t':=s.toks) (fun b u q=>Heap.get?_push_of_some _ q) (Nat.le_refl _) ⟨_,e1⟩;refine I1.laid (a:=s.heap.objs.size+1) (o:=.ins C s.heap.objs.size []) (t':=s.toks) (fun b u q=>Heap.get?_push_of_some _ q) (Nat.le_of_eq (Heap.size_push _ _)) ?_;have ne:s.heap.objs.size≠s.heap.objs.size+1:=Nat.ne_of_lt (Nat.lt_succ_self _);refine ⟨by rw [aM ne,aS],Nat.zero_le _,ne,e2,fun _=>none,(Heap.Ns1.of_empty e3).at fun o q=>Heap.get?_push_of_some _ q,fun _=>True.intro,fun y hy=>absurd rfl hy⟩
def aX8 {prog:Program} {w:World} {env:Env} {e:Expr} {f:Str} {pos:Pos} {s:Shared} {Q:Value->Shared->Prop} (hb:attributeBase e f env (eval e env)=eval e env)
  (h:wpAny (model prog w) A (eval e env) (fun o s₁=>wpAny (model prog w) A (getAttr o f true) Q E s₁) E s):wpAny (model prog w) A (eval (.Attribute e f pos) env) Q E s :=
 Attribute_any_ h (by rw [arm_eval_Attribute,hb])
end
def dF2 (K:Frag) (ta:TE) (f:Str):TE:=fun σ H Q=>ta σ H fun x H1=>∃ a C dx fs v,x=.ref a/\H1 a=some (.ins C dx fs)/\Cls K C/\NoAttr K C f/\fs.lookup f=some v/\Q v H1
def dF3 (K:Frag) (ta tv:TE) (f:Str):TS:=fun D σ H=>tv σ H fun y H1=>ta σ H1 fun x H2=>∃ a C dx fs,x=.ref a/\H2 a=some (.ins C dx fs)/\Cls K C/\NoAttr K C f/\fs.length < 1000 /\
 D.nx σ (upd H2 a (.ins C dx (gI f y fs)))
section
variable {X:Cx} {o e value:Expr} {f:Str} {pos pos' tpos:Pos} {ta tv:TE}
def bU0 (he:PE X e ta) (hb:attributeBase e f X.env (eval e X.env)=eval e X.env):PE X (.Attribute e f pos) (dF2 X.K ta f):=by
 intro pins s σ H Q I h;refine aX8 hb (thn (he pins s σ H _ I h) fun u s1 ⟨x,H1,I1,rx,a,C,dx,fs,v,ex,ea,c,n,l,q⟩=>?_);subst ex;obtain rfl:u=Value.ref a:=rx;exact vL I1 ea c n l fun u' s2 I2 ru=>⟨v,H1,I2,ru,q⟩
def bU1 (ha:PE X o ta) (hv:PE X value tv) (hs:swapsWith value (some (.Attribute o f pos')) pos.line X.env=pure false):PS X (.Assign [.Attribute o f pos'] value pos) (dF3 X.K ta tv f):=by
 intro pins s σ H D I h;refine plainObj_wpAny_Assign_Attribute (thn (hv pins s σ H _ I h) fun u s1 ⟨y,H1,I1,ry,q⟩=>thn (ha pins s1 σ H1 _ I1 q) fun ov s2 ⟨x,H2,I2,rx,a,C,dx,fs,ex,ea,c,n,l,q2⟩=>?_) hs;subst ex;obtain rfl:ov=Value.ref a:=rx;exact vN I2 ea c n l ry fun s3 I3=>⟨σ,_,I3,q2⟩
end
section
variable {X:Cx} {pins:List (Addr×Obj)} {σ:St} {H:Hp} {s:Shared} {A:Around} {E:Value->Shared->Prop} {Q:Value->Shared->Prop} {c:Value} {b:Bool}
end
structure Room (k:Nat) (A:Around):Prop where
 hd:A.handled=none
 dp:A.depth+3*k+5 < recursionLimit
 un:A.units+16*k+200 < cLine
def Room.mono {j k:Nat} {A:Around} (r:Room k A) (h:j<=k):Room j A:=⟨r.hd,by have:=r.dp;omega,by have:=r.un;omega⟩
def Room.deeper {k:Nat} {A:Around} (r:Room (k+1) A) (env:Env):Room k (A.deeper env) :=
 ⟨r.hd,by have:=r.dp;show A.depth+1+3*k+5 < _;omega,by have:=r.un;show A.units+3+16*k+200 < _;omega⟩
def vO {A:Around} {C:Addr} {us:List Value} {kw:List (Str×Value)}:(A.under (.builtin "type.__call__" ⟨.ref C::us,kw⟩)).depth=A.depth+1:=by
 first | rfl | simp [Around.under,Code.weight,Code.isCreation,Code.isGuard,Code.isCaller,Code.frames,Code.isFrame,guardIds]
def vP {A:Around} {C:Addr} {us:List Value} {kw:List (Str×Value)}:(A.under (.builtin "type.__call__" ⟨.ref C::us,kw⟩)).units=A.units+1:=by
 first | rfl | simp [Around.under,Code.cUnits,Code.frames,Code.isFrame]
def Room.make {k:Nat} {A:Around} (r:Room (k+1) A) (C:Addr) (us:List Value) (kw:List (Str×Value)):Room k (A.under (.builtin "type.__call__" ⟨.ref C::us,kw⟩)) :=
 ⟨r.hd,by have:=r.dp;rw [vO];omega,by have:=r.un;rw [vP];omega⟩
def Room.depth {k:Nat} {A:Around} (r:Room k A):A.depth < recursionLimit:=by have:=r.dp;omega
def Room.units {k:Nat} {A:Around} (r:Room k A):A.units+64 < cLine:=by have:=r.un;omega
def aI8:TA:=fun _ H Q=>Q [] H
def iS (ta:TE) (tr:TA):TA:=fun σ H Q=>ta σ H fun x H1=>tr σ H1 fun xs H2=>Q (x::xs) H2
section
variable {X:Cx} {e:Expr} {es:List Expr} {te:TE} {t:TA} {pos:Pos}
def lS:PA X [] aI8:=fun _ _ _ _ H Q I h=>Calls.spliced_nil ⟨[],H,I,.nil,h⟩
def eT (ha:PE X e te) (hr:PA X es t) (hs:autoParam (starEach (e::es) X.env=(false,eval e X.env)::starEach es X.env) ZR):PA X (e::es) (iS te t):=by
 intro pos pins s σ H Q I h;rw [hs];show wpAny _ _ (spliced ((false,eval e X.env)::backTo pos (starEach es X.env))) _ _ s;refine Calls.spliced_cons (thn (ha pins s σ H _ I h) fun u s1 ⟨x,H1,I1,r1,q1⟩=>?_);exact thn (hr pos pins s1 σ H1 _ I1 q1) fun us s2 ⟨xs,H2,I2,r2,q2⟩=>⟨x::xs,H2,I2,.cons r1 r2,q2⟩
def bU2 (t:TA):TE:=fun σ H Q=>t σ H fun xs H1=>xs.length<=sizeLine/\∀ p,H1 p=none->Q (.ref p) (upd H1 p (.tup xs))
def dF4 (t:TA):TE:=fun σ H Q=>t σ H fun xs H1=>xs.length<=sizeLine/\∀ p,H1 p=none->Q (.ref p) (upd H1 p (.lst xs))
def aI9 {x1} (h:PA X es t):PE X (.Tuple es x1 pos) (bU2 t):=by
 intro pins s σ H Q I hq;refine wpAny_Tuple_spliced (thn (h pos pins s σ H _ I hq) fun us s1 ⟨xs,H1,I1,r,z,q⟩=>⟨by rw [<- r.length];exact z,?_⟩);have hf:H1 s1.heap.objs.size=none:=I1.hok.fresh (Nat.le_refl _);refine ⟨.ref s1.heap.objs.size,upd H1 s1.heap.objs.size (.tup xs),I1.laid (t':=s1.toks) (fun b u e=>Heap.get?_push_of_some _ e) (Nat.le_refl _) ?_,rfl,q _ hf⟩;exact ⟨z,us,r,⟨_,Heap.get?_push_size _ rfl,rfl,⟨_,rfl⟩,rfl⟩⟩
def bU3 (h:PA X es t):PE X (.List es pos) (dF4 t):=by
 intro pins s σ H Q I hq;refine wpAny_List_spliced (thn (h pos pins s σ H _ I hq) fun us s1 ⟨xs,H1,I1,r,z,q⟩=>⟨by rw [<- r.length];exact z,?_⟩);have hf:H1 s1.heap.objs.size=none:=I1.hok.fresh (Nat.le_refl _);refine ⟨.ref s1.heap.objs.size,upd H1 s1.heap.objs.size (.lst xs),I1.laid (t':=s1.toks) (fun b u e=>Heap.get?_push_of_some _ e) (Nat.le_refl _) ?_,rfl,q _ hf⟩;exact ⟨z,us,0,r,Heap.get?_push_size _ rfl⟩
end
abbrev Sp:=List V->Hp->VK->XK->Prop
abbrev CXT:=List Env->Hp->Shared->XK->Value->Shared->Prop
structure Env0 (P:Program) (w:World) (K:Frag) (mg:Str->Option Value) (base:Heap) (A:Around) (outer:List Env) (s:Shared) (H:Hp):Prop where
 frames:A.frames=some outer
 mod:Mod K mg base
 bs:∀ b o,base.get? b=some o->s.heap.get? b=some o/\H b=none
 bsz:base.objs.size<=s.heap.objs.size
 funs:s.heap.FunFrames base outer
 frf:∀ b∈frs outer,H b=none
 hok:HOk P w H s.heap
 bare:AllBare s.gens
def CE (outer:List Env) (P:Program) (w:World) (H:Hp) (s:Shared) (Q:VK) (u:Value) (s':Shared):Prop :=
 ∃ v H',s'.os=s.os/\AllBare s'.gens/\Un (frs outer) [] H H' s.heap s'.heap/\HOk P w H' s'.heap/\RelV v u/\Q v H'
def CR (CX:CXT) (outer:List Env) (P:Program) (w:World) (H:Hp) (s:Shared) (Q:VK) (E:XK) (r:Result) (s':Shared):Prop :=
 match r with
 | .ok (.ret u)=>CE outer P w H s Q u s'
 | .ok _=>False
 | .error e=>CX outer H s E e s'
structure FnOk (P:Program) (w:World) (K:Frag) (mg:Str->Option Value) (base:Heap) (CX:CXT) (k:Nat) (f:Addr) (fd:FuncData) (ps:List Str) (sp:Sp):Prop where
 len:∀ vs H Q E,sp vs H Q E->vs.length=ps.length
 run:∀ (A:Around) (outer:List Env) (s:Shared) (H:Hp) (args:Args) (us:List Value) (vs:List V) (Q:VK) (E:XK),Room k A->Env0 P w K mg base A outer s H->BindsTo s fd args (ps.zip us)->Vals vs us->sp vs H Q E ->
  codeAny (model P w) A (.call (.ref f) args) (CR CX outer P w H s Q E) s
def Env0.make {P:Program} {w:World} {K:Frag} {mg:Str->Option Value} {base:Heap} {A:Around} {outer:List Env} {s:Shared} {H:Hp} (e:Env0 P w K mg base A outer s H) (C:Addr) (us:List Value) (kw:List (Str×Value)) :
  Env0 P w K mg base (A.under (.builtin "type.__call__" ⟨.ref C::us,kw⟩)) outer s H:=⟨by first | exact e.frames | (simpa [Around.under,Code.envs,Code.isFrame,pushEnvs] using e.frames),e.mod,e.bs,e.bsz,e.funs,e.frf,e.hok,e.bare⟩
section
variable {X:Cx} {pins:List (Addr×Obj)} {σ:St} {H:Hp} {s s':Shared}
def Inv.env0 (I:Inv X pins σ H s):Env0 X.prog X.w X.K X.mg X.base X.A X.stack s H :=
 ⟨I.ok.frames,I.ok.mod,I.bs,Nat.le_trans I.ok.bsz I.sz,I.stack,I.stkFree,I.hok,I.bare⟩
def Inv.after {Q:VK} {u:Value} (I:Inv X pins σ H s) (h:CE X.stack X.prog X.w H s Q u s'):EP X pins σ Q u s':=by
 obtain ⟨v,H',os,bare,un,hok,r,q⟩:=h;obtain ⟨hh,g,d,t,os'⟩:=s';obtain rfl:os'=s.os:=os;exact ⟨v,H',I.call (h':=hh) (g':=g) (d':=d) (t':=t) (ch:=[]) un hok bare (fun b z=>absurd z (by simp)),r,q⟩
end
def aJ0 (sp:Sp) (dvs:List V) (E:XK) (t:TA):TE:=fun σ H Q=>t σ H fun vs H1=>sp (vs++dvs) H1 Q E
def bK8 (C:Addr) (m:Str) (sp:Sp) (dvs:List V) (E:XK) (ta:TE) (t:TA):TE:=fun σ H Q=>ta σ H fun x H1=>∃ a dx fs,x=.ref a/\H1 a=some (.ins C dx fs)/\fs.lookup m=none /\
 t σ H1 fun vs H2=>sp (x::(vs++dvs)) H2 Q E
def bK9 (C:Addr) (sp:Sp) (dvs:List V) (E:XK) (t:TA):TE:=fun σ H Q=>t σ H fun vs H1=>∀ x dx,H1 x=none->H1 dx=none->dx≠x ->
 sp (.ref x::(vs++dvs)) (upd (upd H1 dx (.own x)) x (.ins C dx [])) (fun v H2=>v=.non/\Q (.ref x) H2) E
def Binds (K:Frag) (fd:FuncData) (ps:List Str) (ds:List Value):Prop :=
 ∀ (s:Shared) (us:List Value),K.In s.heap->(us++ds).length=ps.length->BindsTo s fd ⟨us,[]⟩ (ps.zip (us++ds))
def Binds.all {K:Frag} {fd:FuncData} {ps:List Str} (h:∀ us:List Value,us.length=ps.length->bindArgs fd ⟨us,[]⟩=pure (ps.zip us)):Binds K fd ps []:=fun s us _ hl=>by
 rw [List.append_nil] at hl ⊢;exact .of_eq (h us hl)
def jQ (CX:CXT) (X:Cx) (E:XK):Prop:=∀ (pins:List (Addr×Obj)) (σ:St) (H:Hp) (s:Shared) (e:Value) (s':Shared),Inv X pins σ H s->CX X.stack H s E e s'->X.xe e s'
section
variable {X:Cx} {CX:CXT} {k:Nat} {f C:Addr} {fd:FuncData} {ps:List Str} {sp:Sp} {dvs:List V} {ds:List Value} {E:XK} {x m:Str} {p pos apos:Pos} {e o:Expr} {es:List Expr} {ta:TE} {t:TA}
def aJ1 {pins:List (Addr×Obj)} {σ:St} {H:Hp} {s:Shared} {Q:VK} {us:List Value} {vs:List V} (F:FnOk X.prog X.w X.K X.mg X.base CX k f fd ps sp) (hr:Room k X.A) (hb:Binds X.K fd ps ds) (hd:Vals dvs ds) (hx:jQ CX X E)
  (I:Inv X pins σ H s) (r:Vals vs us) (h:sp (vs++dvs) H Q E):wpAny (model X.prog X.w) X.A (call (.ref f) us) (EP X pins σ Q) X.xe s:=by
 have r2:Vals (vs++dvs) (us++ds):=r.append hd;have hl:(us++ds).length=ps.length:=by rw [<- r2.length];exact F.len _ _ _ _ h
 refine wpAny_call (codeAny_mono (F.run X.A X.stack s H ⟨us,[]⟩ (us++ds) (vs++dvs) Q E hr I.env0 (hb s us I.kIn hl) r2 h) fun r s' hq=>?_);cases r with
 | error e=>exact hx pins σ H s e s' I hq
 | ok fl =>
  cases fl with
  | ret u=>exact I.after hq
  | next=>exact False.elim hq
  | brk=>exact False.elim hq
  | cont=>exact False.elim hq
def xN (F:FnOk X.prog X.w X.K X.mg X.base CX k f fd ps sp) (hr:Room k X.A) (hg:Gl X x) (hm:X.mg x=some (.ref f)) (hk:PySem.W.keepIn X.K (.ref f)=true) (hb:Binds X.K fd ps ds) (hd:Vals dvs ds) (hx:jQ CX X E)
  (ha:PA X (e::es) t) (hdb:autoParam ((x==("__debug__":Str))=false) ZD) (he:autoParam (starEach (e::es) X.env=(false,eval e X.env)::starEach es X.env) ZR) (hpl:autoParam ((backTo pos (starEach es X.env)).any (·.1)=false) ZR) :
  PE X (.Call (.Name x p) (e::es) [] pos) (aJ0 sp dvs E t):=by
 intro pins s σ H Q I h;refine wpAny_Call_Name_kw (qD I hg hm ?_ hdb);refine PySem.W.callWith_K (h₀:=X.base) I.ok.mod.kin hk (thn (ha pos pins s σ H _ I h) fun us s1 ⟨vs,H1,I1,r,q⟩=>⟨I1.kIn,?_⟩) he hpl;exact aJ1 F hr hb hd hx I1 r q
structure Mk (K:Frag) (C f:Addr):Prop where
 makes:PySem.W.makesIn K C=true
 init:PySem.W.findIn K (.ref C) "__init__"=some (some (.ref f))
 fn:PySem.W.isFn K (.ref f)=true
 kp:PySem.W.keepIn K (.ref C)=true
def aJ2 {pins:List (Addr×Obj)} {σ:St} {H:Hp} {s:Shared} {Q:VK} {us:List Value} {vs:List V} (M:Mk X.K C f) (F:FnOk X.prog X.w X.K X.mg X.base CX k f fd ps sp) (hr:Room (k+1) X.A) (hb:Binds X.K fd ps ds) (hd:Vals dvs ds)
  (hx:jQ CX X E) (I:Inv X pins σ H s) (r:Vals vs us)
  (h:∀ x dx,H x=none->H dx=none->dx≠x->sp (.ref x::(vs++dvs)) (upd (upd H dx (.own x)) x (.ins C dx [])) (fun v H2=>v=.non/\Q (.ref x) H2) E) :
  wpAny (model X.prog X.w) X.A (call (.ref C) us) (EP X pins σ Q) X.xe s:=by
 have hq:=h (s.heap.objs.size+1) s.heap.objs.size (I.hok.fresh (Nat.le_succ _)) (I.hok.fresh (Nat.le_refl _)) (Nat.ne_of_lt (Nat.lt_succ_self _));have I2:=Inv.made (C:=C) I;have r2:Vals (V.ref (s.heap.objs.size+1)::(vs++dvs)) (Value.ref (s.heap.objs.size+1)::(us++ds)):=.cons rfl (r.append hd);have hl:(Value.ref (s.heap.objs.size+1)::us++ds).length=ps.length:=by
  have e:=r2.length;rw [F.len _ _ _ _ hq] at e;exact e.symm
 refine wpAny_call (aI7 (f:=f) I.kIn M.makes M.init (beq_iff_eq.mp M.fn) (codeAny_mono (F.run _ X.stack _ _ ⟨Value.ref (s.heap.objs.size+1)::us,[]⟩ (Value.ref (s.heap.objs.size+1)::(us++ds)) _ _ E (hr.make C us [])
  (I2.env0.make C us []) (hb _ (Value.ref (s.heap.objs.size+1)::us) I2.kIn hl) r2 hq) fun r s' hq'=>?_))
 cases r with
 | error e=>exact hx pins σ _ _ e s' I2 hq'
 | ok fl =>
  cases fl with
  | ret u =>
   obtain ⟨v,H',I3,rv,ev,q3⟩:=I2.after hq';subst ev;exact ⟨rv,⟨V.ref (s.heap.objs.size+1),H',I3,rfl,q3⟩⟩
  | next=>exact False.elim hq'
  | brk=>exact False.elim hq'
  | cont=>exact False.elim hq'
def aX9 (M:Mk X.K C f) (F:FnOk X.prog X.w X.K X.mg X.base CX k f fd ps sp) (hr:Room (k+1) X.A) (hg:Gl X x) (hm:X.mg x=some (.ref C)) (hb:Binds X.K fd ps ds) (hd:Vals dvs ds) (hx:jQ CX X E)
  (ha:PA X (e::es) t) (hdb:autoParam ((x==("__debug__":Str))=false) ZD) (he:autoParam (starEach (e::es) X.env=(false,eval e X.env)::starEach es X.env) ZR) (hpl:autoParam ((backTo pos (starEach es X.env)).any (·.1)=false) ZR) :
  PE X (.Call (.Name x p) (e::es) [] pos) (bK9 C sp dvs E t):=by
 intro pins s σ H Q I h;refine wpAny_Call_Name_kw (qD I hg hm ?_ hdb);refine PySem.W.callWith_K (h₀:=X.base) I.ok.mod.kin M.kp (thn (ha pos pins s σ H _ I h) fun us s1 ⟨vs,H1,I1,r,q⟩=>⟨I1.kIn,?_⟩) he hpl;exact aJ2 M F hr hb hd hx I1 r q
end
section
variable {X:Cx} {CX:CXT} {k:Nat} {f C:Addr} {fd:FuncData} {ps ks:List Str} {sp:Sp} {E:XK} {x m:Str} {p pos apos kpos:Pos} {e o:Expr} {es:List Expr} {kws:List Keyword} {te ta:TE} {t tk:TA} {nm:Option Str}
variable {g:List Value->List Value->List Value} {gV:List V->List V->List V}
end
structure FnScope (N P:List Str) (sc:Scope):Prop where
 kind:sc.kind=.function
 co:sc.isCoroutine=false
 gen:sc.isGenerator=false
 nd:N.Nodup
 pre:N.take P.length=P
 par:∀ x∈P,sc.names.lookup x=some .local\/sc.names.lookup x=some .cell
 nofree:∀ y∈sc.names,y.2≠.free
theorem nY {kindOf:Str->Option NameKind} {x:Str}:∀ {binds:List (Str×Value)} {m:Str->Option Value},(∀ v,(x,v)∉binds)->bindL kindOf binds m x=m x
 | [],_,_=>rfl
 | (n,v)::r,m,h=>by
  unfold bindL;rw [nY fun w hw=>h w (List.mem_cons_of_mem _ hw)];split
  ·have:x≠n:=by rintro rfl;exact h v List.mem_cons_self
   simp [this]
  ·rfl
theorem nZ {kindOf:Str->Option NameKind} {x:Str}:∀ {binds:List (Str×Value)} {m:Str->Option Value},(∀ v,(x,v)∉binds)->bindC kindOf binds m x=m x
 | [],_,_=>rfl
 | (n,v)::r,m,h=>by
  unfold bindC;rw [nZ fun w hw=>h w (List.mem_cons_of_mem _ hw)];split
  ·rfl
  ·have:x≠n:=by rintro rfl;exact h v List.mem_cons_self
   simp [this]
theorem oA {kindOf:Str->Option NameKind} {x:Str} {v:Value}:∀ {P:List Str} {vs:List Value} {i:Nat} {m:Str->Option Value},P.Nodup->P[i]?=some x->vs[i]?=some v->kindOf x=some .local ->
  bindL kindOf (P.zip vs) m x=some v
 | [],_,_,_,_,h,_,_=>by simp at h
 | _::_,[],_,_,_,_,h,_=>by simp at h
 | p::P,w::vs,0,m,nd,h1,h2,hk=>by
  simp at h1 h2;subst h1;subst h2;show bindL kindOf ((p,w)::P.zip vs) m p=_;unfold bindL;rw [nY fun v hv=>(List.nodup_cons.mp nd).1 (List.of_mem_zip hv).1,if_pos hk];simp
 | p::P,w::vs,i+1,m,nd,h1,h2,hk=>by
  show bindL kindOf ((p,w)::P.zip vs) m x=_;unfold bindL;exact oA (i:=i) (List.nodup_cons.mp nd).2 (by simpa using h1) (by simpa using h2) hk
theorem oB {kindOf:Str->Option NameKind} {x:Str} {v:Value}:∀ {P:List Str} {vs:List Value} {i:Nat} {m:Str->Option Value},P.Nodup->P[i]?=some x->vs[i]?=some v->kindOf x≠some .local ->
  bindC kindOf (P.zip vs) m x=some v
 | [],_,_,_,_,h,_,_=>by simp at h
 | _::_,[],_,_,_,_,h,_=>by simp at h
 | p::P,w::vs,0,m,nd,h1,h2,hk=>by
  simp at h1 h2;subst h1;subst h2;show bindC kindOf ((p,w)::P.zip vs) m p=_;unfold bindC;rw [nZ fun v hv=>(List.nodup_cons.mp nd).1 (List.of_mem_zip hv).1,if_neg hk];simp
 | p::P,w::vs,i+1,m,nd,h1,h2,hk=>by
  show bindC kindOf ((p,w)::P.zip vs) m x=_;unfold bindC;exact oB (i:=i) (List.nodup_cons.mp nd).2 (by simpa using h1) (by simpa using h2) hk
noncomputable def start (N:List Str) (vs:List V):St:=vs.map some++List.replicate (N.length - vs.length) none
noncomputable def qH (CX:CXT) (P:Program) (w:World) (K:Frag) (mg:Str->Option Value) (base:Heap) (N:List Str) (qual:Str) (scope:Scope) (f:Addr) (cd:Value) (A:Around) (outer:List Env) (s:Shared) (H:Hp) (E:XK):Cx where
 prog:=P
 w:=w
 K:=K
 mg:=mg
 base:=base
 A:=A.deeper (envOfC qual scope s.heap.objs.size f cd)
 N:=N
 s₀:=s
 H₀:=H
 env:=envOfC qual scope s.heap.objs.size f cd
 outer:=outer
 stack:=envOfC qual scope s.heap.objs.size f cd::outer
 ex:=[]
 calm:=true
 fn:=fun _=>true
 pn:=[]
 xe:=fun e s'=>wpAny (model P w) (A.deeper (envOfC qual scope s.heap.objs.size f cd)) (leaving (envOfC qual scope s.heap.objs.size f cd) e) (fun _ s''=>CX outer H s E e s'') (fun e' s''=>CX outer H s E e' s'') s'
def sM {sc:Scope} {n:Nat} {x:Str} (h:sc.names.lookup x=some .cell):∃ c,(cellsFrom n sc.names []).lookup x=some c:=by
 have q:=PySem.W.cellsFrom_some sc.names n [] (.inl h);exact Option.isSome_iff_exists.mp q
def zW {CX:CXT} {P:Program} {w:World} {K:Frag} {mg:Str->Option Value} {base:Heap} {N ps:List Str} {qual:Str} {scope:Scope} {f:Addr} {cd:Value} {A:Around} {outer:List Env} {s s1:Shared} {H:Hp} {E:XK} {us:List Value} {vs:List V}
  (S:FnScope N ps scope) (hd:A.handled=none) (e0:Env0 P w K mg base A outer s H) (hl:vs.length=ps.length) (r:Vals vs us)
  (x:InCallC s s.heap.objs.size (bindL (envOfC qual scope s.heap.objs.size f cd).kindOf (ps.zip us) fun _=>none) (cellsFrom (s.heap.objs.size+1) scope.names []) (bindC (envOfC qual scope s.heap.objs.size f cd).kindOf (ps.zip us) fun _=>none) s1) :
  Inv (qH CX P w K mg base N qual scope f cd A outer s H E) [] (start N vs) H s1:=by
 have hpl:ps.length<=N.length:=by have:=congrArg List.length S.pre;rw [List.length_take] at this;omega
 obtain ⟨h1,tk,rfl,hk⟩:=x.done;have noA:∀ b:Addr,b∉(qH CX P w K mg base N qual scope f cd A outer s H E).ex:=fun b z=>absurd (show b∈([]:List Addr) from z) (by simp);refine ⟨⟨e0.mod,S.kind,rfl,rfl,Nat.le_refl _,fun y z c h1 h2=>?_,fun y hy=>?_,fun y c _ h=>?_,fun _=>hd,Around.frames_deeper e0.frames,.inr ⟨rfl,rfl⟩,fun b z=>absurd z (noA b),e0.bs,e0.bsz,fun b _ _=>noA b,fun b z=>absurd z (noA b),e0.funs,e0.frf⟩,
  rfl,e0.bare,Un.kept hk,⟨_,x.toInCall.ns,fun i y v h1 h2 h3=>?_⟩,fun y c h=>⟨_,x.cell y c h⟩,e0.hok.fresh (Nat.le_refl _),fun y c h=>?_,fun p hp=>absurd (show p∈([]:List (Addr×Obj)) from hp) (by simp),e0.hok.kept hk,?_⟩
 ·exact name_of_addr x.apart (PySem.mem_of_lookup h1) (PySem.mem_of_lookup h2)
 ·have hy:scope.names.lookup y=some .cell\/scope.names.lookup y=some .free:=hy;rcases hy with hy | hy
  ·exact sM hy
  ·exact absurd rfl (S.nofree _ (PySem.mem_of_lookup hy))
 ·exact Nat.le_of_lt (x.above y c (PySem.mem_of_lookup h))
 ·have hi:i < vs.length:=by
   unfold start at h2
   by_cases hi:i < vs.length
   ·exact hi
   ·rw [List.getElem?_append_right (by simpa using hi)] at h2;rw [List.getElem?_replicate] at h2;split at h2<;>cases h2
  have ha:vs[i]?=some v:=by
   unfold start at h2;rw [List.getElem?_append_left (by simpa using hi),List.getElem?_map] at h2;cases e:vs[i]? with
   | none=>rw [e] at h2;cases h2
   | some a=>rw [e] at h2;cases h2;rfl
  obtain ⟨u,hu,rv⟩:=r.get ha;have hp:ps[i]?=some y:=by
   rw [<- S.pre,List.getElem?_take_of_lt (by omega)];exact h1
  have ndP:ps.Nodup:=by rw [<- S.pre];exact S.nd.sublist (List.take_sublist _ _)
  refine ⟨u,rv,?_⟩;rcases S.par y (List.mem_of_getElem? hp) with k | k
  ·exact .inl ⟨k,oA ndP hp hu k⟩
  ·obtain ⟨c,e⟩:=sM (n:=s.heap.objs.size+1) k;refine .inr ⟨.inl k,c,e,?_⟩;have q:=x.cell y c e;rw [oB ndP hp hu (by show scope.names.lookup y≠_;rw [k];decide)] at q;exact q
 ·exact e0.hok.fresh (Nat.le_of_lt (x.above y c (PySem.mem_of_lookup h)))
 ·unfold start;show _=N.length;rw [List.length_append,List.length_map,List.length_replicate];omega
def cO4 {CX:CXT} {P:Program} {w:World} {K:Frag} {mg:Str->Option Value} {base:Heap} {k:Nat} {f:Addr} {name qual:Str} {params:Arguments} {body:List Stmt} {scope:Scope} {dV kV doc pm cdv ct oc:Value} {an od:Option Addr}
  {osl:Array (Option Value)} {N ps:List Str} {sp:Sp} (lk:K.lookup f=some ⟨oc,od,.func (PySem.W.fnOf name qual params body scope dV kV doc pm an cdv ct),osl⟩) (hcd:PySem.W.codeIn K cdv qual=true) (S:FnScope N ps scope)
  (len:∀ vs H Q E,sp vs H Q E->vs.length=ps.length)
  (hbody:∀ (A:Around) (outer:List Env) (s:Shared) (H:Hp) (vs:List V) (Q:VK) (E:XK),Room k (A.deeper (envOfC qual scope s.heap.objs.size f cdv))->sp vs H Q E ->
   ∃ t,PSs (qH CX P w K mg base N qual scope f cdv A outer s H E) body t/\t { nx:=fun _ H'=>Q .non H',rt:=Q } (start N vs) H) :
  FnOk P w K mg base CX (k+1) f (PySem.W.fnOf name qual params body scope dV kV doc pm an cdv ct) ps sp:=by
 refine ⟨len,fun A outer s H args us vs Q E hr e0 hb r hsp=>?_⟩;have hl:=len _ _ _ _ hsp;have KX:K.In s.heap:=e0.mod.kin.keeps fun b o e=>(e0.bs b o e).1;have lim:s.heap.NoLimit:=e0.mod.nolimit.keeps fun b o e=>(e0.bs b o e).1;have hkind:∀ y∈ps.zip us,scope.names.lookup y.1=some .local\/(scope.names.lookup y.1=some .cell/\((cellsFrom (s.heap.objs.size+1) scope.names []).lookup y.1).isSome=true):=fun ⟨n,v⟩ hy=>by
  rcases S.par n (List.of_mem_zip hy).1 with q | q
  ·exact .inl q
  ·exact .inr ⟨q,PySem.W.cellsFrom_some _ _ _ (.inl q)⟩
 refine codeAny_call_function hr.depth (KX _ _ lk) rfl S.co S.gen rfl (PySem.W.codeRec_of KX hcd) (hb _ _ _ _ ?_);refine wpAny_newFunctionEnv_cells S.kind hkind fun env he s1 x=>?_;subst he;refine ⟨lim.keeps x.toInCall.keep,codeAny_func ?_⟩;obtain ⟨t,ht,hq⟩:=hbody A outer s H vs Q E (hr.deeper _) hsp;have I:Inv (qH CX P w K mg base N qual scope f cdv A outer s H E) [] (start N vs) H s1:=zW S hr.hd e0 hl r x;refine wpAny_mono (ht [] s1 (start N vs) H _ I hq) (fun fl s' hs=>?_) fun e s' hs=>hs;have fin:∀ {σ':St} {H':Hp} {v:V} {u:Value},Inv (qH CX P w K mg base N qual scope f cdv A outer s H E) [] σ' H' s'->RelV v u->Q v H'->CE outer P w H s Q u s' :=
  fun {σ' H' v u} J rv q=>⟨v,H',J.os,J.bare,J.base,J.hok,rv,q⟩
 cases fl with
 | ret u =>
  obtain ⟨v,σ',H',J,rv,q⟩:=hs;exact fin J rv q
 | next =>
  obtain ⟨σ',H',J,q⟩:=hs;exact fin (v:=V.non) (u:=Value.none) J rfl q
 | brk =>
  obtain ⟨_,_,_,q⟩:=hs;exact False.elim q
 | cont =>
  obtain ⟨_,_,_,q⟩:=hs;exact False.elim q
section
variable {X:Cx} {x:Str} {p pos:Pos} {e:Expr} {es:List Expr} {t:TA} {id T:String} {r:List V->Hp->VK->Prop}
def tCB (r:List V->Hp->VK->Prop) (t:TA):TE:=fun σ H Q=>t σ H fun vs H1=>r vs H1 Q
def lT (hc:cQ X (.builtin id) r) (hg:Gl X x) (hm:X.mg x=none) (hv:bootBuiltins x=some (.builtin id)) (ha:PA X (e::es) t) (hn:autoParam (x≠"__name__") ZD) (hdb:autoParam ((x==("__debug__":Str))=false) ZD)
  (he:autoParam (starEach (e::es) X.env=(false,eval e X.env)::starEach es X.env) ZR) (hpl:autoParam ((backTo pos (starEach es X.env)).any (·.1)=false) ZR):PE X (.Call (.Name x p) (e::es) [] pos) (tCB r t):=by
 intro pins s σ H Q I h;refine wpAny_Call_Name_kw (eE I hg hm hv ?_ hn hdb);exact PyProof.Rows.callWith_builtin1 (thn (ha pos pins s σ H _ I h) fun us s1 ⟨vs,H1,I1,r1,q1⟩=>hc pins s1 σ H1 vs us Q I1 r1 q1) he hpl
def oC (hc:cQ X (.type T) r) (hg:Gl X x) (hm:X.mg x=none) (hv:bootBuiltins x=some (.type T)) (ha:PA X (e::es) t) (hn:autoParam (x≠"__name__") ZD) (hdb:autoParam ((x==("__debug__":Str))=false) ZD)
  (he:autoParam (starEach (e::es) X.env=(false,eval e X.env)::starEach es X.env) ZR) (hpl:autoParam ((backTo pos (starEach es X.env)).any (·.1)=false) ZR):PE X (.Call (.Name x p) (e::es) [] pos) (tCB r t):=by
 intro pins s σ H Q I h;refine wpAny_Call_Name_kw (eE I hg hm hv ?_ hn hdb);exact PyProof.Rows.callWith_type1 (thn (ha pos pins s σ H _ I h) fun us s1 ⟨vs,H1,I1,r1,q1⟩=>hc pins s1 σ H1 vs us Q I1 r1 q1) he hpl
end
end L2
namespace HT
open PySem PyProof.Rows
section
open PySem.SeqAt
open PySem.AutoSeq1 (wpAny_loadPart')
open PySem.MeetsSeq PySem.MeetsSeq2 PySem.MeetsSeq3
end
section
variable {prog:Program} {w:World} {A:Around} {E:Value->Shared->Prop} {s:Shared}
def cat_tup {t b:Addr} {vs ws:List Value} {Q:Value->Shared->Prop} (ht:IsTup s.heap t vs.toArray) (hb:IsTup s.heap b ws.toArray) (hv:vs≠[])
  (h1:ws=[]->Q (.ref t) s) (h2:ws≠[]->Q (.ref s.heap.objs.size) { s with heap:=s.heap.push { cls:=.type "tuple",data:=.seq (vs++ws).toArray } })
  (hsz:vs.length+ws.length<=sizeLine):wpAny (model prog w) A (binaryOp .Add (.ref t) (.ref b)) Q E s:=by
 obtain ⟨⟨cls,dd,data,sl⟩,ho,hc,n,hd⟩:=id ht;obtain ⟨⟨cls2,dd2,data2,sl2⟩,ho2,hc2,n2,hd2⟩:=id hb;simp only at hc hd hc2 hd2;subst hc hd hc2 hd2;have e:vs.toArray++ws.toArray=(vs++ws).toArray:=by simp
 by_cases hw:ws=[]
 ·exact concat_meets ⟨_,ho,rfl⟩ ⟨_,ho2,rfl⟩ noFill_tuple_add seq_tuple_add PySem.F.slot_tuple_add PySem.F.entry_tuple_add (PySem.F.args_tuple_add_2 _ _)
   (tuple_addW1 t b vs.toArray ws.toArray n n2 dd dd2 sl sl2 (by simpa using hv) (by simp [hw])) ⟨ho,ho2,h1 hw⟩
 ·refine concat_meets ⟨_,ho,rfl⟩ ⟨_,ho2,rfl⟩ noFill_tuple_add seq_tuple_add PySem.F.slot_tuple_add PySem.F.entry_tuple_add (PySem.F.args_tuple_add_2 _ _)
   (tuple_addW2 t b vs.toArray ws.toArray n n2 dd dd2 sl sl2 (by simpa using hv) (by simpa using hw) (by rw [List.size_toArray,List.size_toArray];exact hsz)) ⟨ho,ho2,?_⟩
  rw [e];exact h2 hw
noncomputable def sIx (n d:Nat):Option Int->Nat
 | none=>d
 | some v=>if v < 0 then (v+(n:Int)).toNat else min v.toNat n
def sIx_none (n d:Nat):sIx n d none=d:=rfl
def sIx_nat (n d k:Nat):sIx n d (some (k:Int))=min k n:=by
 show (if (k:Int) < 0 then ((k:Int)+(n:Int)).toNat else min (k:Int).toNat n)=min k n;rw [if_neg (by omega),Int.toNat_natCast]
def bU4 (n d:Nat) (hd:d<=n) (o:Option Int):sIx n d o<=n:=by
 cases o with
 | none=>exact hd
 | some v =>
  show (if v < 0 then (v+(n:Int)).toNat else min v.toNat n)<=n
  by_cases hv:v < 0
  ·rw [if_pos hv];omega
  ·rw [if_neg hv];exact Nat.min_le_right _ _
def xO (v:Int) (n d:Nat):(if v < 0 then max (v+(n:Int)) 0 else min v (n:Int))=((sIx n d (some v):Nat):Int):=by
 show (if v < 0 then max (v+(n:Int)) 0 else min v (n:Int))=(((if v < 0 then (v+(n:Int)).toNat else min v.toNat n):Nat):Int)
 by_cases hv:v < 0
 ·simp only [if_pos hv];omega
 ·simp only [if_neg hv];omega
def vQ (lo hi:Option Int) (n:Nat):Builtin.Slice.sliceAdjust lo hi 1 (n:Int)=(((sIx n 0 lo:Nat):Int),((sIx n n hi:Nat):Int)):=by
 have h1:¬ ((1:Int) < 0):=by omega
 unfold Builtin.Slice.sliceAdjust;simp only [h1,if_false];refine Prod.ext ?_ ?_
 ·cases lo with
  | none=>rfl
  | some v=>exact xO v n 0
 ·cases hi with
  | none=>rfl
  | some v=>exact xO v n n
def vR (i j:Nat):Builtin.Slice.slicePlaces (i:Int) (j:Int) 1=j - i:=by
 unfold Builtin.Slice.slicePlaces;have h1:(1:Int) > 0:=by omega
 simp only [h1,if_true,Int.ediv_one];split<;>omega
def lU {v:Value} {o:Option Int} {Q:Option Int->Shared->Prop} (p:IsPart v o) (h:Q o s):wpAny (model prog w) A (Builtin.Slice.slicePartIndex v) Q E s:=by
 cases p with
 | none=>exact slicePart_none h
 | int i t=>exact slicePart_int h
def sliceApplied_gen {sl:Addr} {vl vu:Value} {lo hi:Option Int} {n:Nat} {Q:Int×Int×Nat->Shared->Prop} (hs:s.heap.IsSliceOf sl vl vu .none) (pl:IsPart vl lo) (pu:IsPart vu hi)
  (h:Q (((sIx n 0 lo:Nat):Int),1,sIx n n hi - sIx n 0 lo) s):wpAny (model prog w) A (Builtin.Slice.sliceApplied (.ref sl) (pure (n:Int))) Q E s:=by
 obtain ⟨os,hos,hcs,hds⟩:=id hs;unfold Builtin.Slice.sliceApplied Builtin.Slice.sliceFields;refine wpAny_bind (wpAny_bind (wpAny_field hos hds (x:=vl) rfl (wpAny_bind (wpAny_field hos hds (x:=vu) rfl (wpAny_bind (wpAny_field hos hds (x:=.none) rfl (wpAny_pure ?_)))))));refine wpAny_bind (slicePart_none ?_);show wpAny _ _ (if ((1:Int)==0)=true then _ else _) _ _ s;rw [if_neg (by decide)];refine wpAny_bind (lU pl (wpAny_bind (lU pu (wpAny_bind (wpAny_pure ?_)))));show wpAny _ _ (match Builtin.Slice.sliceAdjust lo hi 1 (n:Int) with | (lo,hi)=>pure (lo,(1:Int),Builtin.Slice.slicePlaces lo hi 1)) _ _ s;rw [vQ lo hi n];show wpAny _ _ (pure (((sIx n 0 lo:Nat):Int),(1:Int),Builtin.Slice.slicePlaces ((sIx n 0 lo:Nat):Int) ((sIx n n hi:Nat):Int) 1)) _ _ s;rw [vR];exact wpAny_pure h
def aJ3 (xs:Array Value) (i k:Nat):((List.range k).filterMap fun (m:Nat)=>xs[((i:Int)+(m:Int)*1).toNat]?).toArray=((xs.toList.drop i).take k).toArray:=by
 have e:(fun (m:Nat)=>xs[((i:Int)+(m:Int)*1).toNat]?)=fun m=>xs[i+m]?:=by
  funext m
  have:((i:Int)+(m:Int)*1).toNat=i+m:=by omega
  rw [this]
 rw [e];have:=pick_run xs i k;rw [List.filterMap_map] at this;have e2:((fun x=>xs[x]?) ∘ fun x=>i+x)=fun m=>xs[i+m]?:=rfl;rw [e2] at this;rw [this]
def getItem_tuple_cut {t sl:Addr} {items:Array Value} {vl vu:Value} {lo hi:Option Int} {Q:Value->Shared->Prop} (ht:IsTup s.heap t items) (hs:s.heap.IsSliceOf sl vl vu .none) (pl:IsPart vl lo) (pu:IsPart vu hi)
  (hw:¬ (sIx items.size 0 lo=0/\sIx items.size items.size hi=items.size))
  (h:Q (.ref s.heap.objs.size) { s with heap:=s.heap.push { cls:=.type "tuple",data:=.seq ((items.toList.drop (sIx items.size 0 lo)).take (sIx items.size items.size hi - sIx items.size 0 lo)).toArray } })
  (hsz:items.size<=sizeLine):wpAny (model prog w) A (getItem (.ref t) (.ref sl)) Q E s:=by
 have htake:sizeOk (.seq ((items.toList.drop (sIx items.size 0 lo)).take (sIx items.size items.size hi - sIx items.size 0 lo)).toArray):=by
  show ((items.toList.drop (sIx items.size 0 lo)).take (sIx items.size items.size hi - sIx items.size 0 lo)).toArray.size<=sizeLine;rw [List.size_toArray,List.length_take,List.length_drop,Array.length_toList];omega
 have hj:sIx items.size items.size hi<=items.size:=bU4 _ _ (Nat.le_refl _) hi;obtain ⟨os,hos,hcs,hds⟩:=id hs;have hTs:s.TypeIs (.ref sl) "slice":=⟨os,hos,hcs⟩;unfold getItem;try with_reducible refine wpAny_holding ?_
 first | refine wpAny_bind (wpAny_pure ?_) | skip
 refine wpAny_bind (wpAny_sequenceKey ht.typeIs (by decide) ?_);refine wpAny_bind (wpAny_callSpecial?_slot (name:=Str.ofString "__getitem__") ht.typeIs PyProof.Rows.slot_tuple_getitem
  (wpAny_call_entry PyProof.Rows.slot_tuple_getitem ht.typeIs entry_tuple_getitem ?_ (args_tuple_getitem _ _)))
 show wpAny _ _ (Builtin.Tuple.tupleItemsOf (.ref t) >>= _) _ _ s;refine wpAny_bind (tupleItemsOf_ ht ?_);refine wpAny_bind (wpAny_typeOf hTs ?_);rw [if_pos (by decide)];refine wpAny_bind (sliceApplied_gen hs pl pu ?_);have hno:¬ ((((sIx items.size 0 lo:Nat):Int)==0&&(1:Int)==1&&(sIx items.size items.size hi - sIx items.size 0 lo)==items.size)=true):=by
  intro q;rw [Bool.and_eq_true,Bool.and_eq_true] at q;have q1:((sIx items.size 0 lo:Nat):Int)=0:=eq_of_beq q.1.1;have q2:sIx items.size items.size hi - sIx items.size 0 lo=items.size:=eq_of_beq q.2;exact hw ⟨by omega,by omega⟩
 show wpAny _ _ (if (((sIx items.size 0 lo:Nat):Int)==0&&(1:Int)==1&&(sIx items.size items.size hi - sIx items.size 0 lo)==items.size)=true then _ else _) _ _ s;rw [if_neg hno,aJ3]
 first
  | exact wpAny_bind (m:=Builtin.Tuple.tupleExact _) (wpAny_newObj_type (wpAny_pure ⟨_,rfl,wpAny_pure h⟩) htake)
  | exact wpAny_bind (m:=Builtin.Tuple.tupleExact _) (wpAny_newObj_type (wpAny_bind (wpAny_pure (wpAny_pure ⟨_,rfl,wpAny_pure h⟩))) htake)
  | exact wpAny_bind (wpAny_bind (m:=Builtin.Tuple.tupleExact _) (wpAny_newObj_type (wpAny_pure (wpAny_pure ⟨_,rfl,wpAny_pure h⟩)) htake))
  | exact wpAny_bind (wpAny_bind (m:=Builtin.Tuple.tupleExact _) (wpAny_newObj_type (wpAny_pure ⟨_,rfl,wpAny_pure h⟩) htake))
end
end HT
namespace L2
open PySem PySem.Spec PyProof.Rows
abbrev TO:=St->Hp->(Option Int->Hp->Prop)->Prop
def PO (X:Cx) (e:Option Expr) (t:TO):Prop :=
 ∀ (pins:List (Addr×Obj)) (s:Shared) (σ:St) (H:Hp) (Q:Option Int->Hp->Prop),Inv X pins σ H s->t σ H Q ->
  wpAny (model X.prog X.w) X.A (evalPart e X.env) (fun u s'=>∃ o H',Inv X pins σ H' s'/\IsPart u o/\Q o H') X.xe s
noncomputable def aY0:TO:=fun _ H Q=>Q none H
noncomputable def cO5 (t:TE):TO:=fun σ H Q=>t σ H fun x H1=>∃ i,x=.int i/\Q (some i) H1
section
variable {X:Cx} {e:Expr} {te:TE} {lo hi:Option Expr} {tl th:TO} {pos p2:Pos}
def aY1:PO X none aY0:=by
 intro pins s σ H Q I h;rw [evalPart_none];exact wpAny_pure ⟨none,H,I,.none,h⟩
def aY2 (h:PE X e te):PO X (some e) (cO5 te):=by
 intro pins s σ H Q I hw;rw [evalPart_some];refine thn (h pins s σ H _ I hw) fun u s1 ⟨x,H1,I1,r1,q1⟩=>?_;obtain ⟨i,rfl,q⟩:=q1;obtain ⟨t,rfl⟩:=r1;exact ⟨some i,H1,I1,.int i t,q⟩
def SlR (X:Cx) (r:V->Option Int->Option Int->Hp->VK->Prop):Prop :=
 ∀ (pins:List (Addr×Obj)) (s:Shared) (σ:St) (H:Hp) (x:V) (v vl vu:Value) (lo hi:Option Int) (sl:Addr) (Q:VK),Inv X pins σ H s->RelV x v->s.heap.IsSliceOf sl vl vu .none->IsPart vl lo->IsPart vu hi->r x lo hi H Q ->
  ∃ T id,typeLookup (.type T) "__getitem__"=pure (some (.builtin id))/\s.TypeIs v T/\wpAny (model X.prog X.w) X.A (getItem v (.ref sl)) (EP X pins σ Q) X.xe s
def SlR.or {r r':V->Option Int->Option Int->Hp->VK->Prop} (h:SlR X r) (h':SlR X r'):SlR X (fun x lo hi H Q=>r x lo hi H Q\/r' x lo hi H Q):=by
 intro pins s σ H x v vl vu lo hi sl Q I rx hs pl pu q;rcases q with q | q
 ·exact h pins s σ H x v vl vu lo hi sl Q I rx hs pl pu q
 ·exact h' pins s σ H x v vl vu lo hi sl Q I rx hs pl pu q
def tSl (r:V->Option Int->Option Int->Hp->VK->Prop) (te:TE) (tl th:TO):TE:=fun σ H Q=>te σ H fun x H1=>tl σ H1 fun l H2=>th σ H2 fun u H3=>r x l u H3 Q
def sN {r:V->Option Int->Option Int->Hp->VK->Prop} (hr:SlR X r) (he:PE X e te) (hl:PO X lo tl) (hu:PO X hi th):PE X (.Subscript e (.Slice lo hi none p2) pos) (tSl r te tl th):=by
 intro pins s σ H Q I h;refine Subscript_ (thn (he pins s σ H _ I h) fun v s1 ⟨x,H1,I1,r1,q1⟩=>?_);refine wpAny_Slice (thn (hl pins s1 σ H1 _ I1 q1) fun vl s2 ⟨l,H2,I2,pl,q2⟩=>thn (hu pins s2 σ H2 _ I2 q2) fun vu s3 ⟨u,H3,I3,pu,q3⟩=>?_);rw [evalPart_none];refine wpAny_pure ?_;have I4:Inv X pins σ H3 { s3 with heap:=s3.heap.push { cls:=.type "slice",data:=.fields #[vl,vu,.none] } }:=I3.kept (t':=s3.toks) fun b ob q=>Heap.get?_push_of_some _ q;obtain ⟨T,id,hT,ht,hg⟩:=hr pins { s3 with heap:=s3.heap.push { cls:=.type "slice",data:=.fields #[vl,vu,.none] } } σ H3 x v vl vu l u s3.heap.objs.size Q I4 r1 (Heap.IsSliceOf.new ..) pl pu q3;show wpAny (model X.prog X.w) X.A (subscriptTail e (.Slice lo hi none p2) v (.ref s3.heap.objs.size)) (EP X pins σ Q) X.xe { s3 with heap:=s3.heap.push { cls:=.type "slice",data:=.fields #[vl,vu,.none] } };exact tail_any (ops:=[.ref s3.heap.objs.size,v]) ht hT hg (by with_unfolding_all rfl)
noncomputable def sO (xs:List V) (lo hi:Option Int):List V:=(xs.drop (HT.sIx xs.length 0 lo)).take (HT.sIx xs.length xs.length hi - HT.sIx xs.length 0 lo)
def kH (xs:List V) (lo hi:Option Int):(sO xs lo hi).length<=xs.length:=by
 unfold sO;rw [List.length_take,List.length_drop];omega
noncomputable def dF5 (K:Frag):V->Option Int->Option Int->Hp->VK->Prop:=fun x lo hi H Q=>∃ a xs,x=.ref a/\SqT K H a xs /\
 ¬ (HT.sIx xs.length 0 lo=0/\HT.sIx xs.length xs.length hi=xs.length)/\∀ p,H p=none->Q (.ref p) (upd H p (.tup (sO xs lo hi)))
def sl_tup:SlR X (dF5 X.K):=by
 intro pins s σ H x v vl vu lo hi sl Q I rx hs pl pu h;obtain ⟨a,xs,rfl,hx,hw,q⟩:=h;cases rx;obtain ⟨its,r,ht,hz⟩:=I.tuple hx;have hlen:its.toArray.size=xs.length:=by rw [List.size_toArray];exact r.length.symm
 refine ⟨"tuple",_,PyProof.Rows.slot_tuple_getitem.lookup,ht.typeIs,?_⟩;refine HT.getItem_tuple_cut ht hs pl pu (by rw [hlen];exact hw) ?_ (by rw [hlen];exact hz);rw [hlen];refine ⟨.ref s.heap.objs.size,_,I.laid (t':=s.toks) (o:=.tup (sO xs lo hi)) (fun b ob q=>Heap.get?_push_of_some _ q) (Nat.le_refl _) ?_,rfl,q _ (I.hok.fresh (Nat.le_refl _))⟩;exact ⟨Nat.le_trans (kH xs lo hi) hz,_,(r.drop (HT.sIx xs.length 0 lo)).take (HT.sIx xs.length xs.length hi - HT.sIx xs.length 0 lo),IsTupD.new _ _⟩
noncomputable def cO6 (K:Frag):R2:=fun x y H Q=>∃ a b xs ys,x=.ref a/\y=.ref b/\SqT K H a xs/\SqT K H b ys/\xs≠[]/\xs.length+ys.length<=sizeLine /\
 (ys=[]->Q (.ref a) H)/\(ys≠[]->∀ p,H p=none->Q (.ref p) (upd H p (.tup (xs++ys))))
def Vals.nil_iff {xs:List V} {us:List Value} (r:Vals xs us):us=[] ↔ xs=[]:=by
 cases r with
 | nil=>simp
 | cons _ _=>simp
def aY3:OpR X (binaryOp .Add) (cO6 X.K):=by
 intro pins s σ H x y v u Q I rx ry h;obtain ⟨a,b,xs,ys,rfl,rfl,ha,hb,hx,hz,q1,q2⟩:=h;cases rx;cases ry;obtain ⟨its,r1,p1,_⟩:=I.tuple ha;obtain ⟨its2,r2,p2,_⟩:=I.tuple hb;refine HT.cat_tup p1 p2 (fun z=>hx (r1.nil_iff.mp z)) (fun z=>⟨.ref a,H,I,rfl,q1 (r2.nil_iff.mp z)⟩) (fun z=>?_) (by rw [<- r1.length,<- r2.length];exact hz);refine ⟨.ref s.heap.objs.size,_,I.laid (t':=s.toks) (o:=.tup (xs++ys)) (fun b ob q=>Heap.get?_push_of_some _ q) (Nat.le_refl _) ?_,rfl,q2 (fun w=>z (r2.nil_iff.mpr w)) _ (I.hok.fresh (Nat.le_refl _))⟩;exact ⟨by rw [List.length_append];exact hz,_,r1.append r2,IsTupD.new _ _⟩
end
noncomputable def ixN (n:Nat) (i:Int):Option Nat:=if 0<=i then (if i < n then some i.toNat else none) else if -(n:Int)<=i then some (i+n).toNat else none
noncomputable def atI {α:Type} (xs:List α) (i:Int):Option α:=(ixN xs.length i).bind fun j=>xs[j]?
def qI {n:Nat} {i:Int} {j:Nat} (h:ixN n i=some j):seqIndex? i n=some j/\j < n/\-(n:Int)<=i/\i < n:=by
 unfold ixN at h
 by_cases h0:0<=i
 ·rw [if_pos h0] at h
  by_cases h1:i < n
  ·rw [if_pos h1] at h;have e:i.toNat=j:=Option.some.inj h;exact ⟨by rw [seqIndex_of h0 h1,e],by omega,by omega,h1⟩
  ·rw [if_neg h1] at h;cases h
 ·rw [if_neg h0] at h
  by_cases h1:-(n:Int)<=i
  ·rw [if_pos h1] at h;have e:(i+n).toNat=j:=Option.some.inj h;exact ⟨by rw [seqIndex_neg (by omega) h1,e],by omega,h1,by omega⟩
  ·rw [if_neg h1] at h;cases h
def xP {α:Type} {xs:List α} {i:Int} {v:α} (h:atI xs i=some v):∃ j,seqIndex? i xs.length=some j/\xs[j]?=some v/\j < xs.length/\-(xs.length:Int)<=i/\i < xs.length:=by
 unfold atI at h;cases e:ixN xs.length i with
 | none=>rw [e] at h;cases h
 | some j =>
  rw [e] at h;obtain ⟨h1,h2,h3,h4⟩:=qI e;exact ⟨j,h1,h,h2,h3,h4⟩
def fO {α:Type} {xs:List α} {j:Nat} {v:α} (h:xs[j]?=some v):atI xs (j:Int)=some v:=by
 have hj:j < xs.length:=(List.getElem?_eq_some_iff.mp h).1;have e:ixN xs.length (j:Int)=some j:=by
  unfold ixN;rw [if_pos (by omega),if_pos (by omega)];simp
 unfold atI;rw [e];exact h
def iT (b:Expr):Prop:=∀ o i,subscripted b false o i=operate [o,i] (getItem o i)
def IxR (X:Cx) (r:R2):Prop :=
 ∀ (value slice:Expr) (pins:List (Addr×Obj)) (s:Shared) (σ:St) (H:Hp) (x y:V) (v u:Value) (Q:VK),Inv X pins σ H s->RelV x v->RelV y u->r x y H Q ->
  subscripted slice false v u=operate [v,u] (getItem v u)->wpAny (model X.prog X.w) X.A (subscriptTail value slice v u) (EP X pins σ Q) X.xe s
def MtR (X:Cx) (id:String) (r:V->List V->Hp->VK->Prop):Prop :=
 ∀ (pins:List (Addr×Obj)) (s:Shared) (σ:St) (H:Hp) (x:V) (xs:List V) (v:Value) (us:List Value) (Q:VK),Inv X pins σ H s->RelV x v->Vals xs us->r x xs H Q ->
  wpAny (model X.prog X.w) X.A (call (.builtin id) (v::us)) (EP X pins σ Q) X.xe s
section
variable {X:Cx} {a b:Expr} {ta tb:TE} {pos:Pos}
def aJ4 {r:R2} (hr:IxR X r) (ha:PE X a ta) (hb:PE X b tb) (hs:iT b):PE X (.Subscript a b pos) (tOp r ta tb):=by
 intro pins s σ H Q I h;exact Subscript_ (bT0 ha hb I h fun v u s2 x y H2 I2 rx ry q=>hr a b pins s2 σ H2 x y v u Q I2 rx ry q (hs _ _))
noncomputable def dF6 (K:Frag):R2:=fun x y H Q=>∃ p xs i v,x=.ref p/\y=.int i/\SqL K H p xs/\atI xs i=some v/\Q v H
noncomputable def dF7 (K:Frag):R2:=fun x y H Q=>∃ p xs i v,x=.ref p/\y=.int i/\SqT K H p xs/\atI xs i=some v/\Q v H
def xQ:IxR X (dF6 X.K):=by
 intro value slice pins s σ H x y v u Q I rx ry h hs;obtain ⟨p,xs,i,z,rfl,rfl,hq,he,q⟩:=h;cases rx;obtain ⟨t,rfl⟩:=ry;obtain ⟨its,r,pl,hz⟩:=I.list hq;obtain ⟨j,h1,h2,h3,h4,h5⟩:=xP he;obtain ⟨w,ew,rw'⟩:=r.get h2;have hl:=r.length;have hn:=qF;have fin:EP X pins σ Q w s:=⟨z,H,I,rw',q⟩
 by_cases h0:0<=i
 ·have hj:i.toNat=j:=by
   rw [seqIndex_of h0 h5] at h1;exact Option.some.inj h1
  exact item_listR pl.isList h0 (by omega) (by rw [hj];simpa using ew) fin hs
 ·have hj:(i+(its.toArray.size:Int)).toNat=j:=by
   rw [seqIndex_neg (by omega) h4] at h1;rw [List.size_toArray,<- hl];exact Option.some.inj h1
  exact subscriptTail_builtinR (x:=w) pl.isList.typeIs slot_list_getitem.lookup
   (wpAny_getItem_list_neg (Q:=fun r s'=>r=w/\EP X pins σ Q r s') pl.isList (by omega) (by rw [List.size_toArray]<;>omega) (by omega) (by rw [hj];simpa using ew) ⟨rfl,fin⟩) hs
def bU5:IxR X (dF7 X.K):=by
 intro value slice pins s σ H x y v u Q I rx ry h hs;obtain ⟨p,xs,i,z,rfl,rfl,hq,he,q⟩:=h;cases rx;obtain ⟨t,rfl⟩:=ry;obtain ⟨its,r,pl,hz⟩:=I.tuple hq;obtain ⟨j,h1,h2,h3,h4,h5⟩:=xP he;obtain ⟨w,ew,rw'⟩:=r.get h2;have hl:=r.length;have hn:=qF;have fin:EP X pins σ Q w s:=⟨z,H,I,rw',q⟩;exact subscriptTail_builtinR (x:=w) pl.typeIs slot_tuple_getitem.lookup
  (getItem_tuple (j:=j) (Q:=fun r s'=>r=w/\EP X pins σ Q r s') pl (by omega) (by omega) (by rw [List.size_toArray,<- hl];exact h1) (by simpa using ew) ⟨rfl,fin⟩) hs
def vS (its:List Value) (n j:Nat) (u:Value):Obj.mapSeq (·.setIfInBounds j u) { cls:=.type "list",data:=.seq its.toArray n }={ cls:=.type "list",data:=.seq (its.set j u).toArray n }:=by
 simp [Obj.mapSeq]
def Inv.lst {pins:List (Addr×Obj)} {σ:St} {H:Hp} {s:Shared} {p:Addr} {xs:List V} (I:Inv X pins σ H s) (h:H p=some (.lst xs)) :
  ∃ (its:List Value) (n:Nat),Vals xs its/\s.heap.get? p=some { cls:=.type "list",data:=.seq its.toArray n }/\xs.length<=sizeLine:=by
 obtain ⟨z,its,n,r,e⟩:=I.hok p _ h;exact ⟨its,n,r,e,z⟩
def Inv.lstUpd {pins:List (Addr×Obj)} {σ:St} {H:Hp} {s:Shared} {p:Addr} {xs ys:List V} {its its':List Value} {n n':Nat} {f:Obj->Obj} (I:Inv X pins σ H s) (h:H p=some (.lst xs))
  (ho:s.heap.get? p=some { cls:=.type "list",data:=.seq its.toArray n }) (hf:f { cls:=.type "list",data:=.seq its.toArray n }={ cls:=.type "list",data:=.seq its'.toArray n' }) (r:Vals ys its') (hz:ys.length<=sizeLine) (t:Nat) :
  Inv X pins σ (upd H p (.lst ys)) { s with heap:=s.heap.update p f,toks:=t }:=by
 have e:(s.heap.update p f).get? p=some { cls:=.type "list",data:=.seq its'.toArray n' }:=by
  rw [Heap.get?_update_self f ho (by rw [hf]<;>rfl),hf]
 refine I.write (x:=p) (e:=p) (by rw [h];trivial) (.inl rfl) (fun b u hb q=>(Heap.get?_update_other _ _ (Ne.symm hb)).trans q) ⟨_,e⟩ ?_;exact ⟨hz,its',n',r,e⟩
noncomputable def bL0:V->V->V->Hp->(Hp->Prop)->Prop:=fun o i v H Q=>∃ p xs k j,o=.ref p/\i=.int k/\H p=some (.lst xs)/\ixN xs.length k=some j/\Q (upd H p (.lst (xs.set j v)))
def aJ5:bS5 X bL0:=by
 intro pins s σ H o i v ov iv u Q I ro ri rv h;obtain ⟨p,xs,k,j,rfl,rfl,hp,hj,q⟩:=h;cases ro;obtain ⟨t,rfl⟩:=ri;obtain ⟨its,n,r,ho,hz⟩:=I.lst hp;obtain ⟨h1,h2,h3,h4⟩:=qI hj;have hl:=r.length;have hn:=qF;have I':Inv X pins σ (upd H p (.lst (xs.set j v))) { s with heap:=s.heap.update p (Obj.mapSeq (·.setIfInBounds j u)) } :=
  I.lstUpd hp ho (vS its n j u) (r.set rv j) (by rw [List.length_set];exact hz) s.toks
 by_cases h0:0<=k
 ·have hk:k.toNat=j:=by
   rw [seqIndex_of h0 h4] at h1;exact Option.some.inj h1
  exact PySem.W.ki_setAt ho h0 (by omega) (by rw [List.size_toArray,<- hl];exact h4) (by rw [hk];exact ⟨_,I',q⟩)
 ·have hk:(k+(its.toArray.size:Int)).toNat=j:=by
   rw [seqIndex_neg (by omega) h3] at h1;rw [List.size_toArray,<- hl];exact Option.some.inj h1
  exact PySem.W.ki_setBack ho (by omega) (by rw [List.size_toArray,<- hl];exact h3) (by omega) (by rw [hk];exact ⟨_,I',q⟩)
def qJ (lo hi:Option Int) (n:Nat):(sliceBounds lo hi none n).1=((HT.sIx n 0 lo:Nat):Int)/\(sliceBounds lo hi none n).2.1=((HT.sIx n n hi:Nat):Int)/\(sliceBounds lo hi none n).2.2=1:=by
 refine ⟨?_,?_,rfl⟩
 ·cases lo with
  | none=>simp [sliceBounds,HT.sIx]
  | some i =>
   simp only [sliceBounds,HT.sIx,Option.getD_none,show (1:Int) > 0 by decide,if_true]
   by_cases h:i < 0
   ·simp only [h,if_true]<;>omega
   ·simp only [h,if_false]<;>omega
 ·cases hi with
  | none=>simp [sliceBounds,HT.sIx]
  | some i =>
   simp only [sliceBounds,HT.sIx,Option.getD_none,show (1:Int) > 0 by decide,if_true]
   by_cases h:i < 0
   ·simp only [h,if_true]<;>omega
   ·simp only [h,if_false]<;>omega
def nK (its:List Value) (lo hi:Option Int):slicePick its.toArray lo hi none=((its.drop (HT.sIx its.length 0 lo)).take (HT.sIx its.length its.length hi - HT.sIx its.length 0 lo)).toArray:=by
 obtain ⟨h1,h2,h3⟩:=qJ lo hi its.toArray.size;unfold slicePick;rw [h1,h2,h3];simp only [sliceRange_one,pick_run,List.size_toArray]<;>rfl
noncomputable def dF8 (K:Frag):V->Option Int->Option Int->Hp->VK->Prop:=fun x lo hi H Q=>∃ a xs,x=.ref a/\SqL K H a xs/\∀ p,H p=none->Q (.ref p) (upd H p (.lst (sO xs lo hi)))
def aY4:SlR X (dF8 X.K):=by
 intro pins s σ H x v vl vu lo hi sl Q I rx hs pl pu h;obtain ⟨a,xs,rfl,hx,q⟩:=h;cases rx;obtain ⟨its,r,ht,hz⟩:=I.list hx;have hlen:=r.length;refine ⟨"list",_,slot_list_getitem.lookup,ht.isList.typeIs,?_⟩;refine wpAny_getItem_list_slice ht.isList hs pl pu .none (by simp) ?_ (by rw [List.size_toArray]<;>omega);rw [nK,<- hlen];refine ⟨.ref s.heap.objs.size,_,I.laid (t':=s.toks) (o:=.lst (sO xs lo hi)) (fun b ob q=>Heap.get?_push_of_some _ q) (Nat.le_refl _) ?_,rfl,q _ (I.hok.fresh (Nat.le_refl _))⟩;exact ⟨Nat.le_trans (kH xs lo hi) hz,_,0,(r.drop (HT.sIx xs.length 0 lo)).take (HT.sIx xs.length xs.length hi - HT.sIx xs.length 0 lo),Heap.get?_push_size _ rfl⟩
def iU:cQ X (.builtin "len") (fun xs H Q=>∃ p ys,xs=[.ref p]/\(SqL X.K H p ys\/SqT X.K H p ys)/\Q (.int ys.length) H):=by
 intro pins s σ H xs us Q I r h;obtain ⟨p,ys,rfl,hq,q⟩:=h;obtain ⟨u,rfl,rx⟩:=kE r;cases rx;have hn:=qF;rcases hq with hq | hq
 ·obtain ⟨its,r',pl,hz⟩:=I.list hq;have hlen:=r'.length;exact Calls.call_len_list pl.isList (by simp only [List.size_toArray]<;>omega) ⟨.int ys.length,H,I.tok _,⟨s.toks+1,by rw [List.size_toArray,hlen]⟩,q⟩
 ·obtain ⟨its,r',pl,hz⟩:=I.tuple hq;have hlen:=r'.length;exact len_tuple pl (by simp only [List.size_toArray]<;>omega) ⟨.int ys.length,H,I.tok _,⟨s.toks+1,by rw [List.size_toArray,hlen]⟩,q⟩
def qK:cQ X (.type "list") (fun xs H Q=>∃ p ys,xs=[.ref p]/\(SqL X.K H p ys\/SqT X.K H p ys)/\∀ l,H l=none->Q (.ref l) (upd H l (.lst ys))):=by
 intro pins s σ H xs us Q I r h;obtain ⟨p,ys,rfl,hq,q⟩:=h;obtain ⟨u,rfl,rx⟩:=kE r;cases rx;have fin:∀ (its:List Value),Vals ys its->ys.length<=sizeLine->∀ (h':Heap) (c':Nat),(∀ b o',s.heap.get? b=some o'->h'.get? b=some o') ->
   h'.get? s.heap.objs.size=some { cls:=.type "list",dict:=none,data:=.seq its.toArray c',slots:=#[] }->EP X pins σ Q (.ref s.heap.objs.size) { s with heap:=h' }:=fun its r' hz h' c' kp e =>
  ⟨.ref s.heap.objs.size,_,I.laid (t':=s.toks) kp (Nat.le_refl _) (show ObjOk X.prog X.w _ h' _ (.lst ys) from ⟨hz,its,c',r',e⟩),rfl,q _ (I.hok.fresh (Nat.le_refl _))⟩
 rcases hq with hq | hq
 ·obtain ⟨its,r',pl,hz⟩:=I.list hq;have hlen:=r'.length;obtain ⟨o,ho,hc,n,hd⟩:=pl.isList;exact call_list_seq p (.inl rfl) ho hc hd (fun h' c' kp e=>fin its r' hz h' c' kp e) (by simp only [List.size_toArray]<;>omega)
 ·obtain ⟨its,r',pl,hz⟩:=I.tuple hq;have hlen:=r'.length;obtain ⟨o,ho,hc,n,hd⟩:=pl;exact call_list_seq p (.inr rfl) ho hc hd (fun h' c' kp e=>fin its r' hz h' c' kp e) (by simp only [List.size_toArray]<;>omega)
def iC:cQ X (.type "tuple") (fun xs H Q=>∃ p ys,xs=[.ref p]/\((SqL X.K H p ys/\∀ l,H l=none->Q (.ref l) (upd H l (.tup ys)))\/(SqT X.K H p ys/\Q (.ref p) H))):=by
 intro pins s σ H xs us Q I r h;obtain ⟨p,ys,rfl,h⟩:=h;obtain ⟨u,rfl,rx⟩:=kE r;cases rx;rcases h with ⟨hq,q⟩ | ⟨hq,q⟩
 ·obtain ⟨its,r',pl,hz⟩:=I.list hq;have hlen:=r'.length;refine call_tuple_list pl.isList (fun h' kp=>?_) (by simp only [List.size_toArray]<;>omega);have I1:Inv X pins σ H { s with heap:=h' }:=I.kept (t':=s.toks) kp;have I2:Inv X pins σ (upd H h'.objs.size (.tup ys)) { s with heap:=h'.push { cls:=.type "tuple",data:=.seq its.toArray } } :=
   I1.laid (t':=s.toks) (fun b o e=>Heap.get?_push_of_some _ e) (Nat.le_refl _) (show ObjOk X.prog X.w _ _ _ (.tup ys) from ⟨hz,its,r',IsTupD.new _ _⟩)
  exact ⟨.ref h'.objs.size,_,I2,rfl,q _ (I1.hok.fresh (Nat.le_refl _))⟩
 ·obtain ⟨its,r',pl,hz⟩:=I.tuple hq;exact call_tuple_same pl ⟨.ref p,H,I,rfl,q⟩
def tyV (K:Frag) (T:String) (x:V) (H:Hp):Prop:=match x with
 | .str _=>T="str"
 | .int _=>T="int"
 | .ref p=>(T="list"/\∃ xs,SqL K H p xs)\/(T="tuple"/\∃ o,K.lookup p=some o/\o.cls=.type "tuple"/\o.dict=none) \/
   (T="dict"/\((∃ kvs,H p=some (.dK kvs))\/∃ kvs,H p=some (.dT kvs)))\/(T="set"/\∃ S n,H p=some (.set S n))
 | _=>False
def bU6 {pins:List (Addr×Obj)} {σ:St} {H:Hp} {s:Shared} {T:String} {x:V} {v:Value} (I:Inv X pins σ H s) (r:RelV x v) (ty:tyV X.K T x H) :
  s.TypeIs v T/\∀ a,v=.ref a->∃ ob,s.heap.get? a=some ob/\ob.dict=none:=by
 cases x with
 | str z =>
  obtain ⟨t,rfl⟩:=r;cases (show T="str" from ty);exact ⟨typeIs_str s z t,fun _ e=>nomatch e⟩
 | int i =>
  obtain ⟨t,rfl⟩:=r;cases (show T="int" from ty);exact ⟨typeIs_int s i t,fun _ e=>nomatch e⟩
 | ref p =>
  cases r;rcases ty with ⟨rfl,xs,hq⟩ | ⟨rfl,o,hk,hc,hd⟩ | ⟨rfl,hk⟩ | ⟨rfl,S,n,hk⟩
  ·obtain ⟨its,_,pl,_⟩:=I.list hq;refine ⟨pl.isList.typeIs,fun a e=>?_⟩;cases e;obtain ⟨o,n,e,c,hd,_⟩:=pl;exact ⟨o,e,hd⟩
  ·refine ⟨⟨o,I.kIn p o hk,hc⟩,fun a e=>?_⟩;cases e;exact ⟨o,I.kIn _ o hk,hd⟩
  ·have z:∃ o,s.heap.get? p=some o/\o.ExactDict:=by
    rcases hk with ⟨kvs,hk⟩ | ⟨kvs,hk⟩
    ·obtain ⟨_,_,_,_,o,_,_,e,ex,_⟩:=I.hok p _ hk;exact ⟨o,e,ex⟩
    ·obtain ⟨_,_,_,_,o,_,_,e,ex,_⟩:=I.hok p _ hk;exact ⟨o,e,ex⟩
   obtain ⟨o,e,ex⟩:=z;refine ⟨⟨o,e,ex.1⟩,fun a e2=>?_⟩;cases e2;exact ⟨o,e,ex.2.1⟩
  ·obtain ⟨o,_,_,_,e,ex,_⟩:=I.hok p _ hk;refine ⟨⟨o,e,ex.1⟩,fun a e2=>?_⟩;cases e2;exact ⟨o,e,ex.2.1⟩
 | _=>exact False.elim ty
def tBM (K:Frag) (T:String) (r:V->List V->Hp->VK->Prop) (to:TE) (t:TA):TE:=fun σ H Q=>to σ H fun x H1=>tyV K T x H1/\t σ H1 fun xs H2=>r x xs H2 Q
variable {o e:Expr} {es:List Expr} {to:TE} {t:TA} {name:Str} {apos cpos:Pos} {T id:String} {r:V->List V->Hp->VK->Prop}
def aJ6 (pa:PlainAttrs T) (slot:Slot T name id) (hty:typeOf (.builtin id)=pure (.type "method_descriptor")) (hm:MtR X id r) (ho:PE X o to) (ha:PA X (e::es) t)
  (hbase:autoParam (attributeBase o name X.env (eval o X.env)=eval o X.env) ZR)
  (hfew:((backTo cpos (starEach (e::es) X.env)).all (fun x=>!x.1)&&(backToKw cpos (keywordEach [] X.env)).all (fun x=>x.1.isSome)
   && decide ((e::es).length+([]:List Keyword).length+(if ([]:List Keyword).isEmpty then 0 else 1) < 30))=true:=by rfl)
  (hline:autoParam ((apos.endLine==cpos.line)=true) ZR) (hs:autoParam (starEach (e::es) X.env=(false,eval e X.env)::starEach es X.env) ZR) (hplain:autoParam ((backTo cpos (starEach es X.env)).any (·.1)=false) ZR) :
  PE X (.Call (.Attribute o name apos) (e::es) [] cpos) (tBM X.K T r to t):=by
 intro pins s σ H Q I h;refine wpAny_Call_method_late hbase hfew hline rfl (thn (ho pins s σ H _ I h) fun v s1 ⟨x,H1,I1,r1,ty,q1⟩=>?_);obtain ⟨h1,h2⟩:=bU6 I1 r1 ty;refine ⟨T,id,pa,slot,hty,h1,h2,?_⟩;have hA:=ha cpos pins s1 σ H1 _ I1 q1;rw [hs] at hA ⊢;refine Calls.callWith_builtin (by show (false||(backTo cpos (starEach es X.env)).any (·.1))=false;rw [hplain]<;>rfl) (Calls.evalArgs_plain ?_);exact thn hA fun us s2 ⟨vs,H2,I2,r2,q2⟩=>hm pins s2 σ H2 x vs v us Q I2 r1 r2 q2
/- xs.append(e),list.index on a module's tuple .. are MtR facts of 06m -/
end
def MtM (X:Cx) (id:String) (r:V->List V->Hp->VK->Prop):Prop :=
 ∀ (pins:List (Addr×Obj)) (s:Shared) (σ:St) (H:Hp) (x:V) (xs:List V) (v:Value) (us:List Value) (Q:VK),Inv X pins σ H s->RelV x v->Vals xs us->r x xs H Q ->
  wpAny (model X.prog X.w) X.A (call (.builtin id) (v::us)) (EP X pins σ Q) X.xe s
theorem Vals.one:∀ {x:V} {us:List Value},Vals [x] us->∃ u,us=[u]/\RelV x u
 | _,_,.cons r .nil=>⟨_,rfl,r⟩
theorem Vals.eraseIdx:∀ {xs:List V} {us:List Value} (i:Nat),Vals xs us->Vals (xs.eraseIdx i) (us.eraseIdx i)
 | _,_,_,.nil=>.nil
 | _,_,0,.cons _ t=>t
 | _,_,i+1,.cons r t=>.cons r (Vals.eraseIdx i t)
theorem Vals.rep {xs:List V} {us:List Value} (h:Vals xs us):∀ k:Nat,Vals (List.replicate k xs).flatten (List.replicate k us).flatten
 | 0=>.nil
 | k+1=>by
  rw [List.replicate_succ,List.replicate_succ,List.flatten_cons,List.flatten_cons];exact Vals.append h (Vals.rep h k)
theorem oE {α:Type}:∀ (l:List α) (i:Nat),(l.eraseIdx i).length<=l.length
 | [],_=>Nat.le_refl _
 | _::_,0=>Nat.le_succ _
 | _::r,i+1=>Nat.succ_le_succ (oE r i)
theorem oF (its:List Value):∀ (k:Nat) (acc:List Value),
  List.foldl (fun x1 x2=>x1++x2) acc.toArray (List.replicate k its.toArray)=(acc++(List.replicate k its).flatten).toArray
 | 0,acc=>by simp
 | k+1,acc=>by
  have e:acc.toArray++its.toArray=(acc++its).toArray:=by simp
  have e2:(acc++its)++(List.replicate k its).flatten=acc++(List.replicate (k+1) its).flatten:=by
   rw [List.replicate_succ,List.flatten_cons,List.append_assoc]
  rw [<- e2,<- oF its k (acc++its),<- e,List.replicate_succ,List.foldl_cons]
section
variable {X:Cx} {pins:List (Addr×Obj)} {σ:St} {H:Hp} {s:Shared} {l b:Addr} {xs ys zs:List V}
def Inv.lset {its its':List Value} {n:Nat} {f:Array Value->Array Value} {t':Nat} (I:Inv X pins σ H s) (hH:H l=some (.lst xs))
  (e:s.heap.get? l=some { cls:=.type "list",data:=.seq its.toArray n }) (hf:f its.toArray=its'.toArray) (hv:Vals ys its') (hz:ys.length<=sizeLine) :
  Inv X pins σ (upd H l (.lst ys)) { s with heap:=s.heap.update l (Obj.mapSeq f),toks:=t' }:=by
 have q:=PySem.IsL.update e f;rw [hf] at q;refine I.write (x:=l) (e:=l) (by rw [hH];exact trivial) (.inl rfl) (fun b' u hb hu=>(Heap.get?_update_other s.heap (Obj.mapSeq f) (Ne.symm hb)).trans hu) ⟨_,q⟩ ?_;exact ⟨hz,its',_,hv,q⟩
def Inv.lnew {its:List Value} {t':Nat} (I:Inv X pins σ H s) (hv:Vals ys its) (hz:ys.length<=sizeLine) :
  Inv X pins σ (upd H s.heap.objs.size (.lst ys)) { s with heap:=s.heap.push { cls:=.type "list",data:=.seq its.toArray },toks:=t' } :=
 I.laid (fun _ _ q=>Heap.get?_push_of_some _ q) (Nat.le_refl _) ⟨hz,its,0,hv,Heap.get?_push_size _ rfl⟩
def Inv.fresh (I:Inv X pins σ H s):H s.heap.objs.size=none:=I.hok.fresh (Nat.le_refl _)
def Inv.lstM (I:Inv X pins σ H s) (hH:H l=some (.lst xs)):xs.length<=sizeLine/\∃ (its:List Value) (n:Nat),Vals xs its/\xs.length=its.length/\s.heap.get? l=some { cls:=.type "list",data:=.seq its.toArray n }:=by
 obtain ⟨z,its,n,r,e⟩:=I.hok l _ hH;exact ⟨z,its,n,r,r.length,e⟩
def sP {n:Nat} (h:n<=sizeLine):Builtin.List.listTooLong n=false:=by
 unfold Builtin.List.listTooLong;exact decide_eq_false (by omega)
end
section
variable {X:Cx}
noncomputable def aY5:V->List V->Hp->VK->Prop:=fun x vs H Q=>∃ l xs y,x=.ref l/\vs=[y]/\H l=some (.lst xs)/\xs.length < sizeLine/\Q .non (upd H l (.lst (xs++[y])))
def oG:MtM X "list.append" aY5:=by
 intro pins s σ H x vs v us Q I rx rv h;obtain ⟨l,xs,y,rfl,rfl,hH,hz,q⟩:=h;cases rx;obtain ⟨u,rfl,ru⟩:=rv.one;obtain ⟨z,its,n,r,hl,e⟩:=I.lstM hH;refine call_meets F.slot_list_append ⟨_,e,rfl⟩ F.entry_list_append (F.args_list_append_2 _ _) (PySem.list_append l its.toArray n u (by rw [List.size_toArray];omega)) ⟨e,?_⟩;refine ⟨.non,_,I.lset (its':=its++[u]) hH e (by simp) (r.append (.cons ru .nil)) ?_,rfl,q⟩;rw [List.length_append,List.length_singleton];omega
noncomputable def aY6:V->List V->Hp->VK->Prop:=fun x vs H Q=>∃ l b xs zs,x=.ref l/\vs=[.ref b]/\H l=some (.lst xs)/\H b=some (.lst zs)/\xs.length+zs.length<=sizeLine/\Q .non (upd H l (.lst (xs++zs)))
def zX:MtM X "list.extend" aY6:=by
 intro pins s σ H x vs v us Q I rx rv h;obtain ⟨l,b,xs,zs,rfl,rfl,hH,hB,hz,q⟩:=h;cases rx;obtain ⟨u,rfl,ru⟩:=rv.one;cases ru;obtain ⟨z,its,n,r,hl,e⟩:=I.lstM hH;obtain ⟨z2,its2,n2,r2,hl2,e2⟩:=I.lstM hB;have hsz:its.toArray.size+its2.toArray.size<=sizeLine:=by rw [List.size_toArray,List.size_toArray];omega
 have hlong:¬ (!its.toArray.isEmpty&&Builtin.List.listTooLong (its.toArray.size+its2.toArray.size))=true:=by
  rw [sP hsz,Bool.and_false];exact Bool.false_ne_true
 refine call_meets F.slot_list_extend ⟨_,e,rfl⟩ F.entry_list_extend (F.args_list_extend_2 _ _)
  (AutoSeq1.list_extend_list_list_0 l its.toArray n b its2.toArray n2 hlong (by rw [List.size_toArray];omega) (by omega)) ⟨e,e2,?_⟩
 refine ⟨.non,_,I.lset (its':=its++its2) hH e (by simp) (r.append r2) ?_,rfl,q⟩;rw [List.length_append];omega
noncomputable def bU7:V->List V->Hp->VK->Prop:=fun x vs H Q=>∃ l xs i k y,x=.ref l/\vs=[.int i]/\H l=some (.lst xs)/\-(2^63)<=i/\i < 2^63/\seqIndex? i xs.length=some k/\xs[k]?=some y/\Q y (upd H l (.lst (xs.eraseIdx k)))
def aJ7:MtM X "list.pop" bU7:=by
 intro pins s σ H x vs v us Q I rx rv h;obtain ⟨l,xs,i,k,y,rfl,rfl,hH,h1,h2,hk,hy,q⟩:=h;cases rx;obtain ⟨u,rfl,ru⟩:=rv.one;obtain ⟨t,rfl⟩:=ru;obtain ⟨z,its,n,r,hl,e⟩:=I.lstM hH;obtain ⟨w,hw,rw'⟩:=r.get hy;refine call_meets F.slot_list_pop ⟨_,e,rfl⟩ F.entry_list_pop (F.args_list_pop_2 _ _)
  (MeetsSeq.list_pop_at l its.toArray n i t k w (fitsIndex_both h1 h2) (by rw [List.size_toArray,<- hl];exact hk) (by rw [<- Array.getElem?_toList];exact hw) (by rw [List.size_toArray];omega)) ⟨e,?_⟩
 refine ⟨y,_,I.lset (its':=its.eraseIdx k) hH e ?_ (r.eraseIdx k) ?_,rw',q⟩
 ·show its.toArray.eraseIdxIfInBounds k=(its.eraseIdx k).toArray;rw [List.eraseIdxIfInBounds_toArray]
 ·have:=oE xs k;omega
noncomputable def dF9:R2:=fun x y H Q=>∃ l k xs,x=.ref l/\y=.int k/\H l=some (.lst xs)/\-(2^63)<=k/\k < 2^63/\xs.length*k.toNat<=sizeLine /\
 ∀ p,H p=none->Q (.ref p) (upd H p (.lst (List.replicate k.toNat xs).flatten))
def aY7 {α:Type} (xs:List α) (k:Nat):(List.replicate k xs).flatten.length=k*xs.length:=by
 induction k with
 | zero=>simp
 | succ k ih=>rw [List.replicate_succ,List.flatten_cons,List.length_append,ih,Nat.succ_mul,Nat.add_comm]
def bU8:OpR X (binaryOp .Mult) dF9:=by
 intro pins s σ H x y v u Q I rx ry h;obtain ⟨l,k,xs,rfl,rfl,hH,h1,h2,hz,q⟩:=h;cases rx;obtain ⟨t,rfl⟩:=ry;obtain ⟨z,its,n,r,hl,e⟩:=I.lstM hH;have hlen:its.toArray.size*k.toNat<=sizeLine:=by rw [List.size_toArray,<- hl];exact hz
 have hcap:¬ its.toArray.size*k.toNat > (2^63 - 1) / 8:=by
  have:(sizeLine:Nat)<=(2^63 - 1) / 8:=by decide
  omega
 have hfit:¬ (!Builtin.List.listFitsIndex k)=true:=by
  rw [fitsIndex_both h1 h2];exact Bool.false_ne_true
 have hlong:¬ Builtin.List.listTooLong (its.toArray.size*k.toNat)=true:=by
  rw [sP hlen];exact Bool.false_ne_true
 have hnew:List.foldl (fun x1 x2=>x1++x2) #[] (List.replicate (if its.toArray.isEmpty=true then 0 else k.toNat) its.toArray)=(List.replicate k.toNat its).flatten.toArray:=by
  have f0:∀ m:Nat,List.foldl (fun x1 x2=>x1++x2) #[] (List.replicate m its.toArray)=(List.replicate m its).flatten.toArray:=fun m=>by
   have:=oF its m [];rw [List.nil_append] at this;exact this
  rw [f0];cases its with
  | nil=>simp
  | cons a r'=>rw [if_neg (by simp)]
 refine wpAny_binaryOp_repeat_ref (T:="list") (U:="int") (by decide) ⟨_,e,rfl⟩ (fun s'=>typeIs_int s' k t) noFill_list_mul F.fills_int_mul F.slot_int_rmul repeat_list F.slot_int_index.lookup
  (call_meets F.slot_int_rmul (typeIs_int s k t) F.entry_int_rmul (F.args_int_rmul_2 _ _) (int___rmul___int_list k t l its.toArray n)
   ⟨e,rfl,⟨_,e,rfl⟩,call_meets F.slot_list_mul ⟨_,e,rfl⟩ F.entry_list_mul (F.args_list_mul_2 _ _) (AutoListH.list___mul___list_int_3 l its.toArray n k t hfit hcap hlong) ⟨e,?_⟩⟩)
 rw [hnew];exact ⟨.ref _,_,I.lnew (t':=s.toks) (r.rep k.toNat) (by rw [aY7,Nat.mul_comm];exact hz),rfl,q _ I.fresh⟩
end
section
variable {prog:Program} {w:World} {A:Around} {E:Value->Shared->Prop} {s:Shared}
set_option maxRecDepth 100000 in
end
section
variable {X:Cx}
end
end L2
namespace Att
open PySem PySem.W PySem.Calls PyProof.Rows
def kU {P:Params} {h:Heap}:∀ (ns:List Int) (vs:List Value),WellAll P h vs (ns.map WData.int)->IntsAre vs ns:=by
 intro ns;induction ns with
 | nil =>
  intro vs w;rw [List.map_nil] at w;cases w;exact .nil
 | cons n ns ih =>
  intro vs w;rw [List.map_cons] at w;cases w with
  | cons a b =>
   cases a;exact .cons _ _ (ih _ b)
def zY {l:OpenLaw} {n:Nat} (hn:l.most=some n) {P:Params} {h:Heap} {args:List WData} {vals:List Value}
  (hpre:l.row.toRowW.claim.pre args=true) (hwl:WellAll P h vals args) :
  ∃ a vs ns,vals=[Value.ref a]/\args=[WData.list (ns.map WData.int)]/\h.get? a=some { cls:=.type "list",data:=.seq vs.toArray }/\IntsAre vs ns/\ns.length<=n:=by
 have hsh:WShape.hasAll [] args [.list .int]=true:=(pre_splitW hpre).1;have hc:l.pre.holds [] { args:=args }=true:=(pre_splitW hpre).2;obtain ⟨d,r,rfl,h1,h2⟩:=hasAllW_cons hsh;obtain rfl:=hasAllW_nil h2;obtain ⟨xs,rfl,h3⟩:=hasW_list h1;obtain ⟨ns,rfl⟩:=items_int h3;have hlen:ns.length<=n:=by
  unfold OpenLaw.pre at hc;have h4:(WTm.not (.lt (.lit (.int (n:Int))) (.len (.arg 0)))).holds [] { args:=[.list (ns.map .int)] }=true:=by
   have h4:=(holds_andW hc).1;rw [hn] at h4;exact h4
  have h5:=condW_of h4 (w_not (w_lt w_lit (w_len_list (w_arg rfl))));rw [List.length_map] at h5;refine Nat.le_of_not_lt fun q=>?_;have q':(n:Int) < ((ns.length:Nat):Int):=by omega
  first
   | (rw [decide_eq_true q'] at h5;exact absurd h5 (by decide))
   | (simp at h5;omega)
 cases hwl with
 | cons w1 w2 =>
  cases w2;cases w1 with
  | list ho hall=>exact ⟨_,_,ns,rfl,rfl,ho,kU ns _ hall,hlen⟩
def zZ (l:OpenLaw) (args:List WData):l.row.toRowW.claim.post args (.bool true) args=true :=
 postW_of (r:=l.row.toRowW) (X:=(true==true))
  (show WShape.has [] (.bool true) .bool=true by first | rfl | decide | simp [WShape.has,WShape.arms,WShape.armsAll])
  (show (WTm.eq .res (.lit (.bool true))).value [] { args:=args,res:=some (.bool true),after:=args }=some (.bool (true==true)) from w_eq_bool (w_res rfl) w_lit) rfl
def attach_call {l:OpenLaw} {n:Nat} {q:Program} {loose:List Str} {XP:(Str->Option Value)->Heap->Prop} {YP:World->Heap->Prop} {d:DefRec}
  (hn:l.most=some n) (hdf:d.params.defaults=[])
  (call:∀ (w:World) (s₀ s₁:Shared) (mg mb:Str->Option Value) (fa:Addr) (o:Obj) (pm cd doc:Value) (a:Addr) (vs:List Value) (ns:List Int),
   Ground q loose [] XP w s₀ mg mb s₁.heap->YP w s₁.heap ->
   s₁.heap.get? fa=some o->o.data=.func (docDef d.name d.params d.body d.scope pm cd doc)->s₁.heap.CodeRec cd d.name->mg d.name=some (.ref fa) ->
   s₁.heap.get? a=some { cls:=.type "list",data:=.seq vs.toArray }->IntsAre vs ns->ns.length<=n->s₁.gens=#[] ->
   codeAny (model l.prog w) callerA (.call (.ref fa) ⟨[.ref a],[]⟩) (fun r s'=>r=.ok (.ret (.bool true))/\OldK s₁.heap s'.heap/\s'.os=s₁.os/\AllBare s'.gens) s₁) :
  WalkO q loose XP YP l.row.toRowW d [] (fun f vs=>PySem.call f vs):=by
 intro w s₀ s₁ mg mb G Y fa o pm cd doc dV kV ho hd hcd hD hmg hg args vals as hpre hlay hrd hwl hlo;obtain rfl:dV=.none:=Dflts.none hD hdf;obtain rfl:kV=.none:=Dflts.noKw hD;obtain ⟨a,vs,ns,rfl,rfl,hobj,hints,hlen⟩:=zY hn hpre hwl;refine enter_call (codeAny_mono (call w s₀ s₁ mg mb fa o pm cd doc a vs ns G Y ho (fd_plain hd) hcd hmg hobj hints hlen hg) fun r s' hq=>?_);obtain ⟨rfl,h2,h3,h4⟩:=hq;exact ⟨.inl ⟨.bool true,.bool true,[],rfl,fun _=>rfl,.bool true,zZ l _,fun _=>⟨List.Pairwise.nil,fun _ hm=>(nomatch hm)⟩⟩,h2,h3,h4⟩
section
variable {prog:Program} {w:World} {A:Around} {E:Value->Shared->Prop} {s:Shared} {K:Frag}
end
end Att
namespace L2
open PySem PySem.Spec PyProof.Rows
theorem oH:∀ {vs:List Value} {ns:List Int},IntsAre vs ns->Vals (ns.map V.int) vs
 | _,_,.nil=>.nil
 | _,_,.cons n t h=>.cons ⟨t,rfl⟩ (oH h)
def bU9 (H:Hp):Prop:=∀ b,H b=none\/∃ o xs,H b=some (.frz o (.lst xs))
def aJ8 {P:Program} {w:World} {K:Frag} {mg mb:Str->Option Value} {CX:CXT} {k:Nat} {fa a:Addr} {fd:FuncData} {x:Str} {sp:Sp} {s₁:Shared} {vs:List Value} {ns:List Int}
  (KX:K.In s₁.heap) (hns:s₁.heap.Ns mainGlobals mg) (hb:s₁.heap.Ns builtinsNs mb) (hbb:∀ x:Str,x≠"__name__"->mb x=bootBuiltins x) (hlim:s₁.heap.NoLimit) (hg:s₁.gens=#[])
  (ha:s₁.heap.get? a=some { cls:=.type "list",data:=.seq vs.toArray }) (hi:IntsAre vs ns) (hl:ns.length<=sizeLine) (hr:Room k callerA)
  (F:∀ base:Heap,K.In base->base.Ns mainGlobals mg->FnOk P w K mg base CX k fa fd [x] sp) (hbind:∀ (s:Shared) (u:Value),BindsTo s fd ⟨[u],[]⟩ [(x,u)])
  (hsp:∀ H:Hp,bU9 H->SqL K H a (ns.map V.int)->sp [.ref a] H (fun v _=>v=.bl true) fun _ _ _=>False)
  (hCX:∀ H e s',CX [] H s₁ (fun _ _ _=>False) e s'->False) :
  codeAny (model P w) callerA (.call (.ref fa) ⟨[.ref a],[]⟩) (fun r s'=>r=.ok (.ret (.bool true))/\OldK s₁.heap s'.heap/\s'.os=s₁.os/\AllBare s'.gens) s₁:=by
 have rv:=oH hi;have lenV:=hi.length;have core:∀ H:Hp,bU9 H->SqL K H a (ns.map V.int)->HOk P w H s₁.heap->(∀ b,H b≠none->b=a)->(H a≠none->K.lookup a=none) ->
   codeAny (model P w) callerA (.call (.ref fa) ⟨[.ref a],[]⟩) (fun r s'=>r=.ok (.ret (.bool true))/\OldK s₁.heap s'.heap/\s'.os=s₁.os/\AllBare s'.gens) s₁:=by
  intro H hO hS hok hA hK;have base_of:∀ {b:Addr} {o:Obj},s₁.heap.get? b=some o->H b=none->(qC s₁.heap H).get? b=some o:=fun e n=>aH7 e n;have noA:∀ {b:Addr} {o:Obj} {es:Array DictEntry} {ep:Nat},s₁.heap.get? b=some o->o.data=.dict es ep->H b=none:=fun {b o es ep} e d=>by
   cases q:H b with
   | none=>rfl
   | some u =>
    have e':b=a:=hA b (by rw [q];simp);subst e';rw [ha] at e;cases e;have d':Data.seq vs.toArray _=Data.dict es ep:=d;cases d'
  have nsK:∀ {b:Addr} {m:Str->Option Value},s₁.heap.Ns b m->(qC s₁.heap H).Ns b m:=fun {b m} ⟨o,es,ep,e,d,r⟩=>⟨o,es,ep,base_of e (noA e d),d,r⟩;have hKb:K.In (qC s₁.heap H):=fun b o e=>base_of (KX b o e) (by
   cases q:H b with
   | none=>rfl
   | some u =>
    have e':b=a:=hA b (by rw [q];simp);subst e';rw [hK (by rw [q];simp)] at e;cases e)
  have hM:Mod K mg (qC s₁.heap H):=⟨hKb,nsK hns,⟨mb,nsK hb,hbb⟩,let ⟨mc,h1,h2⟩:=hlim;⟨mc,nsK h1,h2⟩⟩;have e0:Env0 P w K mg (qC s₁.heap H) callerA [] s₁ H:=⟨rfl,hM,fun b o e=>aW5 e,Nat.le_of_eq (zP _ _),trivial,fun b hb=>absurd (show b∈([]:List Addr) from hb) (by simp),hok,.of_eq hg⟩;refine codeAny_mono ((F _ hKb (nsK hns)).run callerA [] s₁ H ⟨[.ref a],[]⟩ [.ref a] [.ref a] _ _ hr e0 (hbind s₁ (.ref a)) (.cons rfl .nil) (hsp H hO hS)) fun r s' h=>?_;cases r with
  | error e=>exact (hCX H e s' h).elim
  | ok fl =>
   cases fl with
   | next=>exact False.elim h
   | brk=>exact False.elim h
   | cont=>exact False.elim h
   | ret u =>
    obtain ⟨v,H',os,bare,un,hok',r',q⟩:=h;have q':v=.bl true:=q;subst q';obtain rfl:u=Value.bool true:=r';refine ⟨rfl,OldK.of_keep fun b o e=>?_,os,bare⟩;cases q:H b with
    | none=>exact un.keep b o e q (by intro z;exact absurd (show b∈([]:List Addr) from z) (by simp)) (by simp)
    | some u =>
     rcases hO b with z | ⟨ob,xs,z⟩
     ·rw [q] at z;cases z
     ·have z2:=un.frzs b ob _ z;obtain ⟨e1,_⟩:=hok b _ z;obtain ⟨e2,_⟩:=hok' b _ z2;rw [e] at e1;cases e1;exact e2
 cases hk:K.lookup a with
 | some o =>
  have e:=KX a o hk;rw [ha] at e;cases e;refine core (fun _=>none) (fun _=>.inl rfl) (.inr ⟨_,vs.toArray,_,hk,rfl,rfl,rfl,by rw [List.size_toArray,lenV];exact hl,by simpa using rv⟩) (fun b u z=>by have z':(none:Option HO)=some u:=z;cases z') (fun b z=>absurd rfl z) fun z=>absurd rfl z
 | none =>
  refine core (fun b=>if b=a then some (.frz { cls:=.type "list",data:=.seq vs.toArray } (.lst (ns.map V.int))) else none) (fun b=>?_) (.inl (.inr ⟨{ cls:=.type "list",data:=.seq vs.toArray },if_pos rfl⟩)) (fun b u z=>?_) (fun b z=>?_) fun _=>hk
  ·by_cases hb:b=a
   ·exact .inr ⟨_,_,if_pos hb⟩
   ·exact .inl (if_neg hb)
  ·by_cases hb:b=a
   ·have z':=(if_pos hb).symm.trans z;cases z';subst hb;exact ⟨ha,by rw [List.length_map];exact hl,vs,_,rv,ha⟩
   ·have z':=(if_neg hb).symm.trans z;cases z'
  ·by_cases hb:b=a
   ·exact hb
   ·exact absurd (if_neg hb) z
def walk_of {l:PySem.W.OpenLaw} {n k:Nat} {q:Program} {loose:List Str} {XP:(Str->Option Value)->Heap->Prop} {YP:World->Heap->Prop} {d:DefRec} {K:Params->Frag} {CX:World->CXT} {sp:World->Sp} {x:Str}
  (hn:l.most=some n) (hn2:n<=sizeLine) (hdf:d.params.defaults=[]) (hr:Room k callerA)
  (hY:∀ (w:World) (h:Heap),YP w h->(K w.params).In h)
  (F:∀ (w:World) (mg:Str->Option Value) (fa:Addr) (h:Heap),(K w.params).In h->h.Ns mainGlobals mg->mg d.name=some (.ref fa) ->
   ∃ fd:FuncData,(∀ (s:Shared) (u:Value),BindsTo s fd ⟨[u],[]⟩ [(x,u)]) /\
    ∀ base:Heap,(K w.params).In base->base.Ns mainGlobals mg->FnOk l.prog w (K w.params) mg base (CX w) k fa fd [x] (sp w))
  (hsp:∀ (w:World) (H:Hp) (a:Addr) (ns:List Int),ns.length<=n->bU9 H->SqL (K w.params) H a (ns.map V.int)->sp w [.ref a] H (fun v _=>v=.bl true) fun _ _ _=>False)
  (hCX:∀ (w:World) (H:Hp) (s:Shared) (e:Value) (s':Shared),CX w [] H s (fun _ _ _=>False) e s'->False) :
  PySem.W.WalkO q loose XP YP l.row.toRowW d [] (fun f vs=>PySem.call f vs):=by
 refine Att.attach_call hn hdf fun w s₀ s₁ mg mb fa o pm cd doc a vs ns G Y ho hd hcd hmg hobj hints hlen hg=>?_;have KX:=hY w _ Y;obtain ⟨fd,hb,hF⟩:=F w mg fa _ KX G.T.g hmg;exact aJ8 KX G.T.g G.T.b G.T.builtins G.T.nolimit hg hobj hints (Nat.le_trans hlen hn2) hr hF hb (fun H hO hS=>hsp w H a ns hlen hO hS) fun H e s'=>hCX w H s₁ e s'
end L2
/- THE LAST THEOREM (shape;LID,My.* are yours):
  My.Adr: a structure of the addresses that your layer names (classes,functions);My.Txt K t: a structure (Prop) of the equations over K;
  My.txt_mk:{K} {implicit addresses ..} (e1:nsIn K mainGlobals "law"=some (some (.ref f))) (e2:K.lookup f=some ⟨oc,od,.func (fnOf "law" "law" params body scope dV kV doc pm an cdv ct),sl⟩) (e3:codeIn K cdv "law"=true) ..:∃ t,My.Txt K t
set_option maxRecDepth 100000 in
set_option maxHeartbeats 0 in
theorem PySem.Challenge.cw_LID_holds : PySem.Challenge.rw_LID.Holds := by
 w_on;o_law;k_head;(case hw=>w_witness2)
 k_fill
 refine L2.walk_of (l:=PySem.Challenge.rw_LID) (n:=63) (k:=40) (x:="script") (CX:=fun w=>..) (sp:=fun _=>My.sp_law) rfl (by decide) rfl ⟨rfl,by decide,by decide⟩ (fun w h Y=>PySem.W.kIn_of Y) ?F ?S ?C
 case F =>
  intro w mg fa h KX G hmg;have T:∃ t,My.Txt (L2.KOf KX) t:=by
   dsimp only [L2.KOf]                          -- K must stand as «<heap const> w.params» for k_is;refine' My.txt_mk ?e1 ?e2 ?e3 ..
   (case e1=>PySem.W.k_is)                    -- in the order: a name->its address->its object->its parts
   (case e2=>PySem.W.k_is)
   ..
  obtain ⟨t,T⟩:=T;have e0:=hmg.symm.trans (PySem.W.mg_of KX G T.law);cases e0                                       -- fa is the law's own address;exact ⟨_,fun s u=>.of_eq rfl,fun base kb nb=>My.law_fn T kb nb⟩     -- if «.of_eq rfl» comes too early: refine' ⟨_,?b,fun base kb nb=>My.law_fn T kb nb⟩;exact fun s u=>.of_eq rfl
 case S=>exact fun w H a ns hl hO hS=>..
 case C=>exact ..
(the tactic k_is has no namespace: write k_is) -/
namespace L2
open PySem PySem.Spec PyProof.Rows
noncomputable def cA (s:Stmt):Arguments:=match s with
 | .FunctionDef _ a _ _ _ _ _ _ _ _=>a
 | _=>{ posonlyargs:=[],args:=[],vararg:=none,kwonlyargs:=[],kw_defaults:=[],kwarg:=none,defaults:=[] }
noncomputable def bJ (s:Stmt):List Stmt:=match s with
 | .FunctionDef _ _ b _ _ _ _ _ _ _=>b
 | _=>[]
noncomputable def aH (s:Stmt):Scope:=match s with
 | .FunctionDef _ _ _ _ _ _ sc _ _ _=>sc
 | _=>{ kind:=.function,names:=[],isGenerator:=false,isCoroutine:=false }
abbrev CX0:CXT:=fun _ _ _ _ _ _=>False
abbrev E0:XK:=fun _ _ _=>False
def xR {X:Cx}:jQ CX0 X E0:=fun _ _ _ _ _ _ _ h=>h.elim
structure Fun (K:Frag) (x qual:Str) (st:Stmt) (f:Addr) (fd:FuncData):Prop where
 ex:∃ (oc:Value) (od:Option Addr) (kV doc pm:Value) (an:Option Addr) (cdv ct:Value) (osl:Array (Option Value)),
  fd=PySem.W.fnOf x qual (cA st) (bJ st) (aH st) .none kV doc pm an cdv ct/\K.lookup f=some ⟨oc,od,.func fd,osl⟩/\PySem.W.codeIn K cdv qual=true
 kp:PySem.W.keepIn K (.ref f)=true
section
variable {P:Program} {w:World} {K:Frag} {mg:Str->Option Value} {base:Heap}
def Fun.binds {x qual:Str} {st:Stmt} {f:Addr} {fd:FuncData} {ps:List Str} (F:Fun K x qual st f fd)
  (h:∀ (kV doc pm:Value) (an:Option Addr) (cdv ct:Value) (us:List Value),us.length=ps.length->bindArgs (PySem.W.fnOf x qual (cA st) (bJ st) (aH st) .none kV doc pm an cdv ct) ⟨us,[]⟩=pure (ps.zip us)):Binds K fd ps []:=by
 obtain ⟨oc,od,kV,doc,pm,an,cdv,ct,osl,rfl,lk,hcd⟩:=F.ex;exact .all (h kV doc pm an cdv ct)
def vT {x qual:Str} {st:Stmt} {f:Addr} {oc:Value} {od an:Option Addr} {osl:Array (Option Value)} {kV doc pm cdv ct:Value} (l:K.lookup f=some ⟨oc,od,.func (PySem.W.fnOf x qual (cA st) (bJ st) (aH st) .none kV doc pm an cdv ct),osl⟩)
  (c:PySem.W.codeIn K cdv qual=true) (k:PySem.W.keepIn K (.ref f)=true):Fun K x qual st f (PySem.W.fnOf x qual (cA st) (bJ st) (aH st) .none kV doc pm an cdv ct):=⟨⟨oc,od,kV,doc,pm,an,cdv,ct,osl,rfl,l,c⟩,k⟩
end
section
variable {X:Cx}
end
end L2
set_option maxHeartbeats 4000000
namespace L2
open PySem PySem.Spec PyProof.Rows
section
variable {κ:Type} [DecidableEq κ]
noncomputable def fP (kvs:List (κ×V)) (k:κ):Option V:=(kvs.find? fun kv=>decide (kv.1=k)).map (·.2)
noncomputable def qL (kvs:List (κ×V)) (k:κ) (v:V):List (κ×V) :=
 if (kvs.any fun kv=>decide (kv.1=k))=true then kvs.map (fun kv=>if kv.1=k then (kv.1,v) else kv) else kvs++[(k,v)]
def sQ {p:κ×V} {r:List (κ×V)} {k:κ} (e:p.1=k):fP (p::r) k=some p.2:=by simp [fP,List.find?_cons,e]
def sR {p:κ×V} {r:List (κ×V)} {k:κ} (e:¬ p.1=k):fP (p::r) k=fP r k:=by simp [fP,List.find?_cons,e]
def sS (kvs:List (κ×V)) (k:κ) (v:V):(qL kvs k v).length<=kvs.length+1:=by
 unfold qL;split
 ·rw [List.length_map];omega
 ·rw [List.length_append,List.length_cons,List.length_nil];omega
def RelO.isSome_eq {o:Option V} {u:Option Value} (r:RelO o u):o.isSome=u.isSome:=by
 cases o with
 | none=>cases u with
  | none=>rfl
  | some _=>exact (show False from r).elim
 | some _=>cases u with
  | none=>exact (show False from r).elim
  | some _=>rfl
def KV.val {kvs:List (κ×V)} {vs:List (κ×Value)} (r:KV kvs vs) (k:κ):RelO (fP kvs k) (valueAt vs k):=by
 unfold KV at r;induction r with
 | nil=>exact True.intro
 | @cons p q ps qs h t ih =>
  obtain ⟨h1,h2⟩:=h
  by_cases e:p.1=k
  ·have e':q.1=k:=h1.symm.trans e;have b:valueAt (q::qs) k=some q.2:=by simp [valueAt,List.find?_cons,e']
   rw [sQ e,b];exact h2
  ·have e':¬ q.1=k:=fun z=>e (h1.trans z);have b:valueAt (q::qs) k=valueAt qs k:=by simp [valueAt,List.find?_cons,e']
   rw [sR e,b];exact ih
def KV.any {kvs:List (κ×V)} {vs:List (κ×Value)} (r:KV kvs vs) (k:κ):(kvs.any fun kv=>decide (kv.1=k))=vs.any fun kv=>decide (kv.1=k):=by
 unfold KV at r;induction r with
 | nil=>rfl
 | cons h t ih=>rw [List.any_cons,List.any_cons,ih,h.1]
def KV.repl {kvs:List (κ×V)} {vs:List (κ×Value)} (r:KV kvs vs) (k:κ) {y:V} {u:Value} (ry:RelV y u) :
  KV (kvs.map fun kv=>if kv.1=k then (kv.1,y) else kv) (vs.map fun kv=>if kv.1=k then (kv.1,u) else kv):=by
 unfold KV at r ⊢;induction r with
 | nil=>exact .nil
 | @cons p q ps qs h t ih =>
  rw [List.map_cons,List.map_cons];refine .cons ?_ ih;obtain ⟨h1,h2⟩:=h
  by_cases e:p.1=k
  ·rw [if_pos e,if_pos (h1.symm.trans e)];exact ⟨h1,ry⟩
  ·rw [if_neg e,if_neg (fun z=>e (h1.trans z))];exact ⟨h1,h2⟩
def KV.put {kvs:List (κ×V)} {vs:List (κ×Value)} (r:KV kvs vs) (k:κ) {y:V} {u:Value} (ry:RelV y u):KV (qL kvs k y) (stored vs k u):=by
 unfold qL stored;rw [r.any k]
 by_cases e:(vs.any fun kv=>decide (kv.1=k))=true
 ·rw [if_pos e,if_pos e];exact r.repl k ry
 ·rw [if_neg e,if_neg e];exact Paired.snoc r ⟨rfl,ry⟩
def KV.length {kvs:List (κ×V)} {vs:List (κ×Value)} (r:KV kvs vs):kvs.length=vs.length:=Paired.length r
end
def sT {P:Program} {w:World} {k:Key} {u:Value} (r:RelV (kV k) u):(cN P w).is k u=true:=by
 cases k with
 | inl i=>obtain ⟨t,e⟩:=(show ∃ t,u=Value.int i t from r);subst e;exact sE P w i t
 | inr x=>obtain ⟨t,e⟩:=(show ∃ t,u=Value.str x t from r);subst e;exact sG P w x t
theorem oI {P:Program} {w:World}:∀ {ks:List Key} {us:List Value},Vals (ks.map kV) us->ItemsAre (cN P w) ks us
 | [],_,r=>by rw [List.map_nil] at r;cases r;exact .nil
 | k::ks,_,r=>by
  rw [List.map_cons] at r;cases r with
  | cons h t=>exact .cons (sT h) (oI t)
abbrev KT (H:Hp):List (List Key×V)->List (List Key×Addr×Value)->Prop:=Paired fun p q=>p.1=q.1/\H q.2.1=some (.tup (p.1.map kV))/\RelV p.2 q.2.2
def KT.val {H:Hp} {kvs:List (List Key×V)} {xs:List (List Key×Addr×Value)} (r:KT H kvs xs) (k:List Key):RelO (fP kvs k) ((atKey xs k).map (·.2)):=by
 induction r with
 | nil=>exact True.intro
 | @cons p q ps qs h t ih =>
  obtain ⟨h1,_,h2⟩:=h
  by_cases e:p.1=k
  ·have e':q.1=k:=h1.symm.trans e;have b:atKey (q::qs) k=some q.2:=by simp [atKey,List.find?_cons,e']
   rw [sQ e,b];exact h2
  ·have e':¬ q.1=k:=fun z=>e (h1.trans z);have b:atKey (q::qs) k=atKey qs k:=by simp [atKey,List.find?_cons,e']
   rw [sR e,b];exact ih
section
variable {P:Program} {w:World} {H:Hp} {h:Heap} {a:Addr}
def bL1 {u:HO} (ok:HOk P w H h) (e:Rd H a u):ObjOk P w H h a u:=e.ok ok
def iV {kvs:List (Key×V)} (ok:HOk P w H h) (e:Rd H a (.dK kvs)):kvs.length<=sizeLine/\(a==sysModules)=false/\∃ vs,KV kvs vs/\h.DictOf (cN P w) a vs :=
 show ObjOk P w H h a (.dK kvs) from bL1 ok e
def cO7 {kvs:List (Key×V)} (ok:HOk P w H h) (e:H a=some (.dK kvs)):kvs.length<=sizeLine/\(a==sysModules)=false/\∃ vs,KV kvs vs/\h.DictOf (cN P w) a vs:=iV ok (.inl e)
def qM {ks:List Key} (ok:HOk P w H h) (e:H a=some (.tup (ks.map kV))):(tupleKind (cN P w)).is h ks a:=by
 obtain ⟨_,its,r,o,h1,h2,⟨n,h3⟩,_⟩:=(show ObjOk P w H h a (.tup (ks.map kV)) from ok a _ e);exact ⟨o,its.toArray,n,h1,h2,h3,by simpa using oI r⟩
def xS {kvs:List (List Key×V)} (ok:HOk P w H h) (e:Rd H a (.dT kvs)):kvs.length<=sizeLine/\(a==sysModules)=false /\
  ∃ xs,KT H kvs xs/\h.DictOfH (tupleKind (cN P w)) a xs:=by
 obtain ⟨z,y,xs,r,o,es,ep,h1,h2,h3,h4,h5⟩:=(show ObjOk P w H h a (.dT kvs) from bL1 ok e);refine ⟨z,y,xs,r,o,es,ep,h1,h2,h3,h4,fun x hx=>?_,h5⟩;have all:∀ {l:List (List Key×V)} {m:List (List Key×Addr×Value)},KT H l m->∀ x∈m,(tupleKind (cN P w)).is h x.1 x.2.1:=by
  intro l m q;induction q with
  | nil=>intro x hx;exact nomatch hx
  | @cons p q ps qs hq t ih =>
   intro x hx;rcases List.mem_cons.mp hx with e | hx
   ·subst e;exact qM ok (by rw [<- hq.1];exact hq.2.1)
   ·exact ih x hx
 exact all r x hx
end
def aJ9 (H:Hp) (a:Addr) (y:V) (r:Option V):Prop :=
 (∃ kvs k,Rd H a (.dK kvs)/\y=kV k/\r=fP kvs k)\/∃ kvs k b,Rd H a (.dT kvs)/\y=.ref b/\H b=some (.tup (k.map kV))/\r=fP kvs k
section
variable {X:Cx} {pins:List (Addr×Obj)} {σ:St} {H:Hp} {s:Shared} {a:Addr} {y v:V} {u r:Value} {o:Option V} {A:Around} {E:Value->Shared->Prop}
def aA0 {Q:Value->Shared->Prop} (hu:A.units+1 < cLine) (I:Inv X pins σ H s) (g:aJ9 H a y (some v)) (ry:RelV y u) (h:∀ w' s',Inv X pins σ H s'->RelV v w'->Q w' s') :
  wpAny (model X.prog X.w) A (getItem (.ref a) u) Q E s:=by
 rcases g with ⟨kvs,k,e,ey,l⟩ | ⟨kvs,k,b,e,ey,eb,l⟩
 ·subst ey;obtain ⟨z,hd,vs,rel,dd⟩:=iV I.hok e;obtain ⟨w',hw,rw'⟩:=RelO.some_of (v:=v) (o:=valueAt vs k) (by rw [l];exact rel.val k);exact wpAny_getItem_of (sT ry) dd.mapOf hw (h w' _ (I.tok _) rw')
 ·subst ey;cases (show u=Value.ref b from ry);obtain ⟨z,hd,xs,rel,dd⟩:=xS I.hok e;obtain ⟨w',hw,rw'⟩:=RelO.some_of (v:=v) (o:=(atKey xs k).map (·.2)) (by rw [l];exact rel.val k);obtain ⟨p,hp,hp2⟩:=Option.map_eq_some_iff.mp hw;refine wpAny_getItem_heap (tupleKind_room_in1 hu) (qM I.hok eb) dd hp ?_;rw [hp2];exact h w' _ (I.tok _) rw'
def dG0 {Q:Value->Shared->Prop} (hu:A.units+1 < cLine) (I:Inv X pins σ H s) (g:aJ9 H a y o) (ry:RelV y u) (h:∀ s',Inv X pins σ H s'->Q (.bool o.isSome) s') :
  wpAny (model X.prog X.w) A (compareOp .In u (.ref a)) Q E s:=by
 rcases g with ⟨kvs,k,e,ey,l⟩ | ⟨kvs,k,b,e,ey,eb,l⟩
 ·subst ey;obtain ⟨z,hd,vs,rel,dd⟩:=iV I.hok e;refine wpAny_in_of (sT ry) hd dd.mapOf ?_;rw [<- (rel.val k).isSome_eq,<- l];exact h _ (I.tok _)
 ·subst ey;cases (show u=Value.ref b from ry);obtain ⟨z,hd,xs,rel,dd⟩:=xS I.hok e;refine wpAny_in_heap (tupleKind_room_in1 hu) (qM I.hok eb) hd dd ?_;have q:=(rel.val k).isSome_eq;rw [Option.isSome_map] at q;rw [<- q,<- l];exact h _ (I.tok _)
def aY8 {Q:Value->Shared->Prop} (hu:A.units+1 < cLine) (I:Inv X pins σ H s) (g:aJ9 H a y o) (ry:RelV y u) (h:∀ s',Inv X pins σ H s'->Q (.bool (!o.isSome)) s') :
  wpAny (model X.prog X.w) A (compareOp .NotIn u (.ref a)) Q E s:=by
 rcases g with ⟨kvs,k,e,ey,l⟩ | ⟨kvs,k,b,e,ey,eb,l⟩
 ·subst ey;obtain ⟨z,hd,vs,rel,dd⟩:=iV I.hok e;refine wpAny_notIn_of (sT ry) hd dd.mapOf ?_;rw [<- (rel.val k).isSome_eq,<- l];exact h _ (I.tok _)
 ·subst ey;cases (show u=Value.ref b from ry);obtain ⟨z,hd,xs,rel,dd⟩:=xS I.hok e;refine wpAny_notIn_heap (tupleKind_room_in1 hu) (qM I.hok eb) hd dd ?_;have q:=(rel.val k).isSome_eq;rw [Option.isSome_map] at q;rw [<- q,<- l];exact h _ (I.tok _)
def aY9 {h':Heap} {t':Nat} {ob:HO} (I:Inv X pins σ H s) (mu:Mut (H a)) (hs:Heap.SameBut a s.heap h') (he:∃ q,h'.get? a=some q) (new:ObjOk X.prog X.w (upd H a ob) h' a ob) :
  Inv X pins σ (upd H a ob) { s with heap:=h',toks:=t' } :=
 I.write (x:=a) (e:=a) mu (.inl rfl) (fun b q hb z=>(hs.2 b hb).trans z) he new
def bV0 {P:Program} {w:World} {H':Hp} {h':Heap} {kvs:List (Key×V)} {vs:List (Key×Value)} (z:kvs.length<=sizeLine) (hd:(a==sysModules)=false) (rel:KV kvs vs) (dd:h'.DictOf (cN P w) a vs) :
  ObjOk P w H' h' a (.dK kvs):=⟨z,hd,vs,rel,dd⟩
end
section
variable {X:Cx} {pins:List (Addr×Obj)} {σ:St} {H:Hp} {s:Shared} {a:Addr} {kvs:List (Key×V)} {k:Key} {u:Value} {A:Around} {E:Value->Shared->Prop}
end
def sU {X:Cx} {pins:List (Addr×Obj)} {σ:St} {H:Hp} {s:Shared} {a:Addr} {y:V} {o:Option V} (I:Inv X pins σ H s) (g:aJ9 H a y o):s.TypeIs (.ref a) "dict":=by
 rcases g with ⟨kvs,k,e,_,_⟩ | ⟨kvs,k,b,e,_,_,_⟩
 ·obtain ⟨_,_,vs,_,dd⟩:=iV I.hok e;exact dd.typeIs
 ·obtain ⟨_,_,xs,_,dd⟩:=xS I.hok e;exact dd.typeIs
section
variable {X:Cx} {o i e value:Expr} {pos pos' tpos:Pos} {td ty tv:TE}
end
section
variable {X:Cx} {pos:Pos}
end
section
variable {X:Cx} {pins:List (Addr×Obj)} {σ:St} {H:Hp} {s:Shared} {a:Addr} {y d:V} {u r:Value} {o:Option V} {A:Around} {E:Value->Shared->Prop}
end
section
variable {X:Cx} {o e f:Expr} {apos cpos:Pos} {td ty tx:TE}
end
section
variable {X:Cx} {pins:List (Addr×Obj)} {σ:St} {H:Hp} {s:Shared} {a:Addr} {kvs:List (Key×V)} {A:Around} {E:Value->Shared->Prop}
end
section
variable {X:Cx} {pins:List (Addr×Obj)} {σ:St} {H:Hp} {s:Shared} {a:Addr} {y:V} {u:Value} {A:Around} {E:Value->Shared->Prop}
end
def qN {a b:Nat} (z:a=b+1) (h:a < b):False:=by omega
structure CompSc (N N':List Str) (ixs:List (Option Nat)) (S sc:Scope):Prop where
 kind:sc.kind=.function
 nocell:∀ y∈sc.names,y.2≠.cell
 loc:∀ y∈sc.names,y.2=.local->sc.names.lookup y.1=some .local
 free:∀ y∈sc.names,y.2=.free->S.names.lookup y.1=some .cell\/S.names.lookup y.1=some .free
 nd:N'.Nodup
 len:ixs.length=N'.length
 cap:((ixs.zip N').all fun p=>match p.1 with
  | none=>true
  | some i=>decide (N[i]?=some p.2)&&decide (sc.names.lookup p.2=some NameKind.free))=true
noncomputable def nL (ixs:List (Option Nat)) (σ:St):St:=ixs.map fun o=>o.bind fun i=>(σ[i]?).bind id
def CompSc.at {N N':List Str} {ixs:List (Option Nat)} {S sc:Scope} (h:CompSc N N' ixs S sc) {j i:Nat} {x:Str} (e1:N'[j]?=some x) (e2:ixs[j]?=some (some i)) :
  N[i]?=some x/\sc.names.lookup x=some .free:=by
 have hm:(some i,x)∈ixs.zip N':=by
  refine List.mem_of_getElem? (i:=j) ?_;rw [List.getElem?_zip_eq_some];exact ⟨e2,e1⟩
 have q:=List.all_eq_true.mp h.cap _ hm;simp only [Bool.and_eq_true,decide_eq_true_eq] at q;exact q
def aZ0 {ixs:List (Option Nat)} {σ:St} {j:Nat} {v:V} (e:(nL ixs σ)[j]?=some (some v)):∃ i,ixs[j]?=some (some i)/\σ[i]?=some (some v):=by
 unfold nL at e;rw [List.getElem?_map] at e;cases h:ixs[j]? with
 | none=>rw [h] at e;cases e
 | some o =>
  rw [h] at e;cases o with
  | none=>cases e
  | some i =>
   refine ⟨i,rfl,?_⟩;have e':(σ[i]?).bind id=some v:=Option.some.inj e;cases q:σ[i]? with
   | none=>rw [q] at e';cases e'
   | some w=>rw [q] at e';exact congrArg some e'
theorem gM {env:Env}:∀ (names:List (Str×NameKind)) (acc:List (Str×Addr)),(∀ y∈names,y.2=.free->∃ c,env.cells.lookup y.1=some c) ->
  (∀ x c,acc.lookup x=some c->env.cells.lookup x=some c) ->
  ∃ cl,(∀ x c,cl.lookup x=some c->env.cells.lookup x=some c)/\(∀ y∈names,y.2=.free->∃ c,cl.lookup y.1=some c)/\(∀ x c,acc.lookup x=some c->∃ d,cl.lookup x=some d) /\
   (forIn names acc fun (x:Str×NameKind) (r:List (Str×Addr))=>(if (x.2==NameKind.free)=true then (do let a <- cellOf env x.1;pure (ForInStep.yield ((x.1,a)::r))) else pure (ForInStep.yield r):Sem (ForInStep (List (Str×Addr)))))=(pure cl:Sem (List (Str×Addr)))
 | [],acc,_,ha=>⟨acc,ha,fun _ h=>(nomatch h),fun x c h=>⟨c,h⟩,rfl⟩
 | (n,k)::r,acc,h,ha=>by
  by_cases hk:k=.free
  ·subst hk;obtain ⟨c,hc⟩:=h (n,.free) List.mem_cons_self rfl;obtain ⟨cl,h1,h2,h3,h4⟩:=gM r ((n,c)::acc) (fun y hy=>h y (List.mem_cons_of_mem _ hy)) (fun x d hd=>by
    rw [List.lookup_cons] at hd;cases q:x==n with
    | true =>
     rw [q] at hd;have e1:x=n:=by simpa using q
     have e2:c=d:=Option.some.inj hd;rw [e1,<- e2];exact hc
    | false=>rw [q] at hd;exact ha x d hd)
   refine ⟨cl,h1,fun y hy hf=>?_,fun x d hd=>?_,?_⟩
   ·rcases List.mem_cons.mp hy with e | hy
    ·subst e;exact h3 n c (by simp [List.lookup_cons])
    ·exact h2 y hy hf
   ·cases q:x==n with
    | true =>
     have e1:x=n:=by simpa using q
     subst e1;exact h3 x c (by simp [List.lookup_cons])
    | false=>exact h3 x d (by rw [List.lookup_cons,q];exact hd)
   ·rw [<- h4,List.forIn_cons];have e:cellOf env n=pure c:=by unfold cellOf;rw [hc]
    show ((if (NameKind.free==NameKind.free)=true then (do let a <- cellOf env n;pure (ForInStep.yield ((n,a)::acc))) else pure (ForInStep.yield acc):Sem _) >>= _)=_;rw [if_pos (by decide),e];rfl
  ·obtain ⟨cl,h1,h2,h3,h4⟩:=gM r acc (fun y hy=>h y (List.mem_cons_of_mem _ hy)) ha;refine ⟨cl,h1,fun y hy hf=>?_,h3,?_⟩
   ·rcases List.mem_cons.mp hy with e | hy
    ·subst e;exact absurd hf hk
    ·exact h2 y hy hf
   ·rw [<- h4,List.forIn_cons];have e:(k==NameKind.free)=false:=by simpa using hk
    show ((if (k==NameKind.free)=true then (do let a <- cellOf env n;pure (ForInStep.yield ((n,a)::acc))) else pure (ForInStep.yield acc):Sem _) >>= _)=_;rw [if_neg (by rw [e];exact Bool.false_ne_true)];rfl
def lV {sc:Scope} {env:Env} (h:∀ y∈sc.names,y.2=.free->∃ c,env.cells.lookup y.1=some c) :
  ∃ cl,closureFor sc env=pure cl/\(∀ x c,cl.lookup x=some c->env.cells.lookup x=some c)/\(∀ y∈sc.names,y.2=.free->∃ c,cl.lookup y.1=some c):=by
 obtain ⟨cl,h1,h2,_,h4⟩:=gM (env:=env) sc.names [] h (fun x c e=>by simp at e);refine ⟨cl,?_,h1,h2⟩;unfold closureFor;exact (congrArg (fun m:Sem (List (Str×Addr))=>m >>= fun r=>pure r) h4).trans rfl
theorem eI {env:Env} {x:Str}:∀ {names:List (Str×NameKind)} {k:NameKind},names.lookup x=some k ->
  (names.map fun (n,k)=>if (k==NameKind.free&&env.scope.kind==.function&&env.kindOf n==some .cell) then (n,NameKind.cell) else (n,k)).lookup x
   = some (if (k==NameKind.free&&env.scope.kind==.function&&env.kindOf x==some .cell) then NameKind.cell else k)
 | [],_,h=>by simp at h
 | (n,k0)::r,k,h=>by
  rw [List.lookup_cons] at h;rw [List.map_cons];cases q:x==n with
  | true =>
   have e1:x=n:=by simpa using q
   subst e1;rw [q] at h;have e2:k0=k:=Option.some.inj h;subst e2;dsimp only
   by_cases hc:(k0==NameKind.free&&env.scope.kind==.function&&env.kindOf x==some .cell)=true
   ·rw [if_pos hc,if_pos hc,List.lookup_cons,q]
   ·rw [if_neg hc,if_neg hc,List.lookup_cons,q]
  | false =>
   rw [q] at h;have ih:=eI (env:=env) h;dsimp only
   by_cases hc:(k0==NameKind.free&&env.scope.kind==.function&&env.kindOf n==some .cell)=true
   ·rw [if_pos hc,List.lookup_cons,q];exact ih
   ·rw [if_neg hc,List.lookup_cons,q];exact ih
theorem iW {env:Env} {x:Str}:∀ {names:List (Str×NameKind)},names.lookup x=none ->
  (names.map fun (n,k)=>if (k==NameKind.free&&env.scope.kind==.function&&env.kindOf n==some .cell) then (n,NameKind.cell) else (n,k)).lookup x=none
 | [],_=>rfl
 | (n,k0)::r,h=>by
  rw [List.lookup_cons] at h;rw [List.map_cons];cases q:x==n with
  | true=>rw [q] at h;cases h
  | false =>
   rw [q] at h;have ih:=iW (env:=env) h;dsimp only
   by_cases hc:(k0==NameKind.free&&env.scope.kind==.function&&env.kindOf n==some .cell)=true
   ·rw [if_pos hc,List.lookup_cons,q];exact ih
   ·rw [if_neg hc,List.lookup_cons,q];exact ih
noncomputable def blk (X:Cx) (N':List Str) (sc:Scope) (cl:List (Str×Addr)) (C:Addr) (s2:Shared) (H2:Hp) (fp:List Addr):Cx :=
 { X with N:=N',s₀:=s2,H₀:=H2,env:=compEnvC sc cl C X.env,outer:=X.stack,ex:=fp,fn:=fun _=>false,pn:=[] }
def aA1 {X:Cx} {pins:List (Addr×Obj)} {σ:St} {H2:Hp} {s2:Shared} {N':List Str} {ixs:List (Option Nat)} {S sc:Scope} {cl:List (Str×Addr)} {fp:List Addr} {h1:Heap} {tk n0:Nat}
  (I:Inv X pins σ H2 s2) (hS:X.env.scope=S) (SC:CompSc X.N N' ixs S sc) (hcl1:∀ x c,cl.lookup x=some c->X.env.cells.lookup x=some c) (hcl2:∀ y∈sc.names,y.2=.free->∃ c,cl.lookup y.1=some c)
  (hf:∀ b∈fp,iI X pins H2 b) (hfl:∀ b∈fp,b < s2.heap.objs.size) (hns:h1.Ns (s2.heap.objs.size+1) fun _=>none)
  (keep:∀ b o,s2.heap.get? b=some o->h1.get? b=some o) (ha:h1.get? s2.heap.objs.size=some { cls:=.type "list",data:=.seq ([]:List Value).toArray n0 }) :
  Inv (blk X N' sc cl (s2.heap.objs.size+1) s2 H2 fp) [] (nL ixs σ) (upd H2 s2.heap.objs.size (.lst [])) { s2 with heap:=h1,toks:=tk }:=by
 have kfree:∀ {x:Str} {k:NameKind},(relabel sc X.env).names.lookup x=some k->k=.cell\/k=.free->(x,NameKind.free)∈sc.names:=fun {x k} e hk=>by
  cases q:sc.names.lookup x with
  | none =>
   have z:=iW (env:=X.env) q;have z':(relabel sc X.env).names.lookup x=none:=z;rw [e] at z';cases z'
  | some k0 =>
   have z:=eI (env:=X.env) q;have z':(relabel sc X.env).names.lookup x=_:=z;rw [e] at z';have m:=PySem.mem_of_lookup q;have hz:=Option.some.inj z'
   by_cases hc:(k0==NameKind.free&&X.env.scope.kind==.function&&X.env.kindOf x==some .cell)=true
   ·have h0:k0=.free:=by
     simp only [Bool.and_eq_true,beq_iff_eq] at hc;exact hc.1.1
    rw [<- h0];exact m
   ·rw [if_neg hc] at hz;subst hz;rcases hk with hk | hk
    ·exact absurd hk (SC.nocell _ m)
    ·rw [<- hk];exact m
 have fr:H2 s2.heap.objs.size=none:=I.hok.fresh (Nat.le_refl _);have frC:H2 (s2.heap.objs.size+1)=none:=I.hok.fresh (Nat.le_succ _);have cl_lt:∀ x c,X.env.cells.lookup x=some c->c < s2.heap.objs.size:=fun x c e=>by
  obtain ⟨v,q⟩:=I.cell x c e;exact q.lt
 have ok:(blk X N' sc cl (s2.heap.objs.size+1) s2 H2 fp).Ok:={
  mod:=I.ok.mod
  kind:=SC.kind
  glob:=I.ok.glob
  blt:=I.ok.blt
  above:=Nat.le_succ _
  inj:=fun x y c e1 e2=>I.ok.inj x y c (hcl1 x c e1) (hcl1 y c e2)
  has:=fun x hx=>by
   rcases hx with hx | hx
   ·exact hcl2 _ (kfree hx (.inl rfl)) rfl
   ·exact hcl2 _ (kfree hx (.inr rfl)) rfl
  cab:=fun x c h=>absurd (show false=true from h) Bool.false_ne_true
  hd:=I.ok.hd
  frames:=I.ok.frames
  stk:=.inl rfl
  exf:=fun b hb=>⟨Nat.ne_of_lt (Nat.lt_succ_of_lt (hfl b hb)),fun x c e=>(hf b hb).2.2.2.2.1 x c (hcl1 x c e)⟩
  bs:=I.bs
  bsz:=Nat.le_trans I.ok.bsz I.sz
  noex:=fun b o e hb=>by
   rcases (hf b hb).2.2.2.1 with z | z
   ·exact I.ok.noex b o e z
   ·exact absurd (Nat.lt_of_lt_of_le (Heap.lt_size e) (Nat.le_trans I.ok.bsz z)) (Nat.lt_irrefl _)
  exfs:=fun b hb hz=>by
   rcases List.mem_cons.mp (I.stkSub b hz) with z | z
   ·exact (hf b hb).2.1 z
   ·exact (hf b hb).2.2.1 z
  funs:=I.stack
  frf:=I.stkFree }
 refine ⟨ok,rfl,I.bare,Un.laid keep (Nat.le_refl _) fr,⟨_,hns,fun j x v e1 e2 e3=>?_⟩,fun x c e=>?_,?_,fun x c e=>?_,fun p hp=>absurd (show p∈([]:List (Addr×Obj)) from hp) (by simp),?_,?_⟩
 ·obtain ⟨i,ei,ev⟩:=aZ0 e2;obtain ⟨eN,ef⟩:=SC.at e1 ei;have hm:=PySem.mem_of_lookup ef;have hvis:X.env.scope.names.lookup x=some .cell\/X.env.scope.names.lookup x=some .free:=by rw [hS];exact SC.free _ hm rfl
  obtain ⟨m,hn,hl⟩:=I.loc;obtain ⟨u,r,l⟩:=hl i x v eN ev (.inr hvis);refine ⟨u,r,?_⟩;rcases l with ⟨hk,_⟩ | ⟨_,c,ec,o,ho,hd⟩
  ·have hk':X.env.scope.names.lookup x=some .local:=hk;rcases hvis with z | z
   ·rw [hk'] at z;cases z
   ·rw [hk'] at z;cases z
  ·obtain ⟨c',ec'⟩:=hcl2 _ hm rfl;have e5:=hcl1 _ _ ec';rw [ec] at e5;have e6:c=c':=Option.some.inj e5;subst e6;refine .inr ⟨?_,c,ec',o,keep _ _ ho,hd⟩;have z:=eI (env:=X.env) ef;have z':(relabel sc X.env).names.lookup x=_:=z
   by_cases hc:(NameKind.free==NameKind.free&&X.env.scope.kind==.function&&X.env.kindOf x==some .cell)=true
   ·rw [if_pos hc] at z';exact .inl z'
   ·rw [if_neg hc] at z';exact .inr z'
 ·obtain ⟨v,o,ho,hd⟩:=I.cell x c (hcl1 x c e);exact ⟨v,o,keep _ _ ho,hd⟩
 ·show upd H2 s2.heap.objs.size _ (s2.heap.objs.size+1)=none;rw [aM (Nat.ne_of_gt (Nat.lt_succ_self _))];exact frC
 ·show upd H2 s2.heap.objs.size _ c=none;rw [aM (Nat.ne_of_lt (cl_lt x c (hcl1 x c e)))];exact I.freeC x c (hcl1 x c e)
 ·exact I.hok.laid keep (Nat.le_refl _) ⟨Nat.zero_le _,[],n0,.nil,ha⟩
 ·show (nL ixs σ).length=N'.length;unfold nL;rw [List.length_map];exact SC.len
def aZ1 {X:Cx} {pins:List (Addr×Obj)} {σ σ':St} {H2 H':Hp} {s2 s':Shared} {N':List Str} {sc:Scope} {cl:List (Str×Addr)} {fp:List Addr} {C:Addr}
  (I:Inv X pins σ H2 s2) (hf:∀ b∈fp,iI X pins H2 b) (J:Inv (blk X N' sc cl C s2 H2 fp) [] σ' H' s'):Inv X pins σ H' s' :=
 I.call' (ch:=fp) J.os J.base J.hok J.bare fun b hb=>⟨(hf b hb).2.2.2.1,(hf b hb).2.1,(hf b hb).2.2.2.2.1,(hf b hb).2.2.2.2.2⟩
def aA2 {prog:Program} {w:World} {A:Around} {R:Result->Shared->Prop} {s:Shared} {elt target iter:Expr} {ifs:List Expr} {scope:Scope} {pos:Pos} {it acc:Value} {env:Env} (I:Nat->Shared->Prop)
  (turn:∀ n s,I n s->wpAny (model prog w) A (pyNext it) (fun r s₁=>match r with
   | none=>R (.ok .next) s₁
   | some v=>wpAny (model prog w) A (letOwnedTupleGo target it v) (fun _ t₁=>wpAny (model prog w) A (assign target env v) (fun _ s₂ =>
     wpAny (model prog w) A (forIn ifs true fun c r=>if r=true then do let ok <- isTrue c env (eval c env);pure (ForInStep.yield ok) else pure (ForInStep.yield r)) (fun ok s₃ =>
      if ok=true then wpAny (model prog w) A (eval elt env) (fun x s₄ =>
       wpAny (model prog w) A (call (.builtin "list.append") [acc,x]) (fun _ s₅=>∃ m,m < n/\I m s₅) (fun _ _=>False) s₄) (fun _ _=>False) s₃
      else ∃ m,m < n/\I m s₃) (fun _ _=>False) s₂) (fun _ _=>False) t₁) (fun _ _=>False) s₁) (fun _ _=>False) s)
  (n:Nat) (h:I n s):codeAny (model prog w) A (.compLoop (.ListComp elt [⟨target,iter,ifs,0⟩] scope pos) 0 it acc env) R s:=by
 refine codeAny_loop rfl I (fun n s hI=>?_) n h;show wpAny _ A ((compTurn (.ListComp elt [⟨target,iter,ifs,0⟩] scope pos) 0 it acc env).onRaise (fun x=>do noteFrame x env;theTreesLotGoes x)) _ _ s;refine wpAny_noted (wpAny_noRaise ?_);rw [compTurn_list];refine wpAny_bind (wpAny_standAt (wpAny_bind (thn (turn n s hI) fun r s₁ h₁=>?_)));cases r with
 | none=>exact wpAny_pure h₁
 | some v =>
  refine wpAny_bind (thn h₁ fun _ t₁ h₂=>wpAny_bind (thn h₂ fun _ s₂ h₃=>wpAny_bind (thn h₃ fun ok s₃ h₄=>?_)));cases ok with
  | false=>exact wpAny_pure ⟨rfl,h₄⟩
  | true=>exact wpAny_bind (wpAny_bind (thn h₄ fun x s₄ h₅=>wpAny_bind (thn h₅ fun _ s₅ h₆=>wpAny_pure (wpAny_pure ⟨rfl,h₆⟩))))
def PIf (X:Cx) (ifs:List Expr) (t:TT):Prop :=
 ∀ (pins:List (Addr×Obj)) (s:Shared) (σ:St) (H:Hp) (Q:Bool->Hp->Prop),Inv X pins σ H s->t σ H Q ->
  wpAny (model X.prog X.w) X.A (forIn ifs true fun c r=>if r=true then do let ok <- isTrue c X.env (eval c X.env);pure (ForInStep.yield ok) else pure (ForInStep.yield r)) (TP X pins σ Q) X.xe s
def dG1:TT:=fun _ H Q=>Q true H
def aZ2 {X:Cx}:PIf X [] dG1:=fun _ _ _ H _ I h=>wpAny_tests_nil ⟨H,I,h⟩
def aZ3 {X:Cx} {c:Expr} {t:TT} (h:PT X c t):PIf X [c] t:=fun pins s σ H Q I hw=>wpAny_tests_one (h pins s σ H Q I hw)
def bL2 (J:It) (g:TG) (tt:TT) (te:TE) (acc:Addr) (Fin:Hp->Prop) (W:Nat->Nat->List V->St->Hp->Prop):Prop :=
 ∀ i m ys σ H,W i m ys σ H->(J.stop i H/\H acc=some (.lst ys)/\Fin H) \/
  (J.go i H/\∀ x H',J.yld i H x H'->g x σ H' fun σ2 H3=>tt σ2 H3 fun b H4 =>
   if b=true then te σ2 H4 fun y H5=>H5 acc=some (.lst ys)/\ys.length < sizeLine/\∃ m',m' < m/\W (i+1) m' (ys++[y]) σ2 (upd H5 acc (.lst (ys++[y])))
   else ∃ m',m' < m/\W (i+1) m' ys σ2 H4)
def xT (ixs:List (Option Nat)) (wi:TI) (g:TG) (tt:TT) (te:TE):TE:=fun σ H Q=>wi σ H fun J H2=>∀ acc,H2 acc=none ->
 ∃ W:Nat->Nat->List V->St->Hp->Prop,(∃ m,W 0 m [] (nL ixs σ) (upd H2 acc (.lst [])))/\bL2 J g tt te acc (Q (.ref acc)) W
section
variable {X:Cx} {tg iter elt:Expr} {ifs:List Expr} {sc S:Scope} {N':List Str} {ixs:List (Option Nat)} {pos:Pos} {wi:TI} {g:TG} {tt:TT} {te:TE}
def sV {pins:List (Addr×Obj)} {σ:St} {H2:Hp} {s2:Shared} {it:Addr} {fp:List Addr} {tn:Nat->Heap->Prop} {J:It} {cl:List (Str×Addr)} {R:Value->Addr->Result->Shared->Prop} {Fin:Hp->Prop} {W:Nat->Nat->List V->St->Hp->Prop} {m0:Nat}
  (hxe:X.xe=fun _ _=>False) (hc:X.calm=true) (hS:X.env.scope=S) (SC:CompSc X.N N' ixs S sc) (hcl1:∀ x c,cl.lookup x=some c->X.env.cells.lookup x=some c) (hcl2:∀ y∈sc.names,y.2=.free->∃ c,cl.lookup y.1=some c)
  (hg:∀ cl C s H fp,PG (blk X N' sc cl C s H fp) tg g) (ht:∀ cl C s H fp,PIf (blk X N' sc cl C s H fp) ifs tt) (he:∀ cl C s H fp,PE (blk X N' sc cl C s H fp) elt te)
  (I:Inv X pins σ H2 s2) (T:Turn X.prog X.w X.K tg J fp it tn) (st:tn 0 s2.heap) (hf:∀ b∈fp,iI X pins H2 b)
  (w0:W 0 m0 [] (nL ixs σ) (upd H2 s2.heap.objs.size (.lst []))) (hW:bL2 J g tt te s2.heap.objs.size Fin W)
  (hR:∀ H' s' m,Inv X pins σ H' s'->s'.heap.Ns (s2.heap.objs.size+1) m->H' (s2.heap.objs.size+1)=none->Fin H'->R (.ref s2.heap.objs.size) (s2.heap.objs.size+1) (.ok .next) s') :
  wpAny (model X.prog X.w) X.A (newList []) (fun acc s₃=>wpAny (model X.prog X.w) X.A (newFunctionEnv sc X.env.globals cl [] X.env.qual none .none (some X.env)) (fun cenv s₄ =>
   codeAny (model X.prog X.w) X.A (.compStart (.ListComp elt [⟨tg,iter,ifs,0⟩] sc pos) 0 (.ref it) acc { cenv with scope:=relabel sc X.env }) (R acc cenv.locals) s₄) X.xe s₃) X.xe s2:=by
 refine wpAny_newObj_type (wpAny_newFunctionEnv SC.nocell (by intro y hy;simp at hy) (fun h₁ hns₁ hsb₁=>?_) SC.kind);dsimp only at hns₁ hsb₁ ⊢;have eC:(s2.heap.push { cls:=.type "list",dict:=none,data:=.seq ([]:List Value).toArray }).objs.size=s2.heap.objs.size+1:=by rw [Heap.size_push]
 rw [eC] at hns₁ hsb₁ ⊢;have old:∀ b o,s2.heap.get? b=some o->h₁.get? b=some o:=fun b o e=>hsb₁.extBut b o (Nat.ne_of_lt (Nat.lt_succ_of_lt (Heap.lt_size e))) (Heap.get?_push_of_some _ (Heap.get?_push_of_some _ e));have hacc:h₁.get? s2.heap.objs.size=some { cls:=.type "list",data:=.seq ([]:List Value).toArray }:=hsb₁.extBut _ _ (Nat.ne_of_lt (Nat.lt_succ_self _)) (Heap.get?_push_of_some _ (Heap.get?_push_size _ rfl));have hfl:∀ b∈fp,b < s2.heap.objs.size:=fun b hb=>by
  obtain ⟨o,e,_⟩:=T.obj _ _ st b hb;exact Heap.lt_size e
 have I1:=aA1 (tk:=s2.toks+([]:List (Str×Value)).length) I hS SC hcl1 hcl2 hf hfl hns₁ old hacc;have st1:tn 0 h₁:=T.keep _ _ _ st fun b _ o e=>old b o e;generalize hY:blk X N' sc cl (s2.heap.objs.size+1) s2 H2 fp=Y at I1;have hfY:∀ {H':Hp},(∀ b∈fp,H' b=none)->∀ b∈fp,iI Y [] H' b:=fun {H'} hn b hb=>by
  subst hY;refine ⟨hn b hb,Nat.ne_of_lt (Nat.lt_succ_of_lt (hfl b hb)),fun hz=>?_,.inl hb,fun x c e=>(hf b hb).2.2.2.2.1 x c (hcl1 x c e),fun p hp=>absurd (show p∈([]:List (Addr×Obj)) from hp) (by simp)⟩;rcases List.mem_cons.mp (I.stkSub b hz) with z | z
  ·exact (hf b hb).2.1 z
  ·exact (hf b hb).2.2.1 z
 have hg':PG Y tg g:=by subst hY;exact hg _ _ _ _ _
 have ht':PIf Y ifs tt:=by subst hY;exact ht _ _ _ _ _
 have he':PE Y elt te:=by subst hY;exact he _ _ _ _ _
 have hxY:Y.xe=fun _ _=>False:=by subst hY;exact hxe
 have hcY:Y.calm=true:=by subst hY;exact hc
 have hp0:∀ b∈fp,upd H2 s2.heap.objs.size (.lst []) b=none:=fun b hb=>by
  rw [aM (Nat.ne_of_lt (hfl b hb))];exact (hf b hb).1
 have loop:∀ s₃:Shared,s₃={ s2 with heap:=h₁,toks:=s2.toks+([]:List (Str×Value)).length } ->
   codeAny (model X.prog X.w) X.A (.compLoop (.ListComp elt [⟨tg,iter,ifs,0⟩] sc pos) 0 (.ref it) (.ref s2.heap.objs.size) Y.env) (R (.ref s2.heap.objs.size) (s2.heap.objs.size+1)) s₃:=by
  rintro s₃ rfl;have eP:X.prog=Y.prog:=by subst hY;rfl
  have eW:X.w=Y.w:=by subst hY;rfl
  have eA:X.A=Y.A:=by subst hY;rfl
  have eK:X.K=Y.K:=by subst hY;rfl
  have eM:model X.prog X.w=model Y.prog Y.w:=by rw [eP,eW]
  have back:∀ {σ' H' s'},Inv Y [] σ' H' s'->Inv X pins σ H' s'/\(∃ m,s'.heap.Ns (s2.heap.objs.size+1) m)/\H' (s2.heap.objs.size+1)=none:=fun {σ' H' s'} K=>by
   subst hY;obtain ⟨m,hn,_⟩:=K.loc;exact ⟨aZ1 I hf K,⟨m,hn⟩,K.free⟩
  clear hY;refine aA2 (fun n s'=>∃ i ys σ' H',Inv Y [] σ' H' s'/\tn i s'.heap/\(∀ b∈fp,H' b=none)/\W i n ys σ' H') ?_ m0 ⟨0,[],_,_,I1,st1,hp0,w0⟩;rintro n s3 ⟨i,ys,σ3,H3,I3,st3,fr3,w3⟩;rcases hW i n ys σ3 H3 w3 with ⟨stop,ha3,fin⟩ | ⟨go,step⟩
  ·have td:=T.done Y eP.symm eW.symm eK.symm hcY i [] s3 σ3 H3 (fun _ _=>False) I3 (hfY fr3) st3 stop;rw [<- eA] at td;refine thn td fun r s4 ⟨hr,I4⟩=>?_;subst hr;obtain ⟨J4,⟨m,hn⟩,hC⟩:=back I4;exact hR H3 s4 m J4 hn hC fin
  ·have td:=T.item Y eP.symm eW.symm eK.symm hcY i [] s3 σ3 H3 (fun _ _=>False) I3 (hfY fr3) st3 go;rw [<- eA] at td;refine thn td fun r s4 ⟨u,hr,h4⟩=>?_;subst hr;refine thn h4 fun _ s5 ⟨x,H5,I5,r5,y5,st5,fr5⟩=>?_;have I5':=I5.pinned (hfY fr5) (T.obj _ _ st5);have unx:∀ {α:Type} {t:Sem α} {Q:α->Shared->Prop} {s:Shared},wpAny (model Y.prog Y.w) Y.A t Q Y.xe s->wpAny (model X.prog X.w) X.A t Q (fun _ _=>False) s:=fun h=>by rw [eM,eA,<- hxY];exact h
   refine thn (unx (hg' _ s5 σ3 H5 x u _ I5' r5 (step x H5 y5))) fun _ s6 ⟨σ6,H6,I6,q6⟩=>?_;refine thn (unx (ht' _ s6 σ6 H6 _ I6 q6)) fun b s7 ⟨H7,I7,q7⟩=>?_;have keepIt:∀ {σ' H' s'},Inv Y ([]++lR fp s5.heap) σ' H' s'->tn (i+1) s'.heap/\∀ b∈fp,H' b=none:=fun {σ' H' s'} K =>
    ⟨T.keep _ _ _ st5 fun b hb o e=>(K.pin (b,o) (List.mem_append_right _ (List.mem_append_right _ (fN hb e)))).1,fun b hb=>by
     obtain ⟨o,e,d⟩:=T.obj _ _ st5 b hb;exact (K.pin (b,o) (List.mem_append_right _ (List.mem_append_right _ (fN hb e)))).2.1⟩
   cases b with
   | false =>
    obtain ⟨m',hm,w7⟩:=q7;exact ⟨m',hm,i+1,ys,σ6,H7,I7.unpinned,(keepIt I7).1,(keepIt I7).2,w7⟩
   | true =>
    refine thn (unx (he' _ s7 σ6 H7 _ I7 q7)) fun v s8 ⟨y,H8,I8,r8,q8⟩=>?_;obtain ⟨ha8,hz8,m',hm,w8⟩:=q8;refine thn (unx (oG (X:=Y) _ s8 σ6 H8 (.ref s2.heap.objs.size) [y] (.ref s2.heap.objs.size) [v] (fun v9 H9=>v9=.non/\H9=upd H8 s2.heap.objs.size (.lst (ys++[y]))) I8 rfl (.cons r8 .nil) ⟨_,ys,y,rfl,rfl,ha8,hz8,rfl,rfl⟩)) fun v9 s9 ⟨z9,H9,I9,_,_,e9⟩=>?_;subst e9;exact ⟨m',hm,i+1,ys++[y],σ6,_,I9.unpinned,(keepIt I9).1,(keepIt I9).2,w8⟩
 have eEnv:Y.env={ (newEnv sc (s2.heap.objs.size+1) X.env.globals cl X.env.qual none .none (some X.env) builtinsNs) with scope:=relabel sc X.env }:=by subst hY;rfl
 rw [eEnv] at loop;exact codeAny_compStart_list (loop _ rfl) (T.self X.A 0 _ _ _ st1 (loop _ rfl))
def xU (hxe:X.xe=fun _ _=>False) (hc:X.calm=true) (hS:X.env.scope=S) (SC:CompSc X.N N' ixs S sc) (hi:PI X tg iter wi)
  (hg:∀ cl C s H fp,PG (blk X N' sc cl C s H fp) tg g) (ht:∀ cl C s H fp,PIf (blk X N' sc cl C s H fp) ifs tt) (he:∀ cl C s H fp,PE (blk X N' sc cl C s H fp) elt te)
  (hs:autoParam (∀ x,foldedSetIterable iter X.env x=pure x) ZI):PE X (.ListComp elt [⟨tg,iter,ifs,0⟩] sc pos) (xT ixs wi g tt te):=by
 intro pins s σ H Q I h;obtain ⟨cl,ecl,hcl1,hcl2⟩:=lV (sc:=sc) (env:=X.env) fun y hy hf=>I.ok.has y.1 (by
  have z:=SC.free y hy hf;rw [<- hS] at z;exact z)
 rw [eval_ListComp];refine wpAny_comprehension_free (use:=none) rfl hs ecl SC.kind SC.loc ?_;refine thn (hi pins s σ H _ I h) fun v s1 h1=>thn h1 fun itv s2 h2=>?_;obtain ⟨it,fp,tn,J,H2,e,I2,T,st2,f2,hw⟩:=h2;subst e;obtain ⟨W,⟨m0,w0⟩,hW⟩:=hw _ (I2.hok.fresh (Nat.le_refl _));refine sV (R:=fun acc C=>compPost (model X.prog X.w) X.A X.xe none (EP X pins σ Q) acc C) hxe hc hS SC hcl1 hcl2 hg ht he I2 T st2 f2 w0 hW fun H' s' m J' hn hC fin=>?_;refine ⟨m,hn,fun h' hs'=>?_⟩;have hlt:=J'.lt;refine ⟨.ref s2.heap.objs.size,H',J'.turned (it:=s2.heap.objs.size+1) (t':=s'.toks) (fun b o hb e=>hs'.extBut b o hb e) hC (Nat.ne_of_gt (Nat.lt_succ_of_lt I2.lt)) (.inr (Nat.le_succ_of_le I2.sz)) (fun x c e z=>?_) (fun p hp z=>?_),rfl,fin⟩
 ·obtain ⟨v',q⟩:=I2.cell x c e;exact qN z q.lt
 ·exact qN z (Heap.lt_size (I2.pin p hp).1)
def vU {y:Str} {i:Nat} {py spos:Pos} (hxe:X.xe=fun _ _=>False) (hc:X.calm=true) (hS:X.env.scope=S) (SC:CompSc X.N N' ixs S sc) (hi:PI X tg iter wi)
  (hg:∀ cl C s H fp,PG (blk X N' sc cl C s H fp) tg g) (ht:∀ cl C s H fp,PIf (blk X N' sc cl C s H fp) ifs tt) (he:∀ cl C s H fp,PE (blk X N' sc cl C s H fp) elt te)
  (hN:X.N.Nodup) (hiN:X.N[i]?=some y) (hy:X.env.scope.names.lookup y=some .local) (hsw:swapsWith (.ListComp elt [⟨tg,iter,ifs,0⟩] sc pos) (some (.Name y py)) spos.line X.env=pure true)
  (hs:autoParam (∀ x,foldedSetIterable iter X.env x=pure x) ZI):PS X (.Assign [.Name y py] (.ListComp elt [⟨tg,iter,ifs,0⟩] sc pos) spos) (aX3 (xT ixs wi g tt te) (xK i)):=by
 intro pins s σ H D I h;obtain ⟨cl,ecl,hcl1,hcl2⟩:=lV (sc:=sc) (env:=X.env) fun y hy hf=>I.ok.has y.1 (by
  have z:=SC.free y hy hf;rw [<- hS] at z;exact z)
 rw [exec_Assign_Name_used _ _ _ _ hsw];refine wpAny_bind (wpAny_standAt (wpAny_bind ?_));show wpAny _ _ (do let _ <- comprehension (.ListComp elt [⟨tg,iter,ifs,0⟩] sc pos) sc X.env _ (newList []) false (eval iter X.env) (some (assign (.Name y py) X.env))) _ _ s;refine wpAny_bind (thn (wpAny_comprehension_free (use:=some (assign (.Name y py) X.env)) (Q:=fun _ s'=>SP X pins D .next s') rfl hs ecl SC.kind SC.loc ?_) fun _ s' hq=>wpAny_pure (wpAny_pure hq));refine thn (hi pins s σ H _ I h) fun v s1 h1=>thn h1 fun itv s2 h2=>?_;obtain ⟨it,fp,tn,J,H2,e,I2,T,st2,f2,hw⟩:=h2;subst e;obtain ⟨W,⟨m0,w0⟩,hW⟩:=hw _ (I2.hok.fresh (Nat.le_refl _));refine sV (R:=fun acc C=>compPost (model X.prog X.w) X.A X.xe (some (assign (.Name y py) X.env)) (fun _ s'=>SP X pins D .next s') acc C) hxe hc hS SC hcl1 hcl2 hg ht he I2 T st2 f2 w0 hW fun H' s' m J' hn hC fin=>?_;show wpAny _ _ (assign (.Name y py) X.env (.ref s2.heap.objs.size)) _ _ s';refine wpAny_assign_Name (nX (v:=.ref s2.heap.objs.size) J' hN hiN (.inl hy) rfl (fun s'' J2 hch=>?_) (.inr hy));obtain ⟨a,hsb,ha⟩:=hch;have clt:∀ x c,X.env.cells.lookup x=some c->c < s2.heap.objs.size:=fun x c e=>by
  obtain ⟨v',q⟩:=I2.cell x c e;exact q.lt
 have hlt:=I2.lt;have hne:s2.heap.objs.size+1≠a:=by
  rcases ha with z | z
  ·rw [z];exact Nat.ne_of_gt (Nat.lt_succ_of_lt hlt)
  ·exact Nat.ne_of_gt (Nat.lt_succ_of_lt (clt _ _ z))
 refine ⟨m,hn.sameBut hsb hne,fun h' hs'=>⟨_,H',J2.turned (it:=s2.heap.objs.size+1) (t':=s''.toks) (fun b o hb e=>hs'.extBut b o hb e) hC (Nat.ne_of_gt (Nat.lt_succ_of_lt hlt)) (.inr (Nat.le_succ_of_le I2.sz)) (fun x c e z=>?_) (fun p hp z=>?_),fin⟩⟩
 ·exact qN z (clt x c e)
 ·exact qN z (Heap.lt_size (I2.pin p hp).1)
end
end L2
set_option autoImplicit false
namespace DL
open PySem PySem.Spec PyProof.Rows L2
set_option genInjectivity true in
inductive W where
 | d (x:PyData)
 | c (i:Nat)
 | v (u:V)
set_option genInjectivity true in
inductive Cell where
 | l (xs:List PyData)
 | k (kvs:List (PyData×PyData))
 | t (P:Addr) (pos:Pos) (q:Str)
 | o (C:Addr) (fs:List (Str×W))
 | r (is:List Nat)
abbrev aA:=List Cell
abbrev DSt:=List (Option W)
abbrev DK:=W->aA->Prop
abbrev DTE:=DSt->aA->DK->Prop
abbrev DTT:=DSt->aA->(Bool->aA->Prop)->Prop
abbrev DTA:=DSt->aA->(List W->aA->Prop)->Prop
abbrev DTF:=DSt->aA->(List PyData->aA->Prop)->Prop
def KT (K:Frag) (a:Addr) (xs:List V):Prop :=
 ∃ (o:Obj) (its:Array Value) (n:Nat),K.lookup a=some o/\o.cls=.type "tuple"/\o.dict=none/\o.data=.seq its n/\its.size<=sizeLine/\Vals xs its.toList
def KL (K:Frag) (a:Addr) (xs:List V):Prop :=
 ∃ (o:Obj) (its:Array Value) (n:Nat),K.lookup a=some o/\o.cls=.type "list"/\o.dict=none/\o.data=.seq its n/\its.size<=sizeLine/\Vals xs its.toList
def TupAt (K:Frag) (A:List Addr) (H:Hp) (a:Addr) (xs:List V):Prop:=(a∉A/\Rd H a (.tup xs))\/KT K a xs
def LstAt (K:Frag) (A:List Addr) (H:Hp) (a:Addr) (xs:List V):Prop:=(a∉A/\Rd H a (.lst xs))\/KL K a xs
def TupAt.sq {K:Frag} {A:List Addr} {H:Hp} {a:Addr} {xs:List V} (h:TupAt K A H a xs):SqT K H a xs:=h.elim (fun z=>.inl z.2) fun ⟨o,its,n,h1,h2,_,h4⟩=>.inr ⟨o,its,n,h1,h2,h4⟩
def LstAt.sq {K:Frag} {A:List Addr} {H:Hp} {a:Addr} {xs:List V} (h:LstAt K A H a xs):SqL K H a xs:=h.elim (fun z=>.inl z.2) .inr
noncomputable def bA:PyData->Option Key
 | .int i=>some (.inl i)
 | .str x=>if PyData.strOk x=true then some (.inr x) else none
 | _=>none
mutual
noncomputable def Rep (K:Frag) (A:List Addr) (H:Hp):PyData->V->Prop
 | .none,v=>v=.non
 | .bool b,v=>v=.bl b
 | .int i,v=>v=.int i
 | .str x,v=>v=.str x/\PyData.strOk x=true
 | .list xs,v=>∃ a vs,v=.ref a/\LstAt K A H a vs/\Reps K A H xs vs
 | .tuple xs,v=>∃ a vs,v=.ref a/\TupAt K A H a vs/\Reps K A H xs vs
 | .dict kvs,v=>∃ a r,v=.ref a/\(a∉A/\Rd H a (.dK r))/\RepKs K A H kvs r
noncomputable def Reps (K:Frag) (A:List Addr) (H:Hp):List PyData->List V->Prop
 | [],vs=>vs=[]
 | x::xs,vs=>∃ v r,vs=v::r/\Rep K A H x v/\Reps K A H xs r
noncomputable def RepKs (K:Frag) (A:List Addr) (H:Hp):List (PyData×PyData)->List (Key×V)->Prop
 | [],r=>r=[]
 | p::kvs,r=>∃ q r',r=q::r'/\RepP K A H p q/\RepKs K A H kvs r'
noncomputable def RepP (K:Frag) (A:List Addr) (H:Hp):PyData×PyData->Key×V->Prop
 | (k,x),q=>bA k=some q.1/\Rep K A H x q.2
end
theorem Reps.length {K:Frag} {A:List Addr} {H:Hp}:∀ {xs:List PyData} {vs:List V},Reps K A H xs vs->vs.length=xs.length
 | [],_,h=>by rw [Reps] at h;subst h;rfl
 | _::xs,_,h=>by
  rw [Reps] at h;obtain ⟨v,r,rfl,_,h⟩:=h;rw [List.length_cons,List.length_cons,Reps.length h]
theorem Reps.get {K:Frag} {A:List Addr} {H:Hp}:∀ {xs:List PyData} {vs:List V} {i:Nat} {x:PyData},Reps K A H xs vs->xs[i]?=some x->∃ v,vs[i]?=some v/\Rep K A H x v
 | [],_,_,_,_,e=>by simp at e
 | y::xs,_,0,x,h,e=>by
  rw [Reps] at h;obtain ⟨v,r,rfl,hv,_⟩:=h;simp at e;subst e;exact ⟨v,rfl,hv⟩
 | y::xs,_,i+1,x,h,e=>by
  rw [Reps] at h;obtain ⟨v,r,rfl,_,h⟩:=h;obtain ⟨w,e1,e2⟩:=Reps.get (i:=i) h (by simpa using e);exact ⟨w,by simpa using e1,e2⟩
theorem Reps.append {K:Frag} {A:List Addr} {H:Hp} {ys:List PyData} {ws:List V} (h2:Reps K A H ys ws):∀ {xs:List PyData} {vs:List V},Reps K A H xs vs->Reps K A H (xs++ys) (vs++ws)
 | [],_,h=>by rw [Reps] at h;subst h;exact h2
 | x::xs,_,h=>by
  rw [Reps] at h;obtain ⟨v,r,rfl,hv,h⟩:=h;rw [List.cons_append,Reps];exact ⟨v,r++ws,rfl,hv,Reps.append h2 h⟩
def Reps.one {K:Frag} {A:List Addr} {H:Hp} {x:PyData} {v:V} (h:Rep K A H x v):Reps K A H [x] [v]:=by
 rw [Reps];exact ⟨v,[],rfl,h,by rw [Reps]⟩
def Reps.nil {K:Frag} {A:List Addr} {H:Hp}:Reps K A H [] []:=by rw [Reps]
def Reps.cons {K:Frag} {A:List Addr} {H:Hp} {x:PyData} {xs:List PyData} {v:V} {vs:List V} (h:Rep K A H x v) (hs:Reps K A H xs vs):Reps K A H (x::xs) (v::vs):=by
 rw [Reps];exact ⟨v,vs,rfl,h,hs⟩
theorem Reps.drop {K:Frag} {A:List Addr} {H:Hp}:∀ {xs:List PyData} {vs:List V} (n:Nat),Reps K A H xs vs->Reps K A H (xs.drop n) (vs.drop n)
 | _,_,0,h=>h
 | [],_,n+1,h=>by rw [Reps] at h;subst h;rw [List.drop_nil,List.drop_nil];exact .nil
 | x::xs,_,n+1,h=>by
  rw [Reps] at h;obtain ⟨v,r,rfl,_,h⟩:=h;exact Reps.drop n h
theorem Reps.take {K:Frag} {A:List Addr} {H:Hp}:∀ {xs:List PyData} {vs:List V} (n:Nat),Reps K A H xs vs->Reps K A H (xs.take n) (vs.take n)
 | _,_,0,h=>.nil
 | [],_,n+1,h=>by rw [Reps] at h;subst h;rw [List.take_nil,List.take_nil];exact .nil
 | x::xs,_,n+1,h=>by
  rw [Reps] at h;obtain ⟨v,r,rfl,hv,h⟩:=h;rw [List.take_succ_cons,List.take_succ_cons];exact .cons hv (Reps.take n h)
theorem Reps.set {K:Frag} {A:List Addr} {H:Hp} {x:PyData} {v:V} (hx:Rep K A H x v):∀ {xs:List PyData} {vs:List V} (i:Nat),Reps K A H xs vs->Reps K A H (xs.set i x) (vs.set i v)
 | [],_,i,h=>by rw [Reps] at h;subst h;exact .nil
 | y::xs,_,0,h=>by
  rw [Reps] at h;obtain ⟨w,r,rfl,_,h⟩:=h;exact .cons hx h
 | y::xs,_,i+1,h=>by
  rw [Reps] at h;obtain ⟨w,r,rfl,hw,h⟩:=h;exact .cons hw (Reps.set hx i h)
mutual
theorem Rep.anti {K:Frag} {A B:List Addr} {H:Hp} (hs:∀ a∈B,a∈A):∀ {d:PyData} {v:V},Rep K A H d v->Rep K B H d v
 | .none,_,h=>by rw [Rep] at h ⊢;exact h
 | .bool _,_,h=>by rw [Rep] at h ⊢;exact h
 | .int _,_,h=>by rw [Rep] at h ⊢;exact h
 | .str _,_,h=>by rw [Rep] at h ⊢;exact h
 | .list xs,_,h=>by
  rw [Rep] at h ⊢;obtain ⟨a,vs,e,h1,h2⟩:=h;exact ⟨a,vs,e,h1.elim (fun z=>.inl ⟨fun w=>z.1 (hs _ w),z.2⟩) .inr,Reps.anti hs h2⟩
 | .tuple xs,_,h=>by
  rw [Rep] at h ⊢;obtain ⟨a,vs,e,h1,h2⟩:=h;exact ⟨a,vs,e,h1.elim (fun z=>.inl ⟨fun w=>z.1 (hs _ w),z.2⟩) .inr,Reps.anti hs h2⟩
 | .dict kvs,_,h=>by
  rw [Rep] at h ⊢;obtain ⟨a,r,e,h1,h2⟩:=h;exact ⟨a,r,e,⟨fun w=>h1.1 (hs _ w),h1.2⟩,RepKs.anti hs h2⟩
theorem Reps.anti {K:Frag} {A B:List Addr} {H:Hp} (hs:∀ a∈B,a∈A):∀ {ds:List PyData} {vs:List V},Reps K A H ds vs->Reps K B H ds vs
 | [],_,h=>by rw [Reps] at h ⊢;exact h
 | x::xs,_,h=>by
  rw [Reps] at h ⊢;obtain ⟨v,r,e,h1,h2⟩:=h;exact ⟨v,r,e,Rep.anti hs h1,Reps.anti hs h2⟩
theorem RepKs.anti {K:Frag} {A B:List Addr} {H:Hp} (hs:∀ a∈B,a∈A):∀ {ds:List (PyData×PyData)} {vs:List (Key×V)},RepKs K A H ds vs->RepKs K B H ds vs
 | [],_,h=>by rw [RepKs] at h ⊢;exact h
 | p::xs,_,h=>by
  rw [RepKs] at h ⊢;obtain ⟨v,r,e,h1,h2⟩:=h;exact ⟨v,r,e,RepP.anti hs h1,RepKs.anti hs h2⟩
theorem RepP.anti {K:Frag} {A B:List Addr} {H:Hp} (hs:∀ a∈B,a∈A):∀ {p:PyData×PyData} {q:Key×V},RepP K A H p q->RepP K B H p q
 | (k,x),q,h=>by
  rw [RepP] at h ⊢;exact ⟨h.1,Rep.anti hs h.2⟩
end
mutual
theorem Rep.go {K:Frag} {A B:List Addr} {H H':Hp} (hs:∀ a o,a∉A->H a=some o->a∉B/\H' a=some o):∀ {d:PyData} {v:V},Rep K A H d v->Rep K B H' d v
 | .none,_,h=>by rw [Rep] at h ⊢;exact h
 | .bool _,_,h=>by rw [Rep] at h ⊢;exact h
 | .int _,_,h=>by rw [Rep] at h ⊢;exact h
 | .str _,_,h=>by rw [Rep] at h ⊢;exact h
 | .list xs,_,h=>by
  rw [Rep] at h ⊢;obtain ⟨a,vs,e,h1,h2⟩:=h;refine ⟨a,vs,e,?_,Reps.go hs h2⟩;rcases h1 with ⟨ha,h1 | ⟨o,h1⟩⟩ | h1
  ·exact .inl ⟨(hs a _ ha h1).1,.inl (hs a _ ha h1).2⟩
  ·exact .inl ⟨(hs a _ ha h1).1,.inr ⟨o,(hs a _ ha h1).2⟩⟩
  ·exact .inr h1
 | .tuple xs,_,h=>by
  rw [Rep] at h ⊢;obtain ⟨a,vs,e,h1,h2⟩:=h;refine ⟨a,vs,e,?_,Reps.go hs h2⟩;rcases h1 with ⟨ha,h1 | ⟨o,h1⟩⟩ | h1
  ·exact .inl ⟨(hs a _ ha h1).1,.inl (hs a _ ha h1).2⟩
  ·exact .inl ⟨(hs a _ ha h1).1,.inr ⟨o,(hs a _ ha h1).2⟩⟩
  ·exact .inr h1
 | .dict kvs,_,h=>by
  rw [Rep] at h ⊢;obtain ⟨a,r,e,⟨ha,h1⟩,h2⟩:=h;refine ⟨a,r,e,?_,RepKs.go hs h2⟩;rcases h1 with h1 | ⟨o,h1⟩
  ·exact ⟨(hs a _ ha h1).1,.inl (hs a _ ha h1).2⟩
  ·exact ⟨(hs a _ ha h1).1,.inr ⟨o,(hs a _ ha h1).2⟩⟩
theorem Reps.go {K:Frag} {A B:List Addr} {H H':Hp} (hs:∀ a o,a∉A->H a=some o->a∉B/\H' a=some o):∀ {ds:List PyData} {vs:List V},Reps K A H ds vs->Reps K B H' ds vs
 | [],_,h=>by rw [Reps] at h ⊢;exact h
 | x::xs,_,h=>by
  rw [Reps] at h ⊢;obtain ⟨v,r,e,h1,h2⟩:=h;exact ⟨v,r,e,Rep.go hs h1,Reps.go hs h2⟩
theorem RepKs.go {K:Frag} {A B:List Addr} {H H':Hp} (hs:∀ a o,a∉A->H a=some o->a∉B/\H' a=some o):∀ {ds:List (PyData×PyData)} {vs:List (Key×V)},RepKs K A H ds vs->RepKs K B H' ds vs
 | [],_,h=>by rw [RepKs] at h ⊢;exact h
 | p::xs,_,h=>by
  rw [RepKs] at h ⊢;obtain ⟨v,r,e,h1,h2⟩:=h;exact ⟨v,r,e,RepP.go hs h1,RepKs.go hs h2⟩
theorem RepP.go {K:Frag} {A B:List Addr} {H H':Hp} (hs:∀ a o,a∉A->H a=some o->a∉B/\H' a=some o):∀ {p:PyData×PyData} {q:Key×V},RepP K A H p q->RepP K B H' p q
 | (k,x),q,h=>by
  rw [RepP] at h ⊢;exact ⟨h.1,Rep.go hs h.2⟩
end
def TbOk (A:List Addr) (H:Hp) (P:Addr) (pos:Pos) (q:Str):Prop:=∃ ps,H P=some (.tbl ps)/\TriplesOk ps.toList/\(codeAmong pos ps.toList=none\/∃ c,codeAmong pos ps.toList=some (.ref c)/\c∉A/\H c=some (.ext fun h=>h.CodeRec (.ref c) q))
def TbOk.go {A A':List Addr} {H H':Hp} {P:Addr} {pos:Pos} {q:Str} (k:TbOk A H P pos q) (e:H' P=H P) (hs:∀ a o,a∉A->H a=some o->a∉A'/\H' a=some o):TbOk A' H' P pos q:=by
 obtain ⟨ps,h1,h2,h3⟩:=k;refine ⟨ps,by rw [e];exact h1,h2,h3.imp id fun ⟨c,e1,e2,e3⟩=>⟨c,e1,hs c _ e2 e3⟩⟩
noncomputable def RepW (K:Frag) (A μ:List Addr) (H:Hp):W->V->Prop
 | .d x,v=>Rep K A H x v
 | .c i,v=>∃ a,μ[i]?=some a/\v=.ref a
 | .v u,v=>v=u
noncomputable def FsOk (K:Frag) (A μ:List Addr) (H:Hp):List (Str×W)->List (Str×V)->Prop
 | [],vs=>vs=[]
 | p::fs,vs=>∃ v vr,vs=(p.1,v)::vr/\RepW K A μ H p.2 v/\FsOk K A μ H fs vr
noncomputable def IsOk (μ:List Addr):List Nat->List V->Prop
 | [],vs=>vs=[]
 | i::is,vs=>∃ a vr,vs=V.ref a::vr/\μ[i]?=some a/\IsOk μ is vr
noncomputable def wRefs:W->List Nat
 | .c i=>[i]
 | _=>[]
noncomputable def cRefs:Cell->List Nat
 | .o _ fs=>(fs.map fun p=>wRefs p.2).flatten
 | .r is=>is
 | _=>[]
noncomputable def CellOk (K:Frag) (A μ:List Addr) (H:Hp) (a:Addr):Cell->Prop
 | .l xs=>∃ vs,H a=some (.lst vs)/\Reps K A H xs vs
 | .k kvs=>∃ r,H a=some (.dK r)/\RepKs K A H kvs r
 | .t P pos q=>a=P/\TbOk A H P pos q
 | .o C fs=>∃ dx vs,H a=some (.ins C dx vs)/\FsOk K A μ H fs vs
 | .r is=>∃ vs,H a=some (.lst vs)/\IsOk μ is vs
def RepW.go {K:Frag} {A A' μ μ':List Addr} {H H':Hp} (hs:∀ a o,a∉A->H a=some o->a∉A'/\H' a=some o) {w:W} {v:V} (hm:∀ i∈wRefs w,∀ a,μ[i]?=some a->μ'[i]?=some a) (r:RepW K A μ H w v):RepW K A' μ' H' w v:=by
 cases w with
 | d y=>exact Rep.go hs r
 | v u=>exact r
 | c i =>
  obtain ⟨a,e,z⟩:=r;exact ⟨a,hm i List.mem_cons_self a e,z⟩
theorem FsOk.go {K:Frag} {A A' μ μ':List Addr} {H H':Hp} (hs:∀ a o,a∉A->H a=some o->a∉A'/\H' a=some o):∀ {fs:List (Str×W)} {vs:List (Str×V)},(∀ i∈(fs.map fun p=>wRefs p.2).flatten,∀ a,μ[i]?=some a->μ'[i]?=some a)->FsOk K A μ H fs vs->FsOk K A' μ' H' fs vs
 | [],_,_,h=>h
 | p::fs,_,hm,⟨v,vr,e,r,h⟩=>⟨v,vr,e,r.go hs fun i hi=>hm i (by rw [List.map_cons,List.flatten_cons];exact List.mem_append_left _ hi),FsOk.go hs (fun i hi=>hm i (by rw [List.map_cons,List.flatten_cons];exact List.mem_append_right _ hi)) h⟩
theorem IsOk.go {μ μ':List Addr}:∀ {is:List Nat} {vs:List V},(∀ i∈is,∀ a,μ[i]?=some a->μ'[i]?=some a)->IsOk μ is vs->IsOk μ' is vs
 | [],_,_,h=>h
 | i::is,_,hm,⟨a,vr,e,r,h⟩=>⟨a,vr,e,hm i List.mem_cons_self a r,IsOk.go (fun j hj=>hm j (List.mem_cons_of_mem _ hj)) h⟩
theorem FsOk.lt {K:Frag} {A μ:List Addr} {H:Hp}:∀ {fs:List (Str×W)} {vs:List (Str×V)},FsOk K A μ H fs vs->∀ i∈(fs.map fun p=>wRefs p.2).flatten,i < μ.length
 | [],_,_,i,hi=>by simp at hi
 | p::fs,_,⟨v,vr,e,r,h⟩,i,hi=>by
  rw [List.map_cons,List.flatten_cons] at hi;rcases List.mem_append.mp hi with hi | hi
  ·obtain ⟨f,w⟩:=p;cases w with
   | c j =>
    obtain ⟨a,e1,_⟩:=r;rw [List.mem_singleton.mp hi];exact (List.getElem?_eq_some_iff.mp e1).1
   | d x=>cases hi
   | v x=>cases hi
  ·exact FsOk.lt h i hi
theorem IsOk.lt {μ:List Addr}:∀ {is:List Nat} {vs:List V},IsOk μ is vs->∀ i∈is,i < μ.length
 | [],_,_,i,hi=>by cases hi
 | j::is,_,⟨a,vr,e,r,h⟩,i,hi=>by
  rcases List.mem_cons.mp hi with hi | hi
  ·rw [hi];exact (List.getElem?_eq_some_iff.mp r).1
  ·exact IsOk.lt h i hi
def CellOk.go {K:Frag} {A A' μ μ':List Addr} {H H':Hp} (hs:∀ a o,a∉A->H a=some o->a∉A'/\H' a=some o) {a:Addr} {c:Cell} (hm:∀ i∈cRefs c,∀ b,μ[i]?=some b->μ'[i]?=some b) (k:CellOk K A μ H a c) (e:H' a=H a):CellOk K A' μ' H' a c:=by
 cases c with
 | l xs=>obtain ⟨vs,q,r⟩:=k;exact ⟨vs,by rw [e];exact q,r.go hs⟩
 | k kvs=>obtain ⟨vs,q,r⟩:=k;exact ⟨vs,by rw [e];exact q,r.go hs⟩
 | t P pos q=>obtain ⟨rfl,q⟩:=k;exact ⟨rfl,q.go e hs⟩
 | o C fs=>obtain ⟨dx,vs,q,r⟩:=k;exact ⟨dx,vs,by rw [e];exact q,r.go hs hm⟩
 | r is=>obtain ⟨vs,q,r⟩:=k;exact ⟨vs,by rw [e];exact q,r.go hm⟩
def CellOk.lt {K:Frag} {A μ:List Addr} {H:Hp} {a:Addr} {c:Cell} (k:CellOk K A μ H a c):∀ i∈cRefs c,i < μ.length:=by
 cases c with
 | l xs=>intro i hi;cases hi
 | k kvs=>intro i hi;cases hi
 | t P pos q=>intro i hi;cases hi
 | o C fs=>obtain ⟨dx,vs,q,r⟩:=k;exact r.lt
 | r is=>obtain ⟨vs,q,r⟩:=k;exact r.lt
def aK0 (h:aA):Prop:=∀ c∈h,∀ i∈cRefs c,i < h.length
def okP (h h1:aA):Prop:=∀ (i:Nat) (c:Cell),i < h.length->h1[i]?=some c->(∀ j∈cRefs c,j < h.length)\/h[i]?=some c
structure HeapRep (K:Frag) (A μ:List Addr) (h:aA) (H:Hp):Prop where
 len:μ.length=h.length
 nd:μ.Nodup
 sub:∀ a∈μ,a∈A
 trk:∀ a∈A,∃ o,H a=some o
 cel:∀ (i:Nat) (a:Addr) (c:Cell),μ[i]?=some a->h[i]?=some c->CellOk K A μ H a c
def HeapRep.val {K:Frag} {A μ:List Addr} {h:aA} {H:Hp} (R:HeapRep K A μ h H) (i:Nat) (a:Addr) (xs:List PyData) (e1:μ[i]?=some a) (e2:h[i]?=some (Cell.l xs)):∃ vs,H a=some (.lst vs)/\Reps K A H xs vs:=R.cel i a _ e1 e2
def HeapRep.vad {K:Frag} {A μ:List Addr} {h:aA} {H:Hp} (R:HeapRep K A μ h H) (i:Nat) (a:Addr) (kvs:List (PyData×PyData)) (e1:μ[i]?=some a) (e2:h[i]?=some (Cell.k kvs)):∃ r,H a=some (.dK r)/\RepKs K A H kvs r:=R.cel i a _ e1 e2
def HeapRep.refs {K:Frag} {A μ:List Addr} {h:aA} {H:Hp} (R:HeapRep K A μ h H):aK0 h:=fun c hc i hi=>by
 obtain ⟨j,hj,rfl⟩:=List.mem_iff_getElem.mp hc;have hj':j < μ.length:=by rw [R.len];exact hj
 rw [<- R.len];exact (R.cel j μ[j] h[j] (List.getElem?_eq_getElem hj') (List.getElem?_eq_getElem hj)).lt i hi
structure EnvRep (K:Frag) (A μ:List Addr) (H:Hp) (δ:DSt) (σ:L2.St):Prop where
 len:δ.length=σ.length
 val:∀ (i:Nat) (w:W),δ[i]?=some (some w)->∃ v,σ[i]?=some (some v)/\RepW K A μ H w v
structure Ext (A A' μ μ':List Addr) (H H':Hp):Prop where
 sub:∀ a∈A,a∈A'
 new:∀ a∈A',a∈A\/H a=none
 pre:∃ ν,μ'=μ++ν/\∀ a∈ν,H a=none
 keep:∀ a o,a∉μ->H a=some o->H' a=some o
 trk:∀ a o,H a=some o->∃ o',H' a=some o'
section
variable {K:Frag} {A A' A1 A2 μ μ' μ1 μ2:List Addr} {H H' H1 H2:Hp} {h h':aA}
def Ext.refl:Ext A A μ μ H H:=⟨fun _ z=>z,fun _ z=>.inl z,⟨[],by simp,fun _ z=>(nomatch z)⟩,fun _ _ _ z=>z,fun _ o z=>⟨o,z⟩⟩
def Ext.back (x:Ext A A' μ μ' H H') {a:Addr} (e:H' a=none):H a=none:=by
 cases q:H a with
 | none=>rfl
 | some o=>obtain ⟨o',z⟩:=x.trk a o q;rw [e] at z;cases z
def Ext.trans (x:Ext A A1 μ μ1 H H1) (y:Ext A1 A2 μ1 μ2 H1 H2):Ext A A2 μ μ2 H H2:=by
 obtain ⟨ν,e1,n1⟩:=x.pre;obtain ⟨ν',e2,n2⟩:=y.pre;refine ⟨fun a z=>y.sub a (x.sub a z),fun a z=>?_,⟨ν++ν',by rw [e2,e1,List.append_assoc],fun a z=>?_⟩,fun a o ha q=>y.keep a o (fun z=>?_) (x.keep a o ha q),fun a o q=>?_⟩
 ·rcases y.new a z with z | z
  ·exact x.new a z
  ·exact .inr (x.back z)
 ·rcases List.mem_append.mp z with z | z
  ·exact n1 a z
  ·exact x.back (n2 a z)
 ·rw [e1] at z;rcases List.mem_append.mp z with z | z
  ·exact ha z
  ·rw [n1 a z] at q;cases q
 ·obtain ⟨o1,q1⟩:=x.trk a o q;exact y.trk a o1 q1
def Ext.go (x:Ext A A' μ μ' H H') (hs:∀ a∈μ,a∈A):∀ a o,a∉A->H a=some o->a∉A'/\H' a=some o:=fun a o ha q=>by
 refine ⟨fun z=>?_,x.keep a o (fun z=>ha (hs a z)) q⟩;rcases x.new a z with z | z
 ·exact ha z
 ·rw [z] at q;cases q
def Rep.ext (x:Ext A A' μ μ' H H') (hs:∀ a∈μ,a∈A) {d:PyData} {v:V} (r:Rep K A H d v):Rep K A' H' d v:=r.go (x.go hs)
def Reps.ext (x:Ext A A' μ μ' H H') (hs:∀ a∈μ,a∈A) {d:List PyData} {v:List V} (r:Reps K A H d v):Reps K A' H' d v:=r.go (x.go hs)
def RepKs.ext (x:Ext A A' μ μ' H H') (hs:∀ a∈μ,a∈A) {d:List (PyData×PyData)} {v:List (Key×V)} (r:RepKs K A H d v):RepKs K A' H' d v:=r.go (x.go hs)
def CellOk.some {a:Addr} {c:Cell} (k:CellOk K A μ H a c):∃ o,H a=some o:=by
 cases c with
 | l xs=>obtain ⟨vs,q,_⟩:=k;exact ⟨_,q⟩
 | k kvs=>obtain ⟨vs,q,_⟩:=k;exact ⟨_,q⟩
 | t P pos q=>obtain ⟨rfl,vs,q,_⟩:=k;exact ⟨_,q⟩
 | o C fs=>obtain ⟨dx,vs,q,_⟩:=k;exact ⟨_,q⟩
 | r is=>obtain ⟨vs,q,_⟩:=k;exact ⟨_,q⟩
def Ext.look (x:Ext A A' μ μ' H H') (i:Nat) (a:Addr) (e:μ[i]?=some a):μ'[i]?=some a:=by
 obtain ⟨ν,e1,_⟩:=x.pre;rw [e1,List.getElem?_append_left (List.getElem?_eq_some_iff.mp e).1];exact e
def CellOk.ext (x:Ext A A' μ μ' H H') (hs:∀ a∈μ,a∈A) {a:Addr} {c:Cell} (k:CellOk K A μ H a c) (e:H' a=H a):CellOk K A' μ' H' a c:=k.go (x.go hs) (fun i _ a=>x.look i a) e
def CellOk.anti {a:Addr} {c:Cell} (hs:∀ a∈A',a∈A) (hm:∀ i∈cRefs c,∀ b,μ[i]?=Option.some b->μ'[i]?=Option.some b) (k:CellOk K A μ H a c):CellOk K A' μ' H a c:=k.go (fun a o n e=>⟨fun z=>n (hs a z),e⟩) hm rfl
def RepW.ext (x:Ext A A' μ μ' H H') (hs:∀ a∈μ,a∈A) {w:W} {v:V} (r:RepW K A μ H w v):RepW K A' μ' H' w v:=by
 cases w with
 | d y=>exact Rep.ext x hs r
 | v u=>exact r
 | c i =>
  obtain ⟨a,e,z⟩:=r;obtain ⟨ν,e1,_⟩:=x.pre;refine ⟨a,?_,z⟩;rw [e1,List.getElem?_append_left (List.getElem?_eq_some_iff.mp e).1];exact e
def EnvRep.ext (x:Ext A A' μ μ' H H') (hs:∀ a∈μ,a∈A) {δ:DSt} {σ:L2.St} (r:EnvRep K A μ H δ σ):EnvRep K A' μ' H' δ σ :=
 ⟨r.len,fun i w e=>by
  obtain ⟨v,e1,r1⟩:=r.val i w e;exact ⟨v,e1,r1.ext x hs⟩⟩
def EnvRep.set {δ:DSt} {σ:L2.St} {w:W} {v:V} (r:EnvRep K A μ H δ σ) (i:Nat) (rw':RepW K A μ H w v):EnvRep K A μ H (δ.set i (some w)) (σ.set i (some v)):=by
 refine ⟨by rw [List.length_set,List.length_set];exact r.len,fun j u e=>?_⟩
 by_cases hj:i=j
 ·subst hj;have hi:i < δ.length:=by
   have:=(List.getElem?_eq_some_iff.mp e).1
   rwa [List.length_set] at this
  rw [List.getElem?_set_self hi] at e;cases e;exact ⟨v,List.getElem?_set_self (by rw [<- r.len];exact hi),rw'⟩
 ·rw [List.getElem?_set_ne hj] at e ⊢;exact r.val j u e
def bD {p:Addr} {o:HO} (hp:H p=none):Ext A A μ μ H (upd H p o) :=
 ⟨fun _ z=>z,fun _ z=>.inl z,⟨[],by simp,fun _ z=>(nomatch z)⟩,fun a o' _ q=>by rw [aM (aP q hp)];exact q,fun a o' q=>⟨o',by rw [aM (aP q hp)];exact q⟩⟩
def HeapRep.fresh {p:Addr} {o:HO} (R:HeapRep K A μ h H) (hp:H p=none):HeapRep K A μ h (upd H p o) :=
 ⟨R.len,R.nd,R.sub,fun a z=>by
  obtain ⟨o',q⟩:=R.trk a z;exact ⟨o',by rw [aM (aP q hp)];exact q⟩,fun i a c e1 e2=>by
  have k:=R.cel i a c e1 e2;obtain ⟨o',q⟩:=k.some;exact k.ext (bD (μ:=μ) hp) R.sub (aM (aP q hp))⟩
def HeapRep.notA {p:Addr} (R:HeapRep K A μ h H) (hp:H p=none):p∉A:=fun z=>by
 obtain ⟨o,q⟩:=R.trk p z;rw [hp] at q;cases q
def dX {p:Addr} {xs:List PyData} {vs:List V} (R:HeapRep K A μ h H) (hp:H p=none) (r:Reps K A H xs vs):Rep K A (upd H p (.tup vs)) (.tuple xs) (.ref p):=by
 rw [Rep];exact ⟨p,vs,rfl,.inl ⟨R.notA hp,.inl aS⟩,r.ext (bD (μ:=μ) hp) R.sub⟩
def cC {p:Addr} {o:HO} (hp:H p=none):Ext A (p::A) μ (μ++[p]) H (upd H p o) :=
 ⟨fun _ z=>List.mem_cons_of_mem _ z,fun a z=>(List.mem_cons.mp z).elim (fun e=>.inr (by rw [e];exact hp)) .inl,⟨[p],rfl,fun a z=>by rw [List.mem_singleton.mp z];exact hp⟩,
  fun a o' _ q=>by rw [aM (aP q hp)];exact q,fun a o' q=>⟨o',by rw [aM (aP q hp)];exact q⟩⟩
def iJ {p:Addr} {o:HO} {c:Cell} (R:HeapRep K A μ h H) (hp:H p=none) (hc:CellOk K (p::A) (μ++[p]) (upd H p o) p c):HeapRep K (p::A) (μ++[p]) (h++[c]) (upd H p o):=by
 have nA:=R.notA hp;have X:Ext A (p::A) μ (μ++[p]) H (upd H p o):=cC hp;refine ⟨by rw [List.length_append,List.length_append,R.len];rfl,?_,fun a z=>?_,fun a z=>?_,fun i a ys e1 e2=>?_⟩
 ·rw [List.nodup_append];refine ⟨R.nd,(by simp),fun a ha b hb=>?_⟩;rw [List.mem_singleton.mp hb];rintro rfl;exact nA (R.sub _ ha)
 ·rcases List.mem_append.mp z with z | z
  ·exact List.mem_cons_of_mem _ (R.sub a z)
  ·rw [List.mem_singleton.mp z];exact List.mem_cons_self
 ·rcases List.mem_cons.mp z with e | z
  ·subst e;exact ⟨_,aS⟩
  ·obtain ⟨o',q⟩:=R.trk a z;exact ⟨o',by rw [aM (aP q hp)];exact q⟩
 ·by_cases hi:i < μ.length
  ·rw [List.getElem?_append_left hi] at e1;rw [List.getElem?_append_left (by rw [<- R.len];exact hi)] at e2;have k:=R.cel i a ys e1 e2;obtain ⟨o',q⟩:=k.some;exact k.ext X R.sub (aM (aP q hp))
  ·have hle:μ.length<=i:=Nat.le_of_not_lt hi;rw [List.getElem?_append_right hle] at e1;rw [List.getElem?_append_right (by rw [<- R.len];exact hle),<- R.len] at e2;have hz:i - μ.length=0:=by
    have:=(List.getElem?_eq_some_iff.mp e1).1;simp at this;omega
   rw [hz] at e1 e2;simp at e1 e2;subst e1 e2;exact hc
def cY {p:Addr} {xs:List PyData} {vs:List V} (R:HeapRep K A μ h H) (hp:H p=none) (r:Reps K A H xs vs):HeapRep K (p::A) (μ++[p]) (h++[(Cell.l xs)]) (upd H p (.lst vs))/\aK0 h :=
 ⟨iJ R hp ⟨vs,aS,r.ext (cC (μ:=μ) hp) R.sub⟩,R.refs⟩
def vV {p:Addr} {xs:List (PyData×PyData)} {vs:List (Key×V)} (R:HeapRep K A μ h H) (hp:H p=none) (r:RepKs K A H xs vs):HeapRep K (p::A) (μ++[p]) (h++[(Cell.k xs)]) (upd H p (.dK vs)) :=
 iJ R hp ⟨vs,aS,r.ext (cC (μ:=μ) hp) R.sub⟩
def Rep.upd {p:Addr} {o:HO} (hp:p∈A) {d:PyData} {v:V} (r:Rep K A H d v):Rep K A (L2.upd H p o) d v:=r.go fun a o' ha q=>⟨ha,by rw [aM (fun e=>ha (by rw [e];exact hp))];exact q⟩
def Reps.upd {p:Addr} {o:HO} (hp:p∈A) {d:List PyData} {v:List V} (r:Reps K A H d v):Reps K A (L2.upd H p o) d v:=r.go fun a o' ha q=>⟨ha,by rw [aM (fun e=>ha (by rw [e];exact hp))];exact q⟩
def RepKs.upd {p:Addr} {o:HO} (hp:p∈A) {d:List (PyData×PyData)} {v:List (Key×V)} (r:RepKs K A H d v):RepKs K A (L2.upd H p o) d v:=r.go fun a o' ha q=>⟨ha,by rw [aM (fun e=>ha (by rw [e];exact hp))];exact q⟩
def CellOk.upd {p a:Addr} {o:HO} {c:Cell} (hp:p∈A) (ne:a≠p) (k:CellOk K A μ H a c):CellOk K A μ (L2.upd H p o) a c:=k.go (fun b o hb e=>⟨hb,by rw [aM (fun z=>hb (by rw [z];exact hp))];exact e⟩) (fun _ _ _ e=>e) (aM ne)
def dY {p:Addr} {o o0:HO} (hp:p∈μ) (h0:H p=some o0):Ext A A μ μ H (upd H p o) :=
 ⟨fun _ z=>z,fun _ z=>.inl z,⟨[],by simp,fun _ z=>(nomatch z)⟩,fun a o' ha q=>by rw [aM (fun e=>ha (by rw [e];exact hp))];exact q,fun a o' q=>by
  by_cases e:a=p
  ·subst e;exact ⟨_,aS⟩
  ·exact ⟨o',by rw [aM e];exact q⟩⟩
def gN {p:Addr} {i:Nat} {o:HO} {c:Cell} (R:HeapRep K A μ h H) (hp:μ[i]?=some p) (hc:CellOk K A μ (upd H p o) p c):HeapRep K A μ (h.set i c) (upd H p o):=by
 have hm:p∈μ:=List.mem_of_getElem? hp;have hA:=R.sub p hm;refine ⟨by rw [List.length_set];exact R.len,R.nd,R.sub,fun a z=>?_,fun j a ys e1 e2=>?_⟩
 ·by_cases e:a=p
  ·subst e;exact ⟨_,aS⟩
  ·obtain ⟨o',q⟩:=R.trk a z;exact ⟨o',by rw [aM e];exact q⟩
 ·by_cases hj:i=j
  ·subst hj;rw [hp] at e1;cases e1;have hi:i < h.length:=by rw [<- R.len];exact (List.getElem?_eq_some_iff.mp hp).1
   rw [List.getElem?_set_self hi] at e2;cases e2;exact hc
  ·rw [List.getElem?_set_ne hj] at e2;have ne:a≠p:=fun e=>by
    subst e;have h1:=List.getElem?_eq_some_iff.mp e1;have h2:=List.getElem?_eq_some_iff.mp hp;exact hj ((List.getElem_inj R.nd).mp (h2.2.trans h1.2.symm))
   exact (R.cel j a ys e1 e2).upd hA ne
def fQ {p:Addr} {i:Nat} {xs:List PyData} {vs:List V} (R:HeapRep K A μ h H) (hp:μ[i]?=some p) (r:Reps K A H xs vs):HeapRep K A μ (h.set i (Cell.l xs)) (upd H p (.lst vs)) :=
 gN R hp ⟨vs,aS,r.upd (R.sub p (List.mem_of_getElem? hp))⟩
def sW {p:Addr} {i:Nat} {xs:List (PyData×PyData)} {vs:List (Key×V)} (R:HeapRep K A μ h H) (hp:μ[i]?=some p) (r:RepKs K A H xs vs):HeapRep K A μ (h.set i (Cell.k xs)) (upd H p (.dK vs)) :=
 gN R hp ⟨vs,aS,r.upd (R.sub p (List.mem_of_getElem? hp))⟩
def lW {p:Addr} {o:HO} (R:HeapRep K A μ h H) (hA:p∈A) (hn:p∉μ):HeapRep K A μ h (upd H p o):=by
 refine ⟨R.len,R.nd,R.sub,fun a z=>?_,fun j a ys e1 e2=>?_⟩
 ·by_cases e:a=p
  ·subst e;exact ⟨_,aS⟩
  ·obtain ⟨o',q⟩:=R.trk a z;exact ⟨o',by rw [aM e];exact q⟩
 ·exact (R.cel j a ys e1 e2).upd hA fun e=>hn (by rw [<- e];exact List.mem_of_getElem? e1)
def gO {p:Addr} {xs:List PyData} (R:HeapRep K A (μ++[p]) (h++[(Cell.l xs)]) H) (hr:aK0 h):HeapRep K (A.filter fun a=>decide (a≠p)) μ h H/\Rep K (A.filter fun a=>decide (a≠p)) H (.list xs) (.ref p):=by
 have hl:μ.length=h.length:=by
  have:=R.len
  simpa using this
 have an:∀ a∈A.filter (fun a=>decide (a≠p)),a∈A:=fun a z=>(List.mem_filter.mp z).1;refine ⟨⟨hl,(List.nodup_append.mp R.nd).1,fun a z=>?_,fun a z=>R.trk a (an a z),fun i a ys e1 e2=>?_⟩,?_⟩
 ·refine List.mem_filter.mpr ⟨R.sub a (List.mem_append_left _ z),?_⟩;have:=(List.nodup_append.mp R.nd).2.2 a z p List.mem_cons_self
  simpa using this
 ·exact (R.cel i a ys (by rw [List.getElem?_append_left (List.getElem?_eq_some_iff.mp e1).1];exact e1) (by rw [List.getElem?_append_left (List.getElem?_eq_some_iff.mp e2).1];exact e2)).anti an fun j hj b eb=>by
   have hlt:j < μ.length:=by rw [hl];exact hr ys (List.mem_of_getElem? e2) j hj
   rw [List.getElem?_append_left hlt] at eb;exact eb
 ·obtain ⟨vs,q,r⟩:=R.val μ.length p xs (by simp) (by rw [hl];simp);rw [Rep];exact ⟨p,vs,rfl,.inl ⟨fun z=>by simpa using (List.mem_filter.mp z).2,.inl q⟩,r.anti an⟩
def iK {p:Addr} (R:HeapRep K A μ h H) (hp:H p=none) (x:Ext A A' μ (μ'++[p]) H H') (hm:∃ ν,μ'=μ++ν):Ext A (A'.filter fun a=>decide (a≠p)) μ μ' H H':=by
 obtain ⟨ν,e,n⟩:=x.pre;obtain ⟨ν',e'⟩:=hm;refine ⟨fun a z=>List.mem_filter.mpr ⟨x.sub a z,?_⟩,fun a z=>x.new a (List.mem_filter.mp z).1,⟨ν',e',fun a z=>n a ?_⟩,x.keep,x.trk⟩
 ·have:a≠p:=fun q=>R.notA hp (by rw [<- q];exact z)
  simpa using this
 ·rw [e',List.append_assoc] at e;rw [<- List.append_cancel_left e];exact List.mem_append_left _ z
end
def Ab (K:Frag) (A μ:List Addr) (δ:DSt) (h:aA) (σ:L2.St) (H:Hp):Prop:=HeapRep K A μ h H/\EnvRep K A μ H δ σ
def up (K:Frag) (t:DTE):TE:=fun σ H Q=>∃ (δ:DSt) (h:aA) (A μ:List Addr) (k:DK),Ab K A μ δ h σ H/\t δ h k /\
 ∀ w h' v H' A' μ',k w h'->Ext A A' μ μ' H H'->HeapRep K A' μ' h' H'->RepW K A' μ' H' w v->Q v H'
def upT (K:Frag) (t:DTT):TT:=fun σ H Q=>∃ (δ:DSt) (h:aA) (A μ:List Addr) (k:Bool->aA->Prop),Ab K A μ δ h σ H/\t δ h k /\
 ∀ b h' H' A' μ',k b h'->Ext A A' μ μ' H H'->HeapRep K A' μ' h' H'->Q b H'
noncomputable def RepWs (K:Frag) (A μ:List Addr) (H:Hp):List W->List V->Prop
 | [],vs=>vs=[]
 | w::ws,vs=>∃ v r,vs=v::r/\RepW K A μ H w v/\RepWs K A μ H ws r
def upA (K:Frag) (t:DTA):TA:=fun σ H Q=>∃ (δ:DSt) (h:aA) (A μ:List Addr) (k:List W->aA->Prop),Ab K A μ δ h σ H/\t δ h k /\
 ∀ ws h' vs H' A' μ',k ws h'->Ext A A' μ μ' H H'->HeapRep K A' μ' h' H'->RepWs K A' μ' H' ws vs->Q vs H'
def upF (K:Frag) (t:DTF):TE:=fun σ H Q=>∃ (δ:DSt) (h:aA) (A μ:List Addr) (k:List PyData->aA->Prop),Ab K A μ δ h σ H/\t δ h k /\
 ∀ xs h' a H' A' μ',k xs h'->Ext A A' μ (μ'++[a]) H H'->(∃ ν,μ'=μ++ν)->H a=none->HeapRep K A' (μ'++[a]) (h'++[(Cell.l xs)]) H'/\aK0 h'->Q (.ref a) H'
def DE (X:Cx) (e:Expr) (t:DTE):Prop:=PE X e (up X.K t)
def DT (X:Cx) (e:Expr) (t:DTT):Prop:=PT X e (upT X.K t)
def DW (X:Cx) (e:Expr) (t:DTT):Prop:=PW X e (upT X.K t)
def DA (X:Cx) (es:List Expr) (t:DTA):Prop:=PA X es (upA X.K t)
def DF (X:Cx) (e:Expr) (t:DTF):Prop:=PE X e (upF X.K t)
def aF {X:Cx} {e:Expr} {t t':TE} (h:PE X e t) (m:∀ σ H Q,t' σ H Q->t σ H Q):PE X e t':=fun pins s σ H Q I q=>h pins s σ H Q I (m σ H Q q)
def gY {X:Cx} {e:Expr} {t t':TT} (h:PT X e t) (m:∀ σ H Q,t' σ H Q->t σ H Q):PT X e t':=fun pins s σ H Q I q=>h pins s σ H Q I (m σ H Q q)
def qO {X:Cx} {e:Expr} {t t':TT} (h:PW X e t) (m:∀ σ H Q,t' σ H Q->t σ H Q):PW X e t':=fun wh pins s σ H Q I q=>h wh pins s σ H Q I (m σ H Q q)
def qP {X:Cx} {e:List Expr} {t t':TA} (h:PA X e t) (m:∀ σ H Q,t' σ H Q->t σ H Q):PA X e t':=fun pos pins s σ H Q I q=>h pos pins s σ H Q I (m σ H Q q)
def bV {X:Cx} {e:Stmt} {t t':TS} (h:PS X e t) (m:∀ D σ H,t' D σ H->t D σ H):PS X e t':=fun pins s σ H D I q=>h pins s σ H D I (m D σ H q)
def lX {X:Cx} {e:List Stmt} {t t':TS} (h:PSs X e t) (m:∀ D σ H,t' D σ H->t D σ H):PSs X e t':=fun pins s σ H D I q=>h pins s σ H D I (m D σ H q)
section
variable {X:Cx} {a b e:Expr} {es:List Expr} {pos:Pos} {ta tb te:DTE} {tc tA tB:DTT} {t:DTA} {tf tg:DTF}
def bV1 (i:Nat):DTE:=fun δ h Q=>match δ[i]? with
 | some (some w)=>Q w h
 | _=>False
def dv (i:Nat) {x:Str} (hN:autoParam (X.N[i]?=some x) ZR) (hv:Vis X.env.scope x:=by first | exact Or.inl rfl | exact Or.inr (Or.inl rfl) | exact Or.inr (Or.inr rfl)) (hd:autoParam ((x==("__debug__":Str))=false) ZD)
  (hcd:autoParam ((x==("__classdict__":Str))=false) ZD):DE X (.Name x pos) (bV1 i):=aF (bR1 hN hv hd hcd) fun σ H Q h=>by
 obtain ⟨δ,h,A,μ,k,⟨R,E⟩,q,c⟩:=h;unfold bV1 at q;cases e1:δ[i]? with
 | none=>rw [e1] at q;exact q.elim
 | some o =>
  rw [e1] at q;cases o with
  | none=>exact q.elim
  | some w =>
   obtain ⟨v,e2,r⟩:=E.val i w e1;exact ⟨v,e2,c w h v H A μ q .refl R r⟩
def dC (x:PyData):DTE:=fun _ h Q=>Q (.d x) h
def gP {x:PyData} {v:V} (r:∀ A H,Rep X.K A H x v) (he:PE X e (tC v)):DE X e (dC x):=aF he fun σ H Q h=>by
 obtain ⟨δ,h,A,μ,k,⟨R,E⟩,q,c⟩:=h;exact c _ h v H A μ q .refl R (r A H)
def bV2 {i:Int} {j}:DE X (.Constant (.int i) j pos) (dC (.int i)):=gP (fun _ _=>by rw [Rep]) bR2
def cO8 {b:Bool} {j}:DE X (.Constant (.bool b) j pos) (dC (.bool b)):=gP (fun _ _=>by rw [Rep]) cM8
def bV3 {j}:DE X (.Constant .none j pos) (dC .none):=gP (fun _ _=>by rw [Rep]) bR3
def bV4 {x:Str} {j} (hx:PyData.strOk x=true:=by decide +kernel):DE X (.Constant (.str x) j pos) (dC (.str x)):=gP (fun _ _=>by rw [Rep];exact ⟨rfl,hx⟩) bR4
def aZ4 {x:Str} {v:V} {u:Value} {d:PyData} (hm:X.mg x=some u) (rv:RelV v u) (r:∀ A H,Rep X.K A H d v) (hg:autoParam (Gl X x) ZR) (hd:autoParam ((x==("__debug__":Str))=false) ZD):DE X (.Name x pos) (dC d) :=
 gP r (lD hg hm rv hd)
def bV5 (t:DTF):DTE:=fun δ h Q=>t δ h fun xs h1=>Q (.d (.list xs)) h1
def bV6 (t:DTF):DTE:=fun δ h Q=>t δ h fun xs h1=>Q (.c h1.length) (h1++[(Cell.l xs)])
def aK1 (h:DF X e tf):DE X e (bV5 tf):=aF h fun σ H Q q=>by
 obtain ⟨δ,h,A,μ,k,R,q,c⟩:=q;refine ⟨δ,h,A,μ,_,R,q,fun xs h' p H' A' μ' kk x hm hp R'=>?_⟩;obtain ⟨R1,r1⟩:=gO R'.1 R'.2;exact c _ h' _ H' _ μ' kk (iK R.1 hp x hm) R1 r1
def aK2 (h:DF X e tf):DE X e (bV6 tf):=aF h fun σ H Q q=>by
 obtain ⟨δ,h,A,μ,k,R,q,c⟩:=q;refine ⟨δ,h,A,μ,_,R,q,fun xs h' p H' A' μ' kk x hm hp R'=>?_⟩;have hl:μ'.length=h'.length:=by simpa using R'.1.len
 exact c _ _ _ H' A' (μ'++[p]) kk x R'.1 ⟨p,by rw [<- hl];simp,rfl⟩
def aK3:DTA:=fun _ h Q=>Q [] h
def cO9 (te:DTE) (t:DTA):DTA:=fun δ h Q=>te δ h fun w h1=>t δ h1 fun ws h2=>Q (w::ws) h2
theorem RepWs.ext {K:Frag} {A A' μ μ':List Addr} {H H':Hp} (x:Ext A A' μ μ' H H') (hs:∀ a∈μ,a∈A):∀ {ws:List W} {vs:List V},RepWs K A μ H ws vs->RepWs K A' μ' H' ws vs
 | [],_,h=>h
 | w::ws,_,h=>by
  obtain ⟨v,r,e,h1,h2⟩:=h;exact ⟨v,r,e,h1.ext x hs,RepWs.ext x hs h2⟩
def lY:DA X [] aK3:=qP lS fun σ H Q q=>by
 obtain ⟨δ,h,A,μ,k,R,q,c⟩:=q;exact c [] h [] H A μ q .refl R.1 rfl
def fR (ha:DE X e te) (hr:DA X es t) (hs:autoParam (starEach (e::es) X.env=(false,eval e X.env)::starEach es X.env) ZR):DA X (e::es) (cO9 te t):=qP (eT ha hr hs) fun σ H Q q=>by
 obtain ⟨δ,h,A,μ,k,R,q,c⟩:=q;refine ⟨δ,h,A,μ,_,R,q,fun w h1 v H1 A1 μ1 q1 x1 R1 r1=>?_⟩;refine ⟨δ,h1,A1,μ1,_,⟨R1,R.2.ext x1 R.1.sub⟩,q1,fun ws h2 vs H2 A2 μ2 q2 x2 R2 r2=>?_⟩;exact c _ h2 _ H2 A2 μ2 q2 (x1.trans x2) R2 ⟨v,vs,rfl,r1.ext x2 R1.sub,r2⟩
noncomputable def cZ:List W->Option (List PyData)
 | []=>some []
 | .d x::r=>(cZ r).map (x::·)
 | .c _::_=>none
 | .v _::_=>none
theorem gQ {K:Frag} {A μ:List Addr} {H:Hp}:∀ {ws:List W} {xs:List PyData} {vs:List V},cZ ws=some xs->RepWs K A μ H ws vs->Reps K A H xs vs
 | [],_,_,e,h=>by cases e;subst h;exact .nil
 | .c _::_,_,_,e,_=>by cases e
 | .v _::_,_,_,e,_=>by cases e
 | .d x::r,xs,_,e,h=>by
  obtain ⟨v,vs,rfl,h1,h2⟩:=h;unfold cZ at e;cases q:cZ r with
  | none=>rw [q] at e;cases e
  | some ys =>
   rw [q] at e;have e':x::ys=xs:=Option.some.inj e;subst e';exact .cons h1 (gQ q h2)
def dG2 (t:DTA):DTE:=fun δ h Q=>t δ h fun ws h1=>match cZ ws with
 | some xs=>xs.length<=sizeLine/\Q (.d (.tuple xs)) h1
 | none=>False
def dG3 (t:DTA):DTF:=fun δ h Q=>t δ h fun ws h1=>match cZ ws with
 | some xs=>xs.length<=sizeLine/\Q xs h1
 | none=>False
def bV7 {k} (h:DA X es t):DE X (.Tuple es k pos) (dG2 t):=aF (aI9 h) fun σ H Q q=>by
 obtain ⟨δ,h,A,μ,k,R,q,c⟩:=q;refine ⟨δ,h,A,μ,_,R,q,fun ws h1 vs H1 A1 μ1 q1 x1 R1 r1=>?_⟩;cases e:cZ ws with
 | none=>rw [e] at q1;exact q1.elim
 | some xs =>
  rw [e] at q1;have rr:=gQ e r1;refine ⟨by rw [rr.length];exact q1.1,fun p hp=>?_⟩;exact c _ h1 _ _ A1 μ1 q1.2 (x1.trans (bD hp)) (R1.fresh hp) (dX R1 hp rr)
def bV8 (h:DA X es t):DF X (.List es pos) (dG3 t):=aF (bU3 h) fun σ H Q q=>by
 obtain ⟨δ,h,A,μ,k,R,q,c⟩:=q;refine ⟨δ,h,A,μ,_,R,q,fun ws h1 vs H1 A1 μ1 q1 x1 R1 r1=>?_⟩;cases e:cZ ws with
 | none=>rw [e] at q1;exact q1.elim
 | some xs =>
  rw [e] at q1;have rr:=gQ e r1;refine ⟨by rw [rr.length];exact q1.1,fun p hp=>?_⟩;obtain ⟨ν,e1,_⟩:=x1.pre;exact c xs h1 p _ (p::A1) μ1 q1.2 (x1.trans (cC hp)) ⟨ν,e1⟩ (x1.back hp) (cY R1 hp rr)
abbrev D2:=W->W->aA->DK->Prop
noncomputable def upR (K:Frag) (r:D2):R2:=fun x y H Q=>∃ (u w:W) (h:aA) (A μ:List Addr) (k:DK),HeapRep K A μ h H/\RepW K A μ H u x/\RepW K A μ H w y/\r u w h k /\
 ∀ w h' v H' A' μ',k w h'->Ext A A' μ μ' H H'->HeapRep K A' μ' h' H'->RepW K A' μ' H' w v->Q v H'
def dOp (r:D2) (ta tb:DTE):DTE:=fun δ h Q=>ta δ h fun x h1=>tb δ h1 fun y h2=>r x y h2 Q
def sX {K:Frag} {r:D2} {σ:L2.St} {H:Hp} {Q:VK} (q:up K (dOp r ta tb) σ H Q):tOp (upR K r) (up K ta) (up K tb) σ H Q:=by
 obtain ⟨δ,h,A,μ,k,R,q,c⟩:=q;refine ⟨δ,h,A,μ,_,R,q,fun u h1 v H1 A1 μ1 q1 x1 R1 r1=>?_⟩;refine ⟨δ,h1,A1,μ1,_,⟨R1,R.2.ext x1 R.1.sub⟩,q1,fun w h2 v2 H2 A2 μ2 q2 x2 R2 r2=>?_⟩;exact ⟨u,w,h2,A2,μ2,k,R2,r1.ext x2 R1.sub,r2,q2,fun z h3 v3 H3 A3 μ3 q3 x3 R3 r3=>c z h3 v3 H3 A3 μ3 q3 ((x1.trans x2).trans x3) R3 r3⟩
def cP0 {op:Operator} {r:D2} (ho:OpR X (binaryOp op) (upR X.K r)) (ha:DE X a ta) (hb:DE X b tb):DE X (.BinOp a op b pos) (dOp r ta tb):=aF (aI3 ho ha hb) fun _ _ _ q=>sX q
def bV9 {op:CmpOp} {r:D2} (ho:OpR X (compareOp op) (upR X.K r)) (ha:DE X a ta) (hb:DE X b tb) (hm:behindInMarks op b=false:=by first | exact nobehind _ (by decide) (by decide) | rfl):DE X (.Compare a [op] [b] pos) (dOp r ta tb) :=
 aF (xL ho ha hb hm) fun _ _ _ q=>sX q
def dB (t:DTE):DTT:=fun δ h Q=>t δ h fun w h1=>match w with
 | .d (.bool b)=>Q b h1
 | _=>False
def lE {K:Frag} {σ:L2.St} {H:Hp} {Q:Bool->Hp->Prop} {t:DTE} (q:upT K (dB t) σ H Q):up K t σ H fun x H'=>∃ c,x=.bl c/\Q c H':=by
 obtain ⟨δ,h,A,μ,k,R,q,c⟩:=q;refine ⟨δ,h,A,μ,_,R,q,fun w h1 v H1 A1 μ1 q1 x1 R1 r1=>?_⟩;cases w with
 | c i=>exact q1.elim
 | v u=>exact q1.elim
 | d x =>
  cases x with
  | bool b =>
   have e:v=.bl b:=by
    have z:Rep K A1 H1 (.bool b) v:=r1;rw [Rep] at z;exact z
   exact ⟨b,e,c b h1 H1 A1 μ1 q1 x1 R1⟩
  | _=>exact q1.elim
def bW0 (h:DE X e te) (he:autoParam (∀ whole,isTrue e X.env whole=(do let v <- whole;standAt e.pos;holding [v] (truthy v))) ZI):DT X e (dB te):=gY (bR5 h he) fun _ _ _ q=>lE q
def bW1 {op:CmpOp} {r:D2} (ho:OpR X (compareOp op) (upR X.K r)) (ha:DE X a ta) (hb:DE X b tb) (hm:behindInMarks op b=false:=by first | exact nobehind _ (by decide) (by decide) | rfl):DT X (.Compare a [op] [b] pos) (dB (dOp r ta tb)) :=
 gY (xM ho ha hb hm) fun σ H Q q=>by
  obtain ⟨δ,h,A,μ,k,R,q1,c⟩:=lE q;exact sX ⟨δ,h,A,μ,k,R,q1,c⟩
def dG4 (t:DTT):DTT:=fun δ h Q=>t δ h fun b h1=>Q (!b) h1
def dG5 (t u:DTT):DTT:=fun δ h Q=>t δ h fun b h1=>if b=true then u δ h1 Q else Q false h1
def dOr (t u:DTT):DTT:=fun δ h Q=>t δ h fun b h1=>if b=true then Q true h1 else u δ h1 Q
def bW2 (h:DT X e tc):DT X (.UnaryOp .Not e pos) (dG4 tc):=gY (bR8 h) fun σ H Q q=>by
 obtain ⟨δ,h,A,μ,k,R,q,c⟩:=q;exact ⟨δ,h,A,μ,_,R,q,fun b h' H' A' μ' k'=>c (!b) h' H' A' μ' k'⟩
def DW.dt (h:DW X e tc):DT X e tc:=h _
def aZ5 (h:DT X a tc):DW X (.BoolOp .And [a] pos) tc:=aW7 h
def bW3 (h:DT X a tc):DW X (.BoolOp .Or [a] pos) tc:=bR6 h
def bW4 (ha:DT X a tA) (hb:DW X (.BoolOp .And (b::es) pos) tB):DW X (.BoolOp .And (a::b::es) pos) (dG5 tA tB):=qO (bR7 ha hb) fun σ H Q q=>by
 obtain ⟨δ,h,A,μ,k,R,q,c⟩:=q;refine ⟨δ,h,A,μ,_,R,q,fun b h1 H1 A1 μ1 q1 x1 R1=>?_⟩;cases b with
 | true =>
  rw [if_pos rfl] at q1;rw [if_pos rfl];exact ⟨δ,h1,A1,μ1,k,⟨R1,R.2.ext x1 R.1.sub⟩,q1,fun b h2 H2 A2 μ2 q2 x2 R2=>c b h2 H2 A2 μ2 q2 (x1.trans x2) R2⟩
 | false =>
  rw [if_neg Bool.false_ne_true] at q1;rw [if_neg Bool.false_ne_true];exact c false h1 H1 A1 μ1 q1 x1 R1
def cP1 (ha:DT X a tA) (hb:DW X (.BoolOp .Or (b::es) pos) tB):DW X (.BoolOp .Or (a::b::es) pos) (dOr tA tB):=qO (cM9 ha hb) fun σ H Q q=>by
 obtain ⟨δ,h,A,μ,k,R,q,c⟩:=q;refine ⟨δ,h,A,μ,_,R,q,fun b h1 H1 A1 μ1 q1 x1 R1=>?_⟩;cases b with
 | false =>
  rw [if_neg Bool.false_ne_true] at q1;rw [if_neg Bool.false_ne_true];exact ⟨δ,h1,A1,μ1,k,⟨R1,R.2.ext x1 R.1.sub⟩,q1,fun b h2 H2 A2 μ2 q2 x2 R2=>c b h2 H2 A2 μ2 q2 (x1.trans x2) R2⟩
 | true =>
  rw [if_pos rfl] at q1;rw [if_pos rfl];exact c true h1 H1 A1 μ1 q1 x1 R1
def cP2 (ta tb:DTE):DTE:=fun δ h Q=>ta δ h fun w h1=>match w with
 | .d (.bool b)=>if b=true then tb δ h1 Q else Q (.d (.bool false)) h1
 | _=>False
def dG6 (ta tb:DTE):DTE:=fun δ h Q=>ta δ h fun w h1=>match w with
 | .d (.bool b)=>if b=true then Q (.d (.bool true)) h1 else tb δ h1 Q
 | _=>False
def cP3 (ta:DTE):DTE:=fun δ h Q=>ta δ h fun w h1=>match w with
 | .d (.bool b)=>Q (.d (.bool (!b))) h1
 | _=>False
def dZ {K:Frag} {A μ:List Addr} {H:Hp} {b:Bool} {v:V} (r:RepW K A μ H (.d (.bool b)) v):v=.bl b:=by
 have z:Rep K A H (.bool b) v:=r;rw [Rep] at z;exact z
def bB {K:Frag} {A μ:List Addr} {H:Hp} {b:Bool}:RepW K A μ H (.d (.bool b)) (.bl b):=by
 show Rep K A H (.bool b) (.bl b);rw [Rep]
def bL {K:Frag} {A μ:List Addr} {H:Hp} {b:Int} {v:V} (r:RepW K A μ H (.d (.int b)) v):v=.int b:=by
 have z:Rep K A H (.int b) v:=r;rw [Rep] at z;exact z
def lZ {K:Frag} {A μ:List Addr} {H:Hp} {b:Int}:RepW K A μ H (.d (.int b)) (.int b):=by
 show Rep K A H (.int b) (.int b);rw [Rep]
def aK4 {op} (h:DE X a te):DE X (.BoolOp op [a] pos) te:=bR9 h
def bW5 (ha:DE X a ta) (hb:DE X (.BoolOp .And (b::es) pos) tb):DE X (.BoolOp .And (a::b::es) pos) (cP2 ta tb):=aF (bS0 ha hb) fun σ H Q q=>by
 obtain ⟨δ,h,A,μ,k,R,q,c⟩:=q;refine ⟨δ,h,A,μ,_,R,q,fun w h1 v H1 A1 μ1 q1 x1 R1 r1=>?_⟩;cases w with
 | c i=>exact q1.elim
 | v u=>exact q1.elim
 | d x =>
  cases x with
  | bool b =>
   refine ⟨b,dZ r1,?_⟩;cases b with
   | true=>exact ⟨δ,h1,A1,μ1,k,⟨R1,R.2.ext x1 R.1.sub⟩,q1,fun w h2 v H2 A2 μ2 q2 x2 R2 r2=>c w h2 v H2 A2 μ2 q2 (x1.trans x2) R2 r2⟩
   | false=>exact c _ h1 _ H1 A1 μ1 q1 x1 R1 bB
  | _=>exact q1.elim
def cP4 (ha:DE X a ta) (hb:DE X (.BoolOp .Or (b::es) pos) tb):DE X (.BoolOp .Or (a::b::es) pos) (dG6 ta tb):=aF (cN2 ha hb) fun σ H Q q=>by
 obtain ⟨δ,h,A,μ,k,R,q,c⟩:=q;refine ⟨δ,h,A,μ,_,R,q,fun w h1 v H1 A1 μ1 q1 x1 R1 r1=>?_⟩;cases w with
 | c i=>exact q1.elim
 | v u=>exact q1.elim
 | d x =>
  cases x with
  | bool b =>
   refine ⟨b,dZ r1,?_⟩;cases b with
   | false=>exact ⟨δ,h1,A1,μ1,k,⟨R1,R.2.ext x1 R.1.sub⟩,q1,fun w h2 v H2 A2 μ2 q2 x2 R2 r2=>c w h2 v H2 A2 μ2 q2 (x1.trans x2) R2 r2⟩
   | true=>exact c _ h1 _ H1 A1 μ1 q1 x1 R1 bB
  | _=>exact q1.elim
def bW6 (ha:DE X a ta):DE X (.UnaryOp .Not a pos) (cP3 ta):=aF (bS1 ha) fun σ H Q q=>by
 obtain ⟨δ,h,A,μ,k,R,q,c⟩:=q;refine ⟨δ,h,A,μ,_,R,q,fun w h1 v H1 A1 μ1 q1 x1 R1 r1=>?_⟩;cases w with
 | c i=>exact q1.elim
 | v u=>exact q1.elim
 | d x =>
  cases x with
  | bool b=>exact ⟨b,dZ r1,c _ h1 _ H1 A1 μ1 q1 x1 R1 bB⟩
  | _=>exact q1.elim
def dIf (t:DTT) (ta tb:DTE):DTE:=fun δ h Q=>t δ h fun b h1=>if b=true then ta δ h1 Q else tb δ h1 Q
def aK5 {c:Expr} (hc:DT X c tc) (ha:DE X a ta) (hb:DE X b tb):DE X (.IfExp c a b pos) (dIf tc ta tb):=aF (aH8 hc ha hb) fun σ H Q q=>by
 obtain ⟨δ,h,A,μ,k,R,q,c⟩:=q;refine ⟨δ,h,A,μ,_,R,q,fun b h1 H1 A1 μ1 q1 x1 R1=>?_⟩;cases b with
 | true=>exact ⟨δ,h1,A1,μ1,k,⟨R1,R.2.ext x1 R.1.sub⟩,q1,fun w h2 v H2 A2 μ2 q2 x2 R2 r2=>c w h2 v H2 A2 μ2 q2 (x1.trans x2) R2 r2⟩
 | false=>exact ⟨δ,h1,A1,μ1,k,⟨R1,R.2.ext x1 R.1.sub⟩,q1,fun w h2 v H2 A2 μ2 q2 x2 R2 r2=>c w h2 v H2 A2 μ2 q2 (x1.trans x2) R2 r2⟩
end
noncomputable def ref (h:aA):W->Option PyData
 | .d x=>some x
 | .c i=>match h[i]? with
  | some (.l xs)=>some (.list xs)
  | some (.k kvs)=>some (.dict kvs)
  | _=>none
 | .v _=>none
mutual
noncomputable def See (K:Frag) (H:Hp):PyData->V->Prop
 | .none,v=>v=.non
 | .bool b,v=>v=.bl b
 | .int i,v=>v=.int i
 | .str x,v=>v=.str x
 | .list xs,v=>∃ a vs,v=.ref a/\SqL K H a vs/\Sees K H xs vs
 | .tuple xs,v=>∃ a vs,v=.ref a/\SqT K H a vs/\Sees K H xs vs
 | .dict _,_=>True
noncomputable def Sees (K:Frag) (H:Hp):List PyData->List V->Prop
 | [],vs=>vs=[]
 | x::xs,vs=>∃ v r,vs=v::r/\See K H x v/\Sees K H xs r
end
mutual
theorem Rep.see {K:Frag} {A:List Addr} {H:Hp}:∀ {d:PyData} {v:V},Rep K A H d v->See K H d v
 | .none,_,h=>by rw [Rep] at h;rw [See];exact h
 | .bool _,_,h=>by rw [Rep] at h;rw [See];exact h
 | .int _,_,h=>by rw [Rep] at h;rw [See];exact h
 | .str _,_,h=>by rw [Rep] at h;rw [See];exact h.1
 | .list xs,_,h=>by
  rw [Rep] at h;rw [See];obtain ⟨a,vs,e,h1,h2⟩:=h;exact ⟨a,vs,e,h1.sq,Reps.sees h2⟩
 | .tuple xs,_,h=>by
  rw [Rep] at h;rw [See];obtain ⟨a,vs,e,h1,h2⟩:=h;exact ⟨a,vs,e,h1.sq,Reps.sees h2⟩
 | .dict _,_,_=>by rw [See];trivial
theorem Reps.sees {K:Frag} {A:List Addr} {H:Hp}:∀ {d:List PyData} {v:List V},Reps K A H d v->Sees K H d v
 | [],_,h=>by rw [Reps] at h;rw [Sees];exact h
 | x::xs,_,h=>by
  rw [Reps] at h;rw [Sees];obtain ⟨v,r,e,h1,h2⟩:=h;exact ⟨v,r,e,Rep.see h1,Reps.sees h2⟩
end
mutual
theorem See.reads {X:Cx} {pins:List (Addr×Obj)} {σ:L2.St} {H:Hp} {s:Shared} (I:Inv X pins σ H s):∀ {d:PyData} {v:V} {u:Value},See X.K H d v->d.canLay0=true->RelV v u->∃ as,Reads s.heap u d as
 | .none,_,_,h,_,r=>by rw [See] at h;subst h;cases r;exact ⟨_,Reads.none⟩
 | .bool _,_,_,h,_,r=>by rw [See] at h;subst h;cases r;exact ⟨_,Reads.bool _⟩
 | .int _,_,_,h,_,r=>by rw [See] at h;subst h;obtain ⟨t,rfl⟩:=r;exact ⟨_,Reads.int _ _⟩
 | .str _,_,_,h,_,r=>by rw [See] at h;subst h;obtain ⟨t,rfl⟩:=r;exact ⟨_,Reads.str _ _⟩
 | .list xs,_,_,h,c,r=>by
  rw [See] at h;obtain ⟨a,vs,rfl,h1,h2⟩:=h;cases r;obtain ⟨its,rv,⟨o,n,ho,hc,_,hd⟩,_⟩:=I.list h1;rw [PyData.canLay0] at c;obtain ⟨as,z⟩:=Sees.reads I h2 c rv;exact ⟨_,Reads.list ho hc hd (by simpa using z)⟩
 | .tuple xs,_,_,h,c,r=>by
  rw [See] at h;obtain ⟨a,vs,rfl,h1,h2⟩:=h;cases r;obtain ⟨its,rv,⟨o,ho,hc,n,hd⟩,_⟩:=I.tuple h1;rw [PyData.canLay0] at c;obtain ⟨as,z⟩:=Sees.reads I h2 c rv;exact ⟨_,Reads.tuple ho hc hd (by simpa using z)⟩
 | .dict _,_,_,_,c,_=>by rw [PyData.canLay0] at c;cases c
theorem Sees.reads {X:Cx} {pins:List (Addr×Obj)} {σ:L2.St} {H:Hp} {s:Shared} (I:Inv X pins σ H s):∀ {d:List PyData} {v:List V} {u:List Value},Sees X.K H d v->PyData.canLayAll0 d=true->Vals v u->∃ as,ReadsAll s.heap u d as
 | [],_,_,h,_,r=>by rw [Sees] at h;subst h;cases r;exact ⟨_,ReadsAll.nil⟩
 | x::xs,_,_,h,c,r=>by
  rw [Sees] at h;obtain ⟨v,rr,rfl,h1,h2⟩:=h;rw [PyData.canLayAll0,Bool.and_eq_true] at c;cases r with
  | cons r1 r2 =>
   obtain ⟨as,z1⟩:=See.reads I h1 c.1 r1;obtain ⟨bs,z2⟩:=Sees.reads I h2 c.2 r2;exact ⟨_,ReadsAll.cons z1 z2⟩
end
def aZ {K:Frag} {A μ:List Addr} {H:Hp} {h:aA} {w:W} {v:V} {d:PyData} (R:HeapRep K A μ h H) (r:RepW K A μ H w v) (e:ref h w=some d):See K H d v:=by
 cases w with
 | d x=>cases e;exact Rep.see r
 | v u=>cases e
 | c i =>
  obtain ⟨a,e1,rfl⟩:=r;dsimp only [DL.ref] at e;cases q:h[i]? with
  | none=>rw [q] at e;cases e
  | some cc =>
   cases cc with
   | t _ _ _=>rw [q] at e;cases e
   | o _ _=>rw [q] at e;cases e
   | r _=>rw [q] at e;cases e
   | l xs =>
    rw [q] at e;cases e;obtain ⟨vs,z1,z2⟩:=R.val i a xs e1 q;rw [See];exact ⟨a,vs,rfl,.inl (.inl z1),z2.sees⟩
   | k kvs =>
    rw [q] at e;cases e;rw [See];trivial
def cD {K:Frag} {A μ:List Addr} {H:Hp} {h:aA} {w:W} {v:V} {xs:List PyData} (R:HeapRep K A μ h H) (r:RepW K A μ H w v) (e:ref h w=some (.list xs)):∃ a vs,v=.ref a/\SqL K H a vs/\Reps K A H xs vs:=by
 cases w with
 | d x =>
  cases e;have z:Rep K A H (.list xs) v:=r;rw [Rep] at z;obtain ⟨a,vs,e,h1,h2⟩:=z;exact ⟨a,vs,e,h1.sq,h2⟩
 | v u=>cases e
 | c i =>
  obtain ⟨a,e1,rfl⟩:=r;dsimp only [DL.ref] at e;cases q:h[i]? with
  | none=>rw [q] at e;cases e
  | some cc =>
   cases cc with
   | t _ _ _=>rw [q] at e;cases e
   | o _ _=>rw [q] at e;cases e
   | r _=>rw [q] at e;cases e
   | l ys =>
    rw [q] at e;cases e;obtain ⟨vs,z1,z2⟩:=R.val i a xs e1 q;exact ⟨a,vs,rfl,.inl (.inl z1),z2⟩
   | k kvs=>rw [q] at e;cases e
def bE {K:Frag} {A μ:List Addr} {H:Hp} {h:aA} {w:W} {v:V} {xs:List PyData} (r:RepW K A μ H w v) (e:ref h w=some (.tuple xs)):∃ a vs,v=.ref a/\TupAt K A H a vs/\Reps K A H xs vs:=by
 cases w with
 | d x =>
  cases e;have z:Rep K A H (.tuple xs) v:=r;rw [Rep] at z;exact z
 | v u=>cases e
 | c i =>
  dsimp only [DL.ref] at e;cases q:h[i]? with
  | none=>rw [q] at e;cases e
  | some cc =>
   cases cc with
   | t _ _ _=>rw [q] at e;cases e
   | o _ _=>rw [q] at e;cases e
   | r _=>rw [q] at e;cases e
   | l ys=>rw [q] at e;cases e
   | k ys=>rw [q] at e;cases e
noncomputable def cP5:D2
 | .d (.int i),.d (.int j),h,Q=>Q (.d (.int (i+j))) h
 | .d (.tuple xs),.d (.tuple ys),h,Q=>xs.length+ys.length<=sizeLine/\Q (.d (.tuple (xs++ys))) h
 | _,_,_,_=>False
noncomputable def cP6:D2
 | .d (.int i),.d (.int j),h,Q=>Q (.d (.int (i - j))) h
 | _,_,_,_=>False
noncomputable def cP7:D2
 | .d (.int i),.d (.int j),h,Q=>CMul i j/\Q (.d (.int (i*j))) h
 | _,_,_,_=>False
noncomputable def cP8:D2
 | .d (.int i),.d (.int j),h,Q=>0 < j/\Q (.d (.int (i%j))) h
 | _,_,_,_=>False
noncomputable def cP9:D2
 | .d (.int i),.d (.int j),h,Q=>aX5 i j/\Q (.d (.int (i^j.toNat))) h
 | _,_,_,_=>False
noncomputable def oJ (p:Int->Int->Bool):D2
 | .d (.int i),.d (.int j),h,Q=>Q (.d (.bool (p i j))) h
 | _,_,_,_=>False
def dEq:D2:=fun x y h Q=>match ref h x,ref h y with
 | some a,some b=>SeqAt.shaped a=true/\SeqAt.shaped b=true/\Q (.d (.bool (PyData.eqv a b))) h
 | _,_=>False
def dNe:D2:=fun x y h Q=>match ref h x,ref h y with
 | some a,some b=>SeqAt.shaped a=true/\SeqAt.shaped b=true/\Q (.d (.bool (!PyData.eqv a b))) h
 | _,_=>False
section
variable {X:Cx}
def eJ {op:Value->Value->Sem Value} {f:Int->Int->PyData} {g:Int->Int->V} {C:Int->Int->Prop} {r:D2} (ho:OpR X op (rI C g)) (hf:∀ i j A H,Rep X.K A H (f i j) (g i j))
  (hr:∀ u w h k,r u w h k->∃ i j,u=.d (.int i)/\w=.d (.int j)/\C i j/\k (.d (f i j)) h):OpR X op (upR X.K r):=by
 intro pins s σ H x y v u Q I rx ry h;obtain ⟨a,b,h,A,μ,k,R,ra,rb,q,c⟩:=h;obtain ⟨i,j,rfl,rfl,hc,q⟩:=hr _ _ _ _ q;have ea:=bL ra;have eb:=bL rb;subst ea eb;exact ho pins s σ H _ _ v u Q I rx ry ⟨i,j,rfl,rfl,hc,c _ _ _ _ _ _ q .refl R (hf i j A H)⟩
def OpR.i0 {op:Value->Value->Sem Value} {g:Int->Int->V} (ho:OpR X op (rI0 g)):OpR X op (rI (fun _ _=>True) g):=fun pins s σ H x y v u Q I rx ry ⟨i,j,e1,e2,_,q⟩=>ho pins s σ H x y v u Q I rx ry ⟨i,j,e1,e2,q⟩
def iX {K:Frag} {A:List Addr} {H:Hp} {i:Int}:Rep K A H (.int i) (.int i):=by rw [Rep]
def aZ6 {K:Frag} {A:List Addr} {H:Hp} {i:Bool}:Rep K A H (.bool i) (.bl i):=by rw [Rep]
def aK6:OpR X (binaryOp .Add) (fun x y H Q=>∃ a b ys,x=.ref a/\y=.ref b/\SqT X.K H a []/\SqT X.K H b ys/\Q (.ref b) H):=by
 intro pins s σ H x y v u Q I rx ry h;obtain ⟨a,b,ys,rfl,rfl,ha,hb,q⟩:=h;cases rx;cases ry;obtain ⟨its,r1,p1,_⟩:=I.tuple ha;obtain ⟨its2,r2,p2,_⟩:=I.tuple hb;have e0:its=[]:=by cases r1;rfl
 subst e0;obtain ⟨⟨cls,dd,data,sl⟩,ho,hc,n,hd⟩:=id p1;obtain ⟨⟨cls2,dd2,data2,sl2⟩,ho2,hc2,n2,hd2⟩:=id p2;simp only at hc hd hc2 hd2;subst hc hd hc2 hd2;exact concat_meets ⟨_,ho,rfl⟩ ⟨_,ho2,rfl⟩ noFill_tuple_add seq_tuple_add PySem.F.slot_tuple_add PySem.F.entry_tuple_add (PySem.F.args_tuple_add_2 _ _) (tuple_addW0 a b _ _ n n2 dd dd2 sl sl2 rfl) ⟨ho,ho2,⟨.ref b,H,I,rfl,q⟩⟩
def aZ7:OpR X (binaryOp .Add) (upR X.K cP5):=by
 intro pins s σ H x y v u Q I rx ry h;obtain ⟨a,b,h,A,μ,k,R,ra,rb,q,c⟩:=h;unfold cP5 at q;split at q
 ·have ea:=bL ra;have eb:=bL rb;subst ea eb;exact bT2 pins s σ H _ _ v u Q I rx ry ⟨_,_,rfl,rfl,c _ _ _ _ _ _ q .refl R lZ⟩
 ·rename_i xs ys;obtain ⟨pa,va,rfl,ta,sa⟩:=bE (h:=h) ra rfl;obtain ⟨pb,vb,rfl,tb,sb⟩:=bE (h:=h) rb rfl;have la:=sa.length;have lb:=sb.length;have all:Reps X.K A H (xs++ys) (va++vb):=sb.append sa
  by_cases e1:va=[]
  ·subst e1;have ex:xs=[]:=List.eq_nil_of_length_eq_zero la.symm;subst ex;refine aK6 pins s σ H _ _ v u Q I rx ry ⟨pa,pb,vb,rfl,rfl,ta.sq,tb.sq,c _ _ _ _ _ _ q.2 .refl R rb⟩
  ·refine aY3 pins s σ H _ _ v u Q I rx ry ⟨pa,pb,va,vb,rfl,rfl,ta.sq,tb.sq,e1,by rw [la,lb];exact q.1,fun z=>?_,fun _ p hp=>?_⟩
   ·subst z;have ey:ys=[]:=List.eq_nil_of_length_eq_zero lb.symm;subst ey;have q2:=q.2;rw [List.append_nil] at q2;exact c _ _ _ _ _ _ q2 .refl R ra
   ·exact c _ _ _ _ _ _ q.2 (bD hp) (R.fresh hp) (dX R hp all)
 ·exact q.elim
def aZ8:OpR X (binaryOp .Sub) (upR X.K cP6):=eJ (f:=fun i j=>.int (i - j)) (OpR.i0 bT3) (fun _ _ _ _=>iX) fun u w h k q=>by
 unfold cP6 at q;split at q
 ·exact ⟨_,_,rfl,rfl,trivial,q⟩
 ·exact q.elim
def aZ9:OpR X (binaryOp .Mult) (upR X.K cP7):=eJ (f:=fun i j=>.int (i*j)) bT4 (fun _ _ _ _=>iX) fun u w h k q=>by
 unfold cP7 at q;split at q
 ·exact ⟨_,_,rfl,rfl,q.1,q.2⟩
 ·exact q.elim
def bA0:OpR X (binaryOp .Mod) (upR X.K cP8):=eJ (f:=fun i j=>.int (i%j)) bT5 (fun _ _ _ _=>iX) fun u w h k q=>by
 unfold cP8 at q;split at q
 ·exact ⟨_,_,rfl,rfl,q.1,q.2⟩
 ·exact q.elim
def bA1:OpR X (binaryOp .Pow) (upR X.K cP9):=eJ (f:=fun i j=>.int (i^j.toNat)) bT6 (fun _ _ _ _=>iX) fun u w h k q=>by
 unfold cP9 at q;split at q
 ·exact ⟨_,_,rfl,rfl,q.1,q.2⟩
 ·exact q.elim
def lH {p:Int->Int->Bool} (u w:W) (h:aA) (k:DK) (q:oJ p u w h k):∃ i j,u=.d (.int i)/\w=.d (.int j)/\True/\k (.d (.bool (p i j))) h:=by
 unfold oJ at q;split at q
 ·exact ⟨_,_,rfl,rfl,trivial,q⟩
 ·exact q.elim
abbrev dLt:=oJ fun i j=>decide (i < j)
abbrev dLe:=oJ fun i j=>decide (i<=j)
abbrev dGt:=oJ fun i j=>decide (j < i)
abbrev dGe:=oJ fun i j=>decide (j<=i)
def bW7:OpR X (compareOp .Lt) (upR X.K dLt):=eJ (f:=fun i j=>.bool (decide (i < j))) (OpR.i0 cO0) (fun _ _ _ _=>aZ6) lH
def bW8:OpR X (compareOp .LtE) (upR X.K dLe):=eJ (f:=fun i j=>.bool (decide (i<=j))) (OpR.i0 cO1) (fun _ _ _ _=>aZ6) lH
def bW9:OpR X (compareOp .Gt) (upR X.K dGt):=eJ (f:=fun i j=>.bool (decide (j < i))) (OpR.i0 cO2) (fun _ _ _ _=>aZ6) lH
def bX0:OpR X (compareOp .GtE) (upR X.K dGe):=eJ (f:=fun i j=>.bool (decide (j<=i))) (OpR.i0 cO3) (fun _ _ _ _=>aZ6) lH
def bX1 {n:Nat} (hr:Room n X.A):OpR X (compareOp .Eq) (upR X.K dEq):=by
 intro pins s σ H x y v u Q I rx ry h;obtain ⟨a,b,h,A,μ,k,R,ra,rb,q,c⟩:=h;unfold dEq at q;split at q
 ·rename_i da db ea eb;obtain ⟨as,z1⟩:=(aZ R ra ea).reads I (SeqAt.canLay_of_shaped q.1) rx;obtain ⟨bs,z2⟩:=(aZ R rb eb).reads I (SeqAt.canLay_of_shaped q.2.1) ry;exact eq_dataH z1 z2 q.1 q.2.1 hr.units ⟨.bl _,H,I,rfl,c _ _ _ _ _ _ q.2.2 .refl R bB⟩
 ·exact q.elim
def bX2 {n:Nat} (hr:Room n X.A):OpR X (compareOp .NotEq) (upR X.K dNe):=by
 intro pins s σ H x y v u Q I rx ry h;obtain ⟨a,b,h,A,μ,k,R,ra,rb,q,c⟩:=h;unfold dNe at q;split at q
 ·rename_i da db ea eb;obtain ⟨as,z1⟩:=(aZ R ra ea).reads I (SeqAt.canLay_of_shaped q.1) rx;obtain ⟨bs,z2⟩:=(aZ R rb eb).reads I (SeqAt.canLay_of_shaped q.2.1) ry;exact ne_dataH z1 z2 q.1 q.2.1 hr.units ⟨.bl _,H,I,rfl,c _ _ _ _ _ _ q.2.2 .refl R bB⟩
 ·exact q.elim
noncomputable def isSame:PyData->PyData->Option Bool
 | .none,.none=>some true
 | .bool a,.bool b=>some (a==b)
 | .none,.bool _=>some false
 | .bool _,.none=>some false
 | .int _,.none=>some false
 | .int _,.bool _=>some false
 | .str _,.none=>some false
 | .str _,.bool _=>some false
 | .list _,.none=>some false
 | .list _,.bool _=>some false
 | .tuple _,.none=>some false
 | .tuple _,.bool _=>some false
 | _,_=>none
noncomputable def dIs (neg:Bool):D2
 | .d a,.d b,h,Q=>match isSame a b with
  | some k=>Q (.d (.bool (if neg then !k else k))) h
  | none=>False
 | _,_,_,_=>False
def mB {K:Frag} {A:List Addr} {H:Hp} {a b:PyData} {x y:V} {v u:Value} {k:Bool} (ra:Rep K A H a x) (rb:Rep K A H b y) (rx:RelV x v) (ry:RelV y u) (e:isSame a b=some k):plainIs v u=true/\(v==u)=k:=by
 cases b with
 | none =>
  rw [Rep] at rb;subst rb;cases ry;cases a with
  | none=>rw [Rep] at ra;subst ra;cases rx;cases e;exact ⟨rfl,rfl⟩
  | bool c=>rw [Rep] at ra;subst ra;cases rx;cases e;exact ⟨rfl,rfl⟩
  | int c=>rw [Rep] at ra;subst ra;obtain ⟨t,rfl⟩:=rx;cases e;exact ⟨rfl,rfl⟩
  | str c=>rw [Rep] at ra;obtain ⟨ra,_⟩:=ra;subst ra;obtain ⟨t,rfl⟩:=rx;cases e;exact ⟨rfl,rfl⟩
  | list c=>rw [Rep] at ra;obtain ⟨p,vs,rfl,_⟩:=ra;cases rx;cases e;exact ⟨rfl,rfl⟩
  | tuple c=>rw [Rep] at ra;obtain ⟨p,vs,rfl,_⟩:=ra;cases rx;cases e;exact ⟨rfl,rfl⟩
  | dict c=>cases e
 | bool b =>
  rw [Rep] at rb;subst rb;cases ry;cases a with
  | none=>rw [Rep] at ra;subst ra;cases rx;cases e;exact ⟨rfl,rfl⟩
  | bool c=>rw [Rep] at ra;subst ra;cases rx;cases e;cases b<;>cases c<;>exact ⟨rfl,rfl⟩
  | int c=>rw [Rep] at ra;subst ra;obtain ⟨t,rfl⟩:=rx;cases e;exact ⟨rfl,rfl⟩
  | str c=>rw [Rep] at ra;obtain ⟨ra,_⟩:=ra;subst ra;obtain ⟨t,rfl⟩:=rx;cases e;exact ⟨rfl,rfl⟩
  | list c=>rw [Rep] at ra;obtain ⟨p,vs,rfl,_⟩:=ra;cases rx;cases e;exact ⟨rfl,rfl⟩
  | tuple c=>rw [Rep] at ra;obtain ⟨p,vs,rfl,_⟩:=ra;cases rx;cases e;exact ⟨rfl,rfl⟩
  | dict c=>cases e
 | _=>cases a<;>cases e
def bX3:OpR X (compareOp .Is) (upR X.K (dIs false)):=by
 intro pins s σ H x y v u Q I rx ry h;obtain ⟨a,b,h,A,μ,k,R,ra,rb,q,c⟩:=h;unfold dIs at q;split at q
 ·split at q
  ·rename_i e;obtain ⟨h1,h2⟩:=mB ra rb rx ry e;exact wpAny_is_plain h1 ⟨.bl _,H,I,by rw [h2];rfl,c _ _ _ _ _ _ q .refl R bB⟩
  ·exact q.elim
 ·exact q.elim
def aA3:OpR X (compareOp .IsNot) (upR X.K (dIs true)):=by
 intro pins s σ H x y v u Q I rx ry h;obtain ⟨a,b,h,A,μ,k,R,ra,rb,q,c⟩:=h;unfold dIs at q;split at q
 ·split at q
  ·rename_i e;obtain ⟨h1,h2⟩:=mB ra rb rx ry e;exact wpAny_isNot_plain h1 ⟨.bl _,H,I,by rw [h2];rfl,c _ _ _ _ _ _ q .refl R bB⟩
  ·exact q.elim
 ·exact q.elim
def dIx:D2:=fun x y h Q=>match ref h x,y with
 | some (.list xs),.d (.int i)=>match atI xs i with
  | some v=>Q (.d v) h
  | none=>False
 | some (.tuple xs),.d (.int i)=>match atI xs i with
  | some v=>Q (.d v) h
  | none=>False
 | _,_=>False
def sY {K:Frag} {A:List Addr} {H:Hp} {xs:List PyData} {vs:List V} {i:Int} {x:PyData} (r:Reps K A H xs vs) (e:atI xs i=some x):∃ v,atI vs i=some v/\Rep K A H x v:=by
 unfold atI at e ⊢;rw [r.length];cases q:ixN xs.length i with
 | none=>rw [q] at e;cases e
 | some j =>
  rw [q] at e;obtain ⟨v,e1,e2⟩:=r.get (i:=j) e;exact ⟨v,e1,e2⟩
def dG7:IxR X (upR X.K dIx):=by
 intro value slice pins s σ H x y v u Q I rx ry h hs;obtain ⟨a,b,h,A,μ,k,R,ra,rb,q,c⟩:=h;unfold dIx at q;split at q
 ·rename_i xs i ea;obtain ⟨p,vs,rfl,sq,rr⟩:=cD R ra ea;have eb:=bL rb;subst eb;split at q
  ·rename_i z ez;obtain ⟨z',e1,e2⟩:=sY rr ez;exact xQ value slice pins s σ H _ _ v u Q I rx ry ⟨p,vs,i,z',rfl,rfl,sq,e1,c _ _ _ _ _ _ q .refl R e2⟩ hs
  ·exact q.elim
 ·rename_i xs i ea;obtain ⟨p,vs,rfl,sq,rr⟩:=bE ra ea;have eb:=bL rb;subst eb;split at q
  ·rename_i z ez;obtain ⟨z',e1,e2⟩:=sY rr ez;exact bU5 value slice pins s σ H _ _ v u Q I rx ry ⟨p,vs,i,z',rfl,rfl,sq.sq,e1,c _ _ _ _ _ _ q .refl R e2⟩ hs
  ·exact q.elim
 ·exact q.elim
abbrev DTO:=DSt->aA->(Option Int->aA->Prop)->Prop
noncomputable def upO (K:Frag) (t:DTO):TO:=fun σ H Q=>∃ (δ:DSt) (h:aA) (A μ:List Addr) (k:Option Int->aA->Prop),Ab K A μ δ h σ H/\t δ h k /\
 ∀ b h' H' A' μ',k b h'->Ext A A' μ μ' H H'->HeapRep K A' μ' h' H'->Q b H'
def DO (X:Cx) (e:Option Expr) (t:DTO):Prop:=PO X e (upO X.K t)
def qQ {X:Cx} {e:Option Expr} {t t':TO} (h:PO X e t) (m:∀ σ H Q,t' σ H Q->t σ H Q):PO X e t':=fun pins s σ H Q I q=>h pins s σ H Q I (m σ H Q q)
def bA2:DTO:=fun _ h Q=>Q none h
def cQ0 (t:DTE):DTO:=fun δ h Q=>t δ h fun w h1=>match w with
 | .d (.int i)=>Q (some i) h1
 | _=>False
def bA3:DO X none bA2:=qQ aY1 fun σ H Q q=>by
 obtain ⟨δ,h,A,μ,k,R,q,c⟩:=q;exact c none h H A μ q .refl R.1
def bA4 {e:Expr} {te:DTE} (he:DE X e te):DO X (some e) (cQ0 te):=qQ (aY2 he) fun σ H Q q=>by
 obtain ⟨δ,h,A,μ,k,R,q,c⟩:=q;refine ⟨δ,h,A,μ,_,R,q,fun w h1 v H1 A1 μ1 q1 x1 R1 r1=>?_⟩;cases w with
 | c i=>exact q1.elim
 | v u=>exact q1.elim
 | d x =>
  cases x with
  | int i=>exact ⟨i,bL r1,c _ h1 H1 A1 μ1 q1 x1 R1⟩
  | _=>exact q1.elim
noncomputable def cut (xs:List PyData) (lo hi:Option Int):List PyData:=(xs.drop (HT.sIx xs.length 0 lo)).take (HT.sIx xs.length xs.length hi - HT.sIx xs.length 0 lo)
noncomputable def cQ1 (te:DTE) (tl th:DTO) (r:W->Option Int->Option Int->aA->Prop):DSt->aA->Prop:=fun δ h=>te δ h fun x h1=>tl δ h1 fun lo h2=>th δ h2 fun hi h3=>r x lo hi h3
def dG8 (te:DTE) (tl th:DTO):DTE:=fun δ h Q=>cQ1 te tl th (fun x lo hi h3=>match x with
 | .d (.tuple xs)=>Q (.d (.tuple (cut xs lo hi))) h3
 | _=>False) δ h
def dG9 (te:DTE) (tl th:DTO):DTF:=fun δ h Q=>cQ1 te tl th (fun x lo hi h3=>match ref h3 x with
 | some (.list xs)=>Q (cut xs lo hi) h3
 | _=>False) δ h
def sZ {K:Frag} {A:List Addr} {H:Hp} {xs:List PyData} {vs:List V} (r:Reps K A H xs vs) (lo hi:Option Int):Reps K A H (cut xs lo hi) (sO vs lo hi):=by
 unfold cut sO;rw [r.length];exact (r.drop _).take _
def aA4 {prog:Program} {w:World} {A:Around} {E:Value->Shared->Prop} {s:Shared} {t sl:Addr} {items:Array Value} {vl vu:Value} {lo hi:Option Int} {Q:Value->Shared->Prop} (ht:IsTup s.heap t items) (hs:s.heap.IsSliceOf sl vl vu .none) (pl:IsPart vl lo) (pu:IsPart vu hi)
  (hw:HT.sIx items.size 0 lo=0/\HT.sIx items.size items.size hi=items.size) (h:Q (.ref t) s):wpAny (model prog w) A (getItem (.ref t) (.ref sl)) Q E s:=by
 obtain ⟨os,hos,hcs,hds⟩:=id hs;have hTs:s.TypeIs (.ref sl) "slice":=⟨os,hos,hcs⟩;unfold getItem;try with_reducible refine wpAny_holding ?_
 first | refine wpAny_bind (wpAny_pure ?_) | skip
 refine wpAny_bind (wpAny_sequenceKey ht.typeIs (by decide) ?_);refine wpAny_bind (wpAny_callSpecial?_slot (name:=Str.ofString "__getitem__") ht.typeIs PyProof.Rows.slot_tuple_getitem
  (wpAny_call_entry PyProof.Rows.slot_tuple_getitem ht.typeIs entry_tuple_getitem ?_ (args_tuple_getitem _ _)))
 show wpAny _ _ (Builtin.Tuple.tupleItemsOf (.ref t) >>= _) _ _ s;refine wpAny_bind (tupleItemsOf_ ht (wpAny_bind (wpAny_typeOf hTs ?_)));rw [if_pos (by decide)];refine wpAny_bind (HT.sliceApplied_gen hs pl pu ?_);have hy:(((HT.sIx items.size 0 lo:Nat):Int)==0&&(1:Int)==1&&(HT.sIx items.size items.size hi - HT.sIx items.size 0 lo)==items.size)=true:=by
  rw [hw.1,hw.2];simp
 show wpAny _ _ (if (((HT.sIx items.size 0 lo:Nat):Int)==0&&(1:Int)==1&&(HT.sIx items.size items.size hi - HT.sIx items.size 0 lo)==items.size)=true then _ else _) _ _ s;rw [if_pos hy];refine wpAny_bind (wpAny_bind (wpAny_typeOf ht.typeIs (wpAny_pure ?_)));rw [if_pos (by decide)];exact wpAny_bind (wpAny_rule (wpAny_pure ⟨_,rfl,wpAny_pure h⟩))
noncomputable def dH0 (K:Frag):V->Option Int->Option Int->Hp->VK->Prop:=fun x lo hi H Q=>∃ a xs,x=.ref a/\SqT K H a xs/\(HT.sIx xs.length 0 lo=0/\HT.sIx xs.length xs.length hi=xs.length)/\Q (.ref a) H
def bA5:SlR X (dH0 X.K):=by
 intro pins s σ H x v vl vu lo hi sl Q I rx hs pl pu h;obtain ⟨a,xs,rfl,hx,hw,q⟩:=h;cases rx;obtain ⟨its,r,ht,hz⟩:=I.tuple hx;have hlen:its.toArray.size=xs.length:=by rw [List.size_toArray];exact r.length.symm
 exact ⟨"tuple",_,PyProof.Rows.slot_tuple_getitem.lookup,ht.typeIs,aA4 ht hs pl pu (by rw [hlen];exact hw) ⟨.ref a,H,I,rfl,q⟩⟩
def aA5 {xs:List PyData} {lo hi:Option Int} (h:HT.sIx xs.length 0 lo=0/\HT.sIx xs.length xs.length hi=xs.length):cut xs lo hi=xs:=by
 unfold cut;rw [h.1,h.2];simp
def bX4 {e:Expr} {te:DTE} {lo hi:Option Expr} {tl th:DTO} {p2 pos:Pos} (he:DE X e te) (hl:DO X lo tl) (hh:DO X hi th):DE X (.Subscript e (.Slice lo hi none p2) pos) (dG8 te tl th):=aF (sN (sl_tup.or bA5) he hl hh) fun σ H Q q=>by
 obtain ⟨δ,h,A,μ,k,R,q,c⟩:=q;refine ⟨δ,h,A,μ,_,R,q,fun w h1 v H1 A1 μ1 q1 x1 R1 r1=>?_⟩;refine ⟨δ,h1,A1,μ1,_,⟨R1,R.2.ext x1 R.1.sub⟩,q1,fun l h2 H2 A2 μ2 q2 x2 R2=>?_⟩;refine ⟨δ,h2,A2,μ2,_,⟨R2,R.2.ext (x1.trans x2) R.1.sub⟩,q2,fun u h3 H3 A3 μ3 q3 x3 R3=>?_⟩;have r3:=r1.ext (x2.trans x3) R1.sub;dsimp only at q3 ⊢;split at q3
 ·rename_i xs;obtain ⟨p,vs,rfl,sq,rr⟩:=bE (h:=h3) r3 rfl
  by_cases hw:HT.sIx xs.length 0 l=0/\HT.sIx xs.length xs.length u=xs.length
  ·rw [aA5 hw] at q3;exact .inr ⟨p,vs,rfl,sq.sq,by rw [rr.length];exact hw,c _ _ _ _ _ _ q3 ((x1.trans x2).trans x3) R3 r3⟩
  ·refine .inl ⟨p,vs,rfl,sq.sq,by rw [rr.length];exact hw,fun p hp=>?_⟩;exact c _ _ _ _ _ _ q3 (((x1.trans x2).trans x3).trans (bD hp)) (R3.fresh hp) (dX R3 hp (sZ rr l u))
 ·exact q3.elim
def aK7 {e:Expr} {te:DTE} {lo hi:Option Expr} {tl th:DTO} {p2 pos:Pos} (he:DE X e te) (hl:DO X lo tl) (hh:DO X hi th):DF X (.Subscript e (.Slice lo hi none p2) pos) (dG9 te tl th):=aF (sN aY4 he hl hh) fun σ H Q q=>by
 obtain ⟨δ,h,A,μ,k,R,q,c⟩:=q;refine ⟨δ,h,A,μ,_,R,q,fun w h1 v H1 A1 μ1 q1 x1 R1 r1=>?_⟩;refine ⟨δ,h1,A1,μ1,_,⟨R1,R.2.ext x1 R.1.sub⟩,q1,fun l h2 H2 A2 μ2 q2 x2 R2=>?_⟩;refine ⟨δ,h2,A2,μ2,_,⟨R2,R.2.ext (x1.trans x2) R.1.sub⟩,q2,fun u h3 H3 A3 μ3 q3 x3 R3=>?_⟩;have r3:=r1.ext (x2.trans x3) R1.sub;dsimp only at q3 ⊢;split at q3
 ·rename_i xs ex;obtain ⟨p,vs,rfl,sq,rr⟩:=cD R3 r3 ex;refine ⟨p,vs,rfl,sq,fun p hp=>?_⟩;have x4:=(x1.trans x2).trans x3;obtain ⟨ν,e1,_⟩:=x4.pre;exact c _ _ _ _ _ _ q3 (x4.trans (cC hp)) ⟨ν,e1⟩ (x4.back hp) (cY R3 hp (sZ rr l u))
 ·exact q3.elim
end
abbrev DC:=List W->aA->DK->Prop
noncomputable def upC (K:Frag) (r:DC):List V->Hp->VK->Prop:=fun vs H Q=>∃ (ws:List W) (h:aA) (A μ:List Addr) (k:DK),HeapRep K A μ h H/\RepWs K A μ H ws vs/\r ws h k /\
 ∀ w h' v H' A' μ',k w h'->Ext A A' μ μ' H H'->HeapRep K A' μ' h' H'->RepW K A' μ' H' w v->Q v H'
def dCB (r:DC) (t:DTA):DTE:=fun δ h Q=>t δ h fun ws h1=>r ws h1 Q
def bL3 {K:Frag} {r:DC} {t:DTA} {σ:L2.St} {H:Hp} {Q:VK} (q:up K (dCB r t) σ H Q):tCB (upC K r) (upA K t) σ H Q:=by
 obtain ⟨δ,h,A,μ,k,R,q,c⟩:=q;refine ⟨δ,h,A,μ,_,R,q,fun ws h1 vs H1 A1 μ1 q1 x1 R1 r1=>?_⟩;exact ⟨ws,h1,A1,μ1,k,R1,r1,q1,fun w h2 v H2 A2 μ2 q2 x2 R2 r2=>c w h2 v H2 A2 μ2 q2 (x1.trans x2) R2 r2⟩
def dA {K:Frag} {A μ:List Addr} {H:Hp} {w:W} {vs:List V} (r:RepWs K A μ H [w] vs):∃ v,vs=[v]/\RepW K A μ H w v:=by
 obtain ⟨v,r,rfl,h1,h2⟩:=r;have e:r=[]:=h2;subst e;exact ⟨v,rfl,h1⟩
section
variable {X:Cx} {x:Str} {p pos:Pos} {e:Expr} {es:List Expr} {t:DTA} {id T:String} {r:DC}
def aK8 (hc:cQ X (.builtin id) (upC X.K r)) (hm:X.mg x=none) (ha:DA X (e::es) t) (hv:autoParam (bootBuiltins x=some (.builtin id)) ZR) (hg:autoParam (Gl X x) ZR) (hn:autoParam (x≠"__name__") ZD) (hdb:autoParam ((x==("__debug__":Str))=false) ZD)
  (he:autoParam (starEach (e::es) X.env=(false,eval e X.env)::starEach es X.env) ZR) (hpl:autoParam ((backTo pos (starEach es X.env)).any (·.1)=false) ZR):DE X (.Call (.Name x p) (e::es) [] pos) (dCB r t) :=
 aF (lT hc hg hm hv ha hn hdb he hpl) fun _ _ _ q=>bL3 q
def aA6 (hc:cQ X (.type T) (upC X.K r)) (hm:X.mg x=none) (ha:DA X (e::es) t) (hv:autoParam (bootBuiltins x=some (.type T)) ZR) (hg:autoParam (Gl X x) ZR) (hn:autoParam (x≠"__name__") ZD) (hdb:autoParam ((x==("__debug__":Str))=false) ZD)
  (he:autoParam (starEach (e::es) X.env=(false,eval e X.env)::starEach es X.env) ZR) (hpl:autoParam ((backTo pos (starEach es X.env)).any (·.1)=false) ZR):DE X (.Call (.Name x p) (e::es) [] pos) (dCB r t) :=
 aF (oC hc hg hm hv ha hn hdb he hpl) fun _ _ _ q=>bL3 q
noncomputable def bX5:DC
 | [w],h,Q=>match ref h w with
  | some (.list xs)=>Q (.d (.int xs.length)) h
  | some (.tuple xs)=>Q (.d (.int xs.length)) h
  | _=>False
 | _,_,_=>False
def aA7:cQ X (.builtin "len") (upC X.K bX5):=by
 intro pins s σ H xs us Q I r h;obtain ⟨ws,h,A,μ,k,R,rw',q,c⟩:=h;unfold bX5 at q;split at q
 ·rename_i w h0 k0;obtain ⟨v,rfl,rv⟩:=dA rw';split at q
  ·rename_i ys ey;obtain ⟨p,vs,rfl,sq,rr⟩:=cD R rv ey;exact iU pins s σ H _ us Q I r ⟨p,vs,rfl,.inl sq,by rw [rr.length];exact c _ _ _ _ _ _ q .refl R lZ⟩
  ·rename_i ys ey;obtain ⟨p,vs,rfl,sq,rr⟩:=bE rv ey;exact iU pins s σ H _ us Q I r ⟨p,vs,rfl,.inr sq.sq,by rw [rr.length];exact c _ _ _ _ _ _ q .refl R lZ⟩
  ·exact q.elim
 ·exact q.elim
noncomputable def vW:DC
 | [w],h,Q=>match ref h w with
  | some (.list xs)=>Q (.d (.tuple xs)) h
  | some (.tuple xs)=>Q (.d (.tuple xs)) h
  | _=>False
 | _,_,_=>False
def tD:cQ X (.type "tuple") (upC X.K vW):=by
 intro pins s σ H xs us Q I r h;obtain ⟨ws,h,A,μ,k,R,rw',q,c⟩:=h;unfold vW at q;split at q
 ·rename_i w h0 k0;obtain ⟨v,rfl,rv⟩:=dA rw';split at q
  ·rename_i ys ey;obtain ⟨p,vs,rfl,sq,rr⟩:=cD R rv ey;exact iC pins s σ H _ us Q I r ⟨p,vs,rfl,.inl ⟨sq,fun l hl=>c _ _ _ _ _ _ q (bD hl) (R.fresh hl) (dX R hl rr)⟩⟩
  ·rename_i ys ey;obtain ⟨p,vs,rfl,sq,rr⟩:=bE rv ey;refine iC pins s σ H _ us Q I r ⟨p,vs,rfl,.inr ⟨sq.sq,c _ _ _ _ _ _ q .refl R ?_⟩⟩;show Rep X.K A H (.tuple ys) (.ref p);rw [Rep];exact ⟨p,vs,rfl,sq,rr⟩
  ·exact q.elim
 ·exact q.elim
def bX6 (t:DTA):DTF:=fun δ h Q=>t δ h fun ws h1=>match ws with
 | [w]=>(match ref h1 w with
  | some (.list xs)=>Q xs h1
  | some (.tuple xs)=>Q xs h1
  | _=>False)
 | _=>False
def bA6 (hm:X.mg "list"=none) (ha:DA X (e::es) t) (hg:autoParam (Gl X "list") ZR)
  (he:autoParam (starEach (e::es) X.env=(false,eval e X.env)::starEach es X.env) ZR) (hpl:autoParam ((backTo pos (starEach es X.env)).any (·.1)=false) ZR):DF X (.Call (.Name "list" p) (e::es) [] pos) (bX6 t) :=
 aF (oC qK hg hm rfl ha (by decide) (by decide) he hpl) fun σ H Q q=>by
  obtain ⟨δ,h,A,μ,k,R,q,c⟩:=q;refine ⟨δ,h,A,μ,_,R,q,fun ws h1 vs H1 A1 μ1 q1 x1 R1 r1=>?_⟩;obtain ⟨ν,e1,_⟩:=x1.pre;split at q1
  ·rename_i w;obtain ⟨v,rfl,rv⟩:=dA r1;split at q1
   ·rename_i ys ey;obtain ⟨p,vs,rfl,sq,rr⟩:=cD R1 rv ey;exact ⟨p,vs,rfl,.inl sq,fun l hl=>c _ _ _ _ _ _ q1 (x1.trans (cC hl)) ⟨ν,e1⟩ (x1.back hl) (cY R1 hl rr)⟩
   ·rename_i ys ey;obtain ⟨p,vs,rfl,sq,rr⟩:=bE rv ey;exact ⟨p,vs,rfl,.inr sq.sq,fun l hl=>c _ _ _ _ _ _ q1 (x1.trans (cC hl)) ⟨ν,e1⟩ (x1.back hl) (cY R1 hl rr)⟩
   ·exact q1.elim
  ·exact q1.elim
end
abbrev DSp:=List W->aA->(PyData->aA->Prop)->Prop
noncomputable def mC (K:Frag) (d:DSp):Sp:=fun vs H Q _=>∃ (ws:List W) (h:aA) (A μ:List Addr) (k:PyData->aA->Prop),HeapRep K A μ h H/\RepWs K A μ H ws vs/\d ws h k /\
 ∀ z h' v H' A',k z h'->Ext A A' μ μ H H'->HeapRep K A' μ h' H'->Rep K A' H' z v->Q v H'
def bL4 (d:DSp) (t:DTA):DTE:=fun δ h Q=>t δ h fun ws h1=>d ws h1 fun z h2=>Q (.d z) h2
def bA7 {K:Frag} {d:DSp} {t:DTA} {σ:L2.St} {H:Hp} {Q:VK} (q:up K (bL4 d t) σ H Q):aJ0 (mC K d) [] E0 (upA K t) σ H Q:=by
 obtain ⟨δ,h,A,μ,k,R,q,c⟩:=q;refine ⟨δ,h,A,μ,_,R,q,fun ws h1 vs H1 A1 μ1 q1 x1 R1 r1=>?_⟩;show mC K d (vs++[]) H1 Q E0;rw [List.append_nil];exact ⟨ws,h1,A1,μ1,_,R1,r1,q1,fun z h2 v H2 A2 q2 x2 R2 r2=>c _ h2 v H2 A2 μ1 q2 (x1.trans x2) R2 r2⟩
structure DFn (P:Program) (w:World) (K:Frag) (mg:Str->Option Value) (base:Heap) (k:Nat) (x:Str) (d:DSp):Prop where
 ok:∃ (f:Addr) (fd:FuncData) (ps:List Str),FnOk P w K mg base CX0 k f fd ps (mC K d)/\mg x=some (.ref f)/\PySem.W.keepIn K (.ref f)=true/\Binds K fd ps []
section
variable {X:Cx} {x:Str} {p pos:Pos} {e:Expr} {es:List Expr} {t:DTA} {d:DSp} {k:Nat}
def bA8 (F:DFn X.prog X.w X.K X.mg X.base k x d) (hr:Room k X.A) (ha:DA X (e::es) t) (hg:autoParam (Gl X x) ZR) (hdb:autoParam ((x==("__debug__":Str))=false) ZD)
  (he:autoParam (starEach (e::es) X.env=(false,eval e X.env)::starEach es X.env) ZR) (hpl:autoParam ((backTo pos (starEach es X.env)).any (·.1)=false) ZR):DE X (.Call (.Name x p) (e::es) [] pos) (bL4 d t):=by
 obtain ⟨f,fd,ps,h1,h2,h3,h4⟩:=F.ok;exact aF (xN h1 hr hg h2 h3 h4 .nil xR ha hdb he hpl) fun _ _ _ q=>bA7 q
end
structure DEnds where
 nx:DSt->aA->Prop
 rt:DK
 bk:DSt->aA->Prop:=fun _ _=>False
 ct:DSt->aA->Prop:=fun _ _=>False
abbrev DTS:=DEnds->DSt->aA->Prop
structure Lnk (K:Frag) (A μ:List Addr) (H:Hp) (E:DEnds) (D:Ends):Prop where
 nx:∀ δ' h' σ' H' A' μ',E.nx δ' h'->Ext A A' μ μ' H H'->Ab K A' μ' δ' h' σ' H'->D.nx σ' H'
 bk:∀ δ' h' σ' H' A' μ',E.bk δ' h'->Ext A A' μ μ' H H'->Ab K A' μ' δ' h' σ' H'->D.bk σ' H'
 ct:∀ δ' h' σ' H' A' μ',E.ct δ' h'->Ext A A' μ μ' H H'->Ab K A' μ' δ' h' σ' H'->D.ct σ' H'
 rt:∀ w h' v H' A' μ',E.rt w h'->Ext A A' μ μ' H H'->HeapRep K A' μ' h' H'->RepW K A' μ' H' w v->D.rt v H'
def Lnk.ext {K:Frag} {A A1 μ μ1:List Addr} {H H1:Hp} {E:DEnds} {D:Ends} (L:Lnk K A μ H E D) (x:Ext A A1 μ μ1 H H1):Lnk K A1 μ1 H1 E D :=
 ⟨fun δ h σ H' A' μ' q y=>L.nx δ h σ H' A' μ' q (x.trans y),fun δ h σ H' A' μ' q y=>L.bk δ h σ H' A' μ' q (x.trans y),fun δ h σ H' A' μ' q y=>L.ct δ h σ H' A' μ' q (x.trans y),fun w h v H' A' μ' q y=>L.rt w h v H' A' μ' q (x.trans y)⟩
def upS (K:Frag) (t:DTS):TS:=fun D σ H=>∃ (δ:DSt) (h:aA) (A μ:List Addr) (E:DEnds),Ab K A μ δ h σ H/\t E δ h/\Lnk K A μ H E D
def DS (X:Cx) (st:Stmt) (t:DTS):Prop:=PS X st (upS X.K t)
def DSs (X:Cx) (st:List Stmt) (t:DTS):Prop:=PSs X st (upS X.K t)
def bL5:DTS:=fun E δ h=>E.nx δ h
def dH1 (t u:DTS):DTS:=fun E δ h=>t { E with nx:=u E } δ h
def dH2 (te:DTE):DTS:=fun E δ h=>te δ h E.rt
def cQ2 (te:DTE):DTS:=fun E δ h=>te δ h fun _ h1=>E.nx δ h1
def dH3 (c:DTT) (t u:DTS):DTS:=fun E δ h=>c δ h fun b h1=>if b=true then t E δ h1 else u E δ h1
abbrev DTG:=W->DSt->aA->(DSt->aA->Prop)->Prop
abbrev tE:=List PyData->DSt->aA->(DSt->aA->Prop)->Prop
def upG (K:Frag) (t:DTG):TG:=fun v σ H Q=>∃ (w:W) (δ:DSt) (h:aA) (A μ:List Addr) (k:DSt->aA->Prop),Ab K A μ δ h σ H/\RepW K A μ H w v/\t w δ h k /\
 ∀ δ' h' σ' H' A' μ',k δ' h'->Ext A A' μ μ' H H'->Ab K A' μ' δ' h' σ' H'->Q σ' H'
noncomputable def dH4 (K:Frag) (t:tE):TGs:=fun vs σ H Q=>∃ (xs:List PyData) (δ:DSt) (h:aA) (A μ:List Addr) (k:DSt->aA->Prop),Ab K A μ δ h σ H/\Reps K A H xs vs/\t xs δ h k /\
 ∀ δ' h' σ' H' A' μ',k δ' h'->Ext A A' μ μ' H H'->Ab K A' μ' δ' h' σ' H'->Q σ' H'
def DG (X:Cx) (tg:Expr) (t:DTG):Prop:=PG X tg (upG X.K t)
def DGs (X:Cx) (tg:List Expr) (t:tE):Prop:=PGs X tg (dH4 X.K t)
def lJ {X:Cx} {e:Expr} {t t':TG} (h:PG X e t) (m:∀ v σ H Q,t' v σ H Q->t v σ H Q):PG X e t':=fun pins s σ H v u Q I r q=>h pins s σ H v u Q I r (m v σ H Q q)
def iY {X:Cx} {e:List Expr} {t t':TGs} (h:PGs X e t) (m:∀ v σ H Q,t' v σ H Q->t v σ H Q):PGs X e t':=fun pins s σ H v u Q I r q=>h pins s σ H v u Q I r (m v σ H Q q)
def oK (i:Nat):DTG:=fun w δ h Q=>Q (δ.set i (some w)) h
noncomputable def cQ3:tE:=fun xs δ h Q=>xs=[]/\Q δ h
noncomputable def bX7 (t:DTG) (u:tE):tE:=fun xs δ h Q=>match xs with
 | x::r=>t (.d x) δ h fun δ1 h1=>u r δ1 h1 Q
 | []=>False
def aK9 (n:Nat) (t:tE):DTG:=fun w δ h Q=>match w with
 | .d (.tuple xs)=>xs.length=n/\t xs δ h Q
 | _=>False
def aA8 (te:DTE) (g:DTG):DTS:=fun E δ h=>te δ h fun w h1=>g w δ h1 E.nx
section
variable {X:Cx} {st:Stmt} {rest:List Stmt} {t u:DTS} {e tg:Expr} {te:DTE} {tc:DTT} {g:DTG} {pos:Pos}
def bA9:DSs X [] bL5:=lX aW8 fun D σ H q=>by
 obtain ⟨δ,h,A,μ,E,R,q,L⟩:=q;exact L.nx δ h σ H A μ q .refl R
def aL0 (h1:DS X st t) (h2:DSs X rest u):DSs X (st::rest) (dH1 t u):=lX (aH9 h1 h2) fun D σ H q=>by
 obtain ⟨δ,h,A,μ,E,R,q,L⟩:=q;exact ⟨δ,h,A,μ,_,R,q,⟨fun δ' h' σ' H' A' μ' q' x R'=>⟨δ',h',A',μ',E,R',q',L.ext x⟩,L.bk,L.ct,L.rt⟩⟩
def bB0:DS X (.Pass pos) bL5:=bV aW9 fun D σ H q=>by
 obtain ⟨δ,h,A,μ,E,R,q,L⟩:=q;exact L.nx δ h σ H A μ q .refl R
def bX8 (he:DE X e te):DS X (.Return (some e) pos) (dH2 te):=bV (bS3 he) fun D σ H q=>by
 obtain ⟨δ,h,A,μ,E,R,q,L⟩:=q;exact ⟨δ,h,A,μ,_,R,q,fun w h' v H' A' μ' q' x R' r'=>L.rt w h' v H' A' μ' q' x R' r'⟩
def bB1 (he:DE X e te) (hs:autoParam (swapsWith e none pos.line X.env=pure false) ZR):DS X (.Expr e pos) (cQ2 te):=bV (aX0 he hs) fun D σ H q=>by
 obtain ⟨δ,h,A,μ,E,R,q,L⟩:=q;exact ⟨δ,h,A,μ,_,R,q,fun w h' v H' A' μ' q' x R' _=>L.nx δ h' σ H' A' μ' q' x ⟨R',R.2.ext x R.1.sub⟩⟩
def cQ4 {c:Expr} {a b:List Stmt} (hc:DT X c tc) (ha:DSs X a t) (hb:DSs X b u):DS X (.If c a b pos) (dH3 tc t u):=bV (cN5 hc ha hb) fun D σ H q=>by
 obtain ⟨δ,h,A,μ,E,R,q,L⟩:=q;refine ⟨δ,h,A,μ,_,R,q,fun b h1 H1 A1 μ1 q1 x1 R1=>?_⟩;cases b with
 | true=>exact ⟨δ,h1,A1,μ1,E,⟨R1,R.2.ext x1 R.1.sub⟩,q1,L.ext x1⟩
 | false=>exact ⟨δ,h1,A1,μ1,E,⟨R1,R.2.ext x1 R.1.sub⟩,q1,L.ext x1⟩
def bB2 {i:Nat} {x:Str} (hN:X.N.Nodup) (hi:autoParam (X.N[i]?=some x) ZR) (hx:Loc X.env.scope x:=by first | exact Or.inl rfl | exact Or.inr rfl) (hf:X.fn x=true\/X.env.scope.names.lookup x=some .local:=by first | exact .inl rfl | exact .inr rfl):DG X (.Name x pos) (oK i) :=
 lJ (aX1 hN hi hx hf) fun v σ H Q q=>by
  obtain ⟨w,δ,h,A,μ,k,R,r,q,c⟩:=q;exact c _ h _ H A μ q .refl ⟨R.1,R.2.set i r⟩
def bB3:DGs X [] cQ3:=iY aX2 fun v σ H Q q=>by
 obtain ⟨xs,δ,h,A,μ,k,R,r,⟨e,q⟩,c⟩:=q;subst e;rw [Reps] at r;exact ⟨r,c δ h σ H A μ q .refl R⟩
def aL1 {es:List Expr} {tu:tE} (h1:DG X e g) (h2:DGs X es tu) (hs:autoParam ((assignEach (e::es) X.env).map (·.2)=assign e X.env::(assignEach es X.env).map (·.2)) ZR):DGs X (e::es) (bX7 g tu) :=
 iY (aI1 h1 h2 hs) fun v σ H Q q=>by
  obtain ⟨xs,δ,h,A,μ,k,R,r,q,c⟩:=q;cases xs with
  | nil=>exact q.elim
  | cons x xs =>
   rw [Reps] at r;obtain ⟨v1,vr,rfl,r1,r2⟩:=r;refine ⟨v1,vr,rfl,.d x,δ,h,A,μ,_,R,r1,q,fun δ1 h1 σ1 H1 A1 μ1 q1 x1 R1=>?_⟩;exact ⟨xs,δ1,h1,A1,μ1,k,R1,r2.ext x1 R.1.sub,q1,fun δ2 h2 σ2 H2 A2 μ2 q2 x2 R2=>c δ2 h2 σ2 H2 A2 μ2 q2 (x1.trans x2) R2⟩
def bX9 {es:List Expr} {kk:Nat} {tu:tE} {n:Nat} (hc:X.calm=true) (h:DGs X es tu) (hn:autoParam ((assignEach es X.env).length=n) ZR) (hst:autoParam ((assignEach es X.env).findIdx? (·.1)=none) ZR):DG X (.Tuple es kk pos) (aK9 n tu) :=
 lJ (bS6 hc h hn hst) fun v σ H Q q=>by
  obtain ⟨w,δ,h,A,μ,k,R,r,q,c⟩:=q;unfold aK9 at q;split at q
  ·rename_i xs;obtain ⟨p,vs,rfl,sq,rr⟩:=bE (h:=h) r rfl;exact ⟨p,vs,rfl,sq.sq,by rw [rr.length];exact q.1,xs,δ,h,A,μ,k,R,rr,q.2,c⟩
  ·exact q.elim
def bY0 (he:DE X e te) (hg:DG X tg g) (hs:autoParam (swapsWithSole [tg] e pos.line X.env=pure false) ZR) (hw:autoParam (swappedStores [tg] e X.env=pure none) ZR)
  (h1:autoParam ((assignEach [tg] X.env).map (·.2)=[assign tg X.env]) ZR):DS X (.Assign [tg] e pos) (aA8 te g):=bV (bS8 he hg hs hw h1) fun D σ H q=>by
 obtain ⟨δ,h,A,μ,E,R,q,L⟩:=q;refine ⟨δ,h,A,μ,_,R,q,fun w h1 v H1 A1 μ1 q1 x1 R1 r1=>?_⟩;exact ⟨w,δ,h1,A1,μ1,E.nx,⟨R1,R.2.ext x1 R.1.sub⟩,r1,q1,fun δ2 h2 σ2 H2 A2 μ2 q2 x2 R2=>L.nx δ2 h2 σ2 H2 A2 μ2 q2 (x1.trans x2) R2⟩
def bY1 {i:Nat} {x:Str} {pos':Pos} (hN:X.N.Nodup) (he:DE X e te) (hi:autoParam (X.N[i]?=some x) ZR) (hx:Loc X.env.scope x:=by first | exact Or.inl rfl | exact Or.inr rfl) (hs:autoParam (swapsWith e (some (.Name x pos')) pos.line X.env=pure false) ZR)
  (hf:X.fn x=true\/X.env.scope.names.lookup x=some .local:=by first | exact .inl rfl | exact .inr rfl):DS X (.Assign [.Name x pos'] e pos) (aA8 te (oK i)):=bV (vG hN hi hx he hs hf) fun D σ H q=>by
 obtain ⟨δ,h,A,μ,E,R,q,L⟩:=q;refine ⟨δ,h,A,μ,_,R,q,fun w h1 v H1 A1 μ1 q1 x1 R1 r1=>?_⟩;exact L.nx _ h1 _ H1 A1 μ1 q1 x1 ⟨R1,(R.2.ext x1 R.1.sub).set i r1⟩
def DFS (X:Cx) (i:Nat) (st:Stmt) (tf:DTF):Prop:=PS X st (aX3 (upF X.K tf) (xK i))
def aL2 {tf:DTF} {i:Nat} {x:Str} {pos':Pos} (hN:X.N.Nodup) (he:DF X e tf) (hi:autoParam (X.N[i]?=some x) ZR) (hx:Loc X.env.scope x:=by first | exact Or.inl rfl | exact Or.inr rfl) (hs:autoParam (swapsWith e (some (.Name x pos')) pos.line X.env=pure false) ZR)
  (hf:X.fn x=true\/X.env.scope.names.lookup x=some .local:=by first | exact .inl rfl | exact .inr rfl):DFS X i (.Assign [.Name x pos'] e pos) tf:=vG hN hi hx he hs hf
def bY2 {tf:DTF} {i:Nat} (h:DFS X i st tf):DS X st (aA8 (bV5 tf) (oK i)):=bV h fun D σ H q=>by
 obtain ⟨δ,h,A,μ,E,R,q,L⟩:=q;refine ⟨δ,h,A,μ,_,R,q,fun xs h' p H' A' μ' kk x hm hp R'=>?_⟩;obtain ⟨R1,r1⟩:=gO R'.1 R'.2;have x1:=iK R.1 hp x hm;exact L.nx _ h' _ H' _ μ' kk x1 ⟨R1,(R.2.ext x1 R.1.sub).set i r1⟩
def aL3 {tf:DTF} {i:Nat} (h:DFS X i st tf):DS X st (aA8 (bV6 tf) (oK i)):=bV h fun D σ H q=>by
 obtain ⟨δ,h,A,μ,E,R,q,L⟩:=q;refine ⟨δ,h,A,μ,_,R,q,fun xs h' p H' A' μ' kk x hm hp R'=>?_⟩;have hl:μ'.length=h'.length:=by simpa using R'.1.len
 exact L.nx _ _ _ H' A' (μ'++[p]) kk x ⟨R'.1,(R.2.ext x R.1.sub).set i ⟨p,by rw [<- hl];simp,rfl⟩⟩
def dH5 (to:DTE) (t:DTA):DTE:=fun δ h Q=>to δ h fun o h1=>match o with
 | .c j=>(match h1[j]? with
  | some (.l _)=>t δ h1 fun ws h2=>(match ws,h2[j]? with
   | [.d x],some (.l xs)=>xs.length < sizeLine/\Q (.d .none) (h2.set j (.l (xs++[x])))
   | _,_=>False)
  | _=>False)
 | _=>False
def bY3 {o e0:Expr} {es:List Expr} {to:DTE} {t:DTA} {apos cpos:Pos} (ho:DE X o to) (ha:DA X (e0::es) t)
  (hbase:autoParam (attributeBase o "append" X.env (eval o X.env)=eval o X.env) ZR)
  (hfew:((backTo cpos (starEach (e0::es) X.env)).all (fun x=>!x.1)&&(backToKw cpos (keywordEach [] X.env)).all (fun x=>x.1.isSome)
   && decide ((e0::es).length+([]:List Keyword).length+(if ([]:List Keyword).isEmpty then 0 else 1) < 30))=true:=by rfl)
  (hline:autoParam ((apos.endLine==cpos.line)=true) ZR) (hs:autoParam (starEach (e0::es) X.env=(false,eval e0 X.env)::starEach es X.env) ZR) (hplain:autoParam ((backTo cpos (starEach es X.env)).any (·.1)=false) ZR) :
  DE X (.Call (.Attribute o "append" apos) (e0::es) [] cpos) (dH5 to t):=aF (aJ6 PySem.F.plainAttrs_list PySem.F.slot_list_append PySem.F.type_list_append oG ho ha hbase hfew hline hs hplain) fun σ H Q q=>by
 obtain ⟨δ,h,A,μ,k,R,q,c⟩:=q;refine ⟨δ,h,A,μ,_,R,q,fun o h1 vo H1 A1 μ1 q1 x1 R1 r1=>?_⟩;split at q1
 ·rename_i j;obtain ⟨a,ea,rfl⟩:=r1;split at q1
  rotate_left
  ·exact q1.elim
  rename_i xs1 ex1;obtain ⟨vs1,hv1,_⟩:=R1.val j a xs1 ea ex1;refine ⟨.inl ⟨rfl,_,SqL.of hv1⟩,δ,h1,A1,μ1,_,⟨R1,R.2.ext x1 R.1.sub⟩,q1,fun ws h2 vs H2 A2 μ2 q2 x2 R2 r2=>?_⟩;split at q2
  ·rename_i x xs ex;obtain ⟨v,rfl,rv⟩:=dA r2;have ea2:μ2[j]?=some a:=by
    obtain ⟨ν,e1,_⟩:=x2.pre;rw [e1,List.getElem?_append_left (List.getElem?_eq_some_iff.mp ea).1];exact ea
   obtain ⟨vs,hv,rr⟩:=R2.val j a xs ea2 ex;refine ⟨a,vs,v,rfl,rfl,hv,by rw [rr.length];exact q2.1,?_⟩;have hm:=List.mem_of_getElem? ea2;exact c _ _ _ _ A2 μ2 q2.2 ((x1.trans x2).trans (dY hm hv)) (fQ R2 ea2 ((Reps.one rv).append rr)) (by show Rep _ _ _ _ _;rw [Rep])
  ·exact q2.elim
 ·exact q1.elim
end
def cond (c:Option Nat) (xs:List PyData) (h:aA):Prop:=match c with
 | none=>True
 | some i=>h[i]?=some (.l xs)
abbrev DTI:=DSt->aA->(List PyData->Option Nat->aA->Prop)->Prop
def bB4 (K:Frag) (A μ:List Addr) (H:Hp) (J:It) (xs:List PyData) (c:Option Nat):Prop:=∀ A' μ' H' h',Ext A A' μ μ' H H'->HeapRep K A' μ' h' H'->cond c xs h' ->
 (∀ i x,xs[i]?=some x->J.go i H'/\∀ v H2,J.yld i H' v H2->Ext A' A' μ' μ' H' H2/\HeapRep K A' μ' h' H2/\Rep K A' H2 x v)/\∀ i,xs.length<=i->J.stop i H'
def upI (K:Frag) (t:DTI):TI:=fun σ H R=>∃ (δ:DSt) (h:aA) (A μ:List Addr) (k:List PyData->Option Nat->aA->Prop),Ab K A μ δ h σ H/\t δ h k /\
 ∀ xs c h' J H' A' μ',k xs c h'->Ext A A' μ μ' H H'->HeapRep K A' μ' h' H'->xs.length<=sizeLine->cond c xs h'->bB4 K A' μ' H' J xs c->R J H'
def DI (X:Cx) (tg iter:Expr) (t:DTI):Prop:=PI X tg iter (upI X.K t)
def gZ {X:Cx} {tg e:Expr} {t t':TI} (h:PI X tg e t) (m:∀ σ H R,t' σ H R->t σ H R):PI X tg e t':=fun pins s σ H R I q=>h pins s σ H R I (m σ H R q)
def cQ5 (te:DTE):DTI:=fun δ h Q=>te δ h fun w h1=>match w with
 | .d (.list xs)=>Q xs none h1
 | .d (.tuple xs)=>Q xs none h1
 | .c i=>(match h1[i]? with
  | some (.l xs)=>Q xs (some i) h1
  | _=>False)
 | _=>False
def dH6 (K:Frag) (tl:TE):TI:=fun σ H R=>tl σ H fun x H1=>∃ a,x=.ref a/\((∃ xs,SqL K H1 a xs/\(xs.length<=sizeLine->R (Itl K a) H1))\/∃ xs,SqT K H1 a xs/\(xs.length<=sizeLine->R (Itt K a) H1))
def bY4 {X:Cx} {tg l:Expr} {tl:TE} (hl:PE X l tl):PI X tg l (dH6 X.K tl):=by
 intro pins s σ H R I h;refine thn (hl pins s σ H _ I h) fun v s1 ⟨x,H1,I1,r1,q1⟩=>?_;obtain ⟨a,e,q⟩:=q1;subst e;cases r1;rcases q with ⟨xs,hq,q⟩ | ⟨xs,hq,q⟩
 ·obtain ⟨its,rv,p,hz⟩:=I1.list hq;refine wpAny_pyIter_list p.isList ⟨s1.heap.objs.size,[s1.heap.objs.size],_,_,H1,rfl,I1.kept (t':=s1.toks) fun b o e=>Heap.get?_push_of_some _ e,zQ a _,⟨_,Heap.get?_push_size _ rfl,rfl,rfl⟩,fun b hb=>?_,q hz⟩;rw [List.mem_singleton.mp hb];exact I1.fpOk (Nat.le_refl _) (I1.hok.fresh (Nat.le_refl _))
 ·obtain ⟨its,rv,p,hz⟩:=I1.tuple hq;refine wpAny_pyIter_tuple (show s1.heap.IsTuple a its.toArray from p) ⟨s1.heap.objs.size,[s1.heap.objs.size],_,_,H1,rfl,I1.kept (t':=s1.toks) fun b o e=>Heap.get?_push_of_some _ e,vH a _,⟨_,Heap.get?_push_size _ rfl,rfl,rfl⟩,fun b hb=>?_,q hz⟩;rw [List.mem_singleton.mp hb];exact I1.fpOk (Nat.le_refl _) (I1.hok.fresh (Nat.le_refl _))
def bB5 {X:Cx} {tg e:Expr} {te:DTE} (he:DE X e te):DI X tg e (cQ5 te):=gZ (bY4 he) fun σ H R q=>by
 obtain ⟨δ,h,A,μ,k,Rr,q,c⟩:=q;refine ⟨δ,h,A,μ,_,Rr,q,fun w h1 v H1 A1 μ1 q1 x1 R1 r1=>?_⟩;have listCase:∀ {xs:List PyData} {cc:Option Nat} {p:Addr} {vs:List V},cond cc xs h1->SqL X.K H1 p vs->Reps X.K A1 H1 xs vs ->
   (∀ A' μ' H' h',Ext A1 A' μ1 μ' H1 H'->HeapRep X.K A' μ' h' H'->cond cc xs h'->∃ ws,SqL X.K H' p ws/\Reps X.K A' H' xs ws)->k xs cc h1->vs.length<=sizeLine->R (Itl X.K p) H1:=fun {xs cc p vs} hc sq rr st kk hz=>by
  refine c xs cc h1 _ H1 A1 μ1 kk x1 R1 (by rw [<- rr.length];exact hz) hc fun A' μ' H' h' y R' hc'=>?_;obtain ⟨ws,sq',rr'⟩:=st A' μ' H' h' y R' hc';refine ⟨fun i x ex=>?_,fun i hi=>⟨ws,sq',by rw [rr'.length];exact hi⟩⟩;obtain ⟨z,ez,rz⟩:=rr'.get ex;refine ⟨⟨ws,z,sq',ez⟩,fun v H2 hy=>?_⟩;obtain ⟨e2,hy⟩:=hy;subst e2;have:=hy ws sq';rw [ez] at this;cases this;exact ⟨.refl,R',rz⟩
 split at q1
 ·rename_i xs;have z:Rep X.K A1 H1 (.list xs) v:=r1;rw [Rep] at z;obtain ⟨p,vs,rfl,la,rr⟩:=z;refine ⟨p,rfl,.inl ⟨vs,la.sq,fun hz=>listCase (cc:=none) trivial la.sq rr (fun A' μ' H' h' y R' _=>?_) q1 hz⟩⟩;have z:Rep X.K A' H' (.list xs) (.ref p):=Rep.ext y R1.sub (by rw [Rep];exact ⟨p,vs,rfl,la,rr⟩);rw [Rep] at z;obtain ⟨p',ws,e,la',rr'⟩:=z;cases e;exact ⟨ws,la'.sq,rr'⟩
 ·rename_i xs;obtain ⟨p,vs,rfl,ta,rr⟩:=bE (h:=h1) r1 rfl;refine ⟨p,rfl,.inr ⟨vs,ta.sq,fun hz=>?_⟩⟩;refine c xs none h1 _ H1 A1 μ1 q1 x1 R1 (by rw [<- rr.length];exact hz) trivial fun A' μ' H' h' y R' _=>?_;obtain ⟨p',ws,e,ta',rr'⟩:=bE (h:=h1) (r1.ext y R1.sub) rfl;cases e;refine ⟨fun i x ex=>?_,fun i hi=>⟨ws,ta'.sq,by rw [rr'.length];exact hi⟩⟩;obtain ⟨z,ez,rz⟩:=rr'.get ex;refine ⟨⟨ws,z,ta'.sq,ez⟩,fun v H2 hy=>?_⟩;obtain ⟨e2,hy⟩:=hy;subst e2;have:=hy ws ta'.sq;rw [ez] at this;cases this;exact ⟨.refl,R',rz⟩
 ·rename_i i;split at q1
  ·rename_i xs ex;obtain ⟨p,ep,rfl⟩:=r1;obtain ⟨vs,hv,rr⟩:=R1.val i p xs ep ex;refine ⟨p,rfl,.inl ⟨vs,.of hv,fun hz=>listCase (cc:=some i) ex (.of hv) rr (fun A' μ' H' h' y R' hc'=>?_) q1 hz⟩⟩;have ep':μ'[i]?=some p:=by
    obtain ⟨ν,e1,_⟩:=y.pre;rw [e1,List.getElem?_append_left (List.getElem?_eq_some_iff.mp ep).1];exact ep
   obtain ⟨ws,hw,rr'⟩:=R'.val i p xs ep' hc';exact ⟨ws,.of hw,rr'⟩
  ·exact q1.elim
 ·exact q1.elim
noncomputable def rng (lo:Int) (n:Nat):List PyData:=(List.range n).map fun (i:Nat)=>.int (lo+(i:Int))
def bB6 (t:DTA):DTI:=fun δ h Q=>t δ h fun ws h1=>match ws with
 | [.d (.int j)]=>(j<=16000000/\-(2^62)<=j)/\Q (rng 0 j.toNat) none h1
 | _=>False
def bB7 (t:DTA):DTI:=fun δ h Q=>t δ h fun ws h1=>match ws with
 | [.d (.int i),.d (.int j)]=>(j - i<=16000000/\-(2^62)<=i/\i < 2^62/\-(2^62)<=j/\j < 2^62)/\Q (rng i (j - i).toNat) none h1
 | _=>False
def rng_len (lo:Int) (n:Nat):(rng lo n).length=n:=by unfold rng;simp
def aL4 {K:Frag} {A μ:List Addr} {H:Hp} (lo:Int) (n:Nat):bB4 K A μ H (Itr lo n) (rng lo n) none:=fun A' μ' H' h' y R' _=>by
 refine ⟨fun i x ex=>?_,fun i hi=>by rw [rng_len] at hi;exact hi⟩;have hi:i < n:=by rw [<- rng_len lo n];exact (List.getElem?_eq_some_iff.mp ex).1
 refine ⟨hi,fun v H2 hy=>?_⟩;obtain ⟨e,hv⟩:=hy;subst e hv;unfold rng at ex;rw [List.getElem?_map,List.getElem?_range hi] at ex;cases ex;exact ⟨.refl,R',iX⟩
def aA9 {X:Cx} {tg a:Expr} {t:DTA} {p pos:Pos} (hm:X.mg "range"=none) (ha:DA X [a] t) (hg:autoParam (Gl X "range") ZR) (hs:autoParam (starEach [a] X.env=[(false,eval a X.env)]) ZR):DI X tg (.Call (.Name "range" p) [a] [] pos) (bB6 t) :=
 gZ (zR hg hm ha hs) fun σ H R q=>by
  obtain ⟨δ,h,A,μ,k,Rr,q,c⟩:=q;refine ⟨δ,h,A,μ,_,Rr,q,fun ws h1 vs H1 A1 μ1 q1 x1 R1 r1=>?_⟩;split at q1
  ·rename_i j;obtain ⟨v,rfl,rv⟩:=dA r1;have e:=bL rv;subst e;obtain ⟨⟨z1,z2⟩,q1⟩:=q1;refine ⟨j,rfl,z2,by omega,c _ _ h1 _ H1 A1 μ1 q1 x1 R1 ?_ trivial (aL4 0 j.toNat)⟩;rw [rng_len];show j.toNat<=2^24;omega
  ·exact q1.elim
def aB0 {X:Cx} {tg a b:Expr} {t:DTA} {p pos:Pos} (hm:X.mg "range"=none) (ha:DA X [a,b] t) (hg:autoParam (Gl X "range") ZR) (hs:autoParam (starEach [a,b] X.env=[(false,eval a X.env),(false,eval b X.env)]) ZR) (hs2:autoParam (starEach [b] X.env=[(false,eval b X.env)]) ZR) :
  DI X tg (.Call (.Name "range" p) [a,b] [] pos) (bB7 t) :=
 gZ (zS hg hm ha hs hs2) fun σ H R q=>by
  obtain ⟨δ,h,A,μ,k,Rr,q,c⟩:=q;refine ⟨δ,h,A,μ,_,Rr,q,fun ws h1 vs H1 A1 μ1 q1 x1 R1 r1=>?_⟩;split at q1
  ·rename_i i j;obtain ⟨v,r,rfl,rv,r2⟩:=r1;obtain ⟨v',rfl,rv'⟩:=dA r2;have e:=bL rv;have e':=bL rv';subst e e';obtain ⟨⟨z1,z2⟩,q1⟩:=q1;refine ⟨i,j,rfl,z2,c _ _ h1 _ H1 A1 μ1 q1 x1 R1 ?_ trivial (aL4 i (j - i).toNat)⟩;rw [rng_len];show (j - i).toNat<=2^24;omega
  ·exact q1.elim
noncomputable def aB1 (g:DTG) (tb:DTS) (c:Option Nat) (all:List PyData):List PyData->DTS
 | [],E,δ,h=>cond c all h/\E.nx δ h
 | x::r,E,δ,h=>cond c all h/\g (.d x) δ h fun δ2 h2=>tb { nx:=aB1 g tb c all r E,ct:=aB1 g tb c all r E,bk:=E.nx,rt:=E.rt } δ2 h2
def dH7 (ti:DTI) (g:DTG) (tb:DTS):DTS:=fun E δ h=>ti δ h fun xs c h1=>aB1 g tb c xs xs E δ h1
noncomputable def tF (g:DTG) (tt:DTT) (te:DTE) (c:Option Nat) (all:List PyData):List PyData->DSt->aA->List PyData->(List PyData->aA->Prop)->Prop
 | [],_,h,ac,Q=>cond c all h/\Q ac h
 | x::r,δ,h,ac,Q=>cond c all h/\g (.d x) δ h fun δ2 h2=>tt δ2 h2 fun b h3 =>
  if b=true then te δ2 h3 fun w h4=>(match w with
   | .d y=>tF g tt te c all r δ2 h4 (ac++[y]) Q
   | .c _=>False
   | .v _=>False)
  else tF g tt te c all r δ2 h3 ac Q
noncomputable def aX (ixs:List (Option Nat)) (δ:DSt):DSt:=ixs.map fun o=>o.bind fun i=>(δ[i]?).bind id
def aL5 (ixs:List (Option Nat)) (ti:DTI) (g:DTG) (tt:DTT) (te:DTE):DTF:=fun δ h Q=>ti δ h fun xs c h1=>tF g tt te c xs xs (aX ixs δ) h1 [] Q
def DIf (X:Cx) (ifs:List Expr) (t:DTT):Prop:=PIf X ifs (upT X.K t)
def dH8:DTT:=fun _ h Q=>Q true h
section
variable {K:Frag} {A A' μ μ':List Addr} {H H':Hp} {h h':aA}
def oM {δ:DSt} {σ:L2.St} {ixs:List (Option Nat)} (r:EnvRep K A μ H δ σ):EnvRep K A μ H (aX ixs δ) (nL ixs σ):=by
 refine ⟨by unfold aX nL;rw [List.length_map,List.length_map],fun j w e=>?_⟩;unfold aX at e;rw [List.getElem?_map] at e;cases q:ixs[j]? with
 | none=>rw [q] at e;cases e
 | some o =>
  rw [q] at e;cases o with
  | none=>cases e
  | some i =>
   have e':(δ[i]?).bind id=some w:=Option.some.inj e;cases q2:δ[i]? with
   | none=>rw [q2] at e';cases e'
   | some z =>
    rw [q2] at e';have e3:z=some w:=e';subst e3;obtain ⟨v,e4,r4⟩:=r.val i w q2;refine ⟨v,?_,r4⟩;unfold nL;rw [List.getElem?_map,q];show some ((σ[i]?).bind id)=_;rw [e4];rfl
def eL {p:Addr} {o:HO} (hp:H p=none):Ext A (p::A) μ μ H (upd H p o) :=
 ⟨fun _ z=>List.mem_cons_of_mem _ z,fun a z=>(List.mem_cons.mp z).elim (fun e=>.inr (by rw [e];exact hp)) .inl,⟨[],by simp,fun _ z=>(nomatch z)⟩,
  fun a o' _ q=>by rw [aM (aP q hp)];exact q,fun a o' q=>⟨o',by rw [aM (aP q hp)];exact q⟩⟩
def kI {p:Addr} {o:HO} (R:HeapRep K A μ h H) (hp:H p=none):HeapRep K (p::A) μ h (upd H p o):=by
 refine ⟨R.len,R.nd,fun a z=>List.mem_cons_of_mem _ (R.sub a z),fun a z=>?_,fun i a xs e1 e2=>?_⟩
 ·rcases List.mem_cons.mp z with e | z
  ·subst e;exact ⟨_,aS⟩
  ·obtain ⟨o',q⟩:=R.trk a z;exact ⟨o',by rw [aM (aP q hp)];exact q⟩
 ·have k:=R.cel i a xs e1 e2;obtain ⟨o',q⟩:=k.some;exact k.ext (eL (μ:=μ) hp) R.sub (aM (aP q hp))
def iZ {p:Addr} {o:HO} (x:Ext A A' μ μ' H H') (h1:H p=some o) (h2:p∈A) (h3:p∉μ):H' p=some o/\p∈A'/\p∉μ':=by
 refine ⟨x.keep p o h3 h1,x.sub p h2,fun z=>?_⟩;obtain ⟨ν,e,n⟩:=x.pre;rw [e] at z;rcases List.mem_append.mp z with z | z
 ·exact h3 z
 ·rw [n p z] at h1;cases h1
def RepW.upd {p:Addr} {o:HO} (hp:p∈A) {w:W} {v:V} (r:RepW K A μ H w v):RepW K A μ (L2.upd H p o) w v:=by
 cases w with
 | d x=>exact Rep.upd hp r
 | c i=>exact r
 | v u=>exact r
def EnvRep.upd {p:Addr} {o:HO} (hp:p∈A) {δ:DSt} {σ:L2.St} (r:EnvRep K A μ H δ σ):EnvRep K A μ (L2.upd H p o) δ σ:=⟨r.len,fun i w e=>by
 obtain ⟨v,e1,r1⟩:=r.val i w e;exact ⟨v,e1,r1.upd hp⟩⟩
def Ext.aside {p:Addr} {o:HO} (x:Ext A A' μ μ' H H') (hp:H p=none):Ext A A' μ μ' H (upd H' p o) :=
 ⟨x.sub,x.new,x.pre,fun a o' ha q=>by rw [aM (aP q hp)];exact x.keep a o' ha q,fun a o' q=>by rw [aM (aP q hp)];exact x.trk a o' q⟩
def Ext.addc {p:Addr} (x:Ext A A' μ μ' H H') (hp:H p=none):Ext A A' μ (μ'++[p]) H H':=by
 obtain ⟨ν,e,n⟩:=x.pre;exact ⟨x.sub,x.new,⟨ν++[p],by rw [e,List.append_assoc],fun a z=>(List.mem_append.mp z).elim (n a) fun z=>by rw [List.mem_singleton.mp z];exact hp⟩,x.keep,x.trk⟩
def aB2 {p:Addr} {xs:List PyData} {vs:List V} (R:HeapRep K A μ h H) (h1:H p=some (.lst vs)) (h2:p∈A) (h3:p∉μ) (r:Reps K A H xs vs):HeapRep K A (μ++[p]) (h++[(.l xs)]) H/\aK0 h:=by
 refine ⟨?_,R.refs⟩;refine ⟨by rw [List.length_append,List.length_append,R.len];rfl,?_,fun a z=>?_,R.trk,fun i a ys e1 e2=>?_⟩
 ·rw [List.nodup_append];refine ⟨R.nd,(by simp),fun a ha b hb=>?_⟩;rw [List.mem_singleton.mp hb];rintro rfl;exact h3 ha
 ·rcases List.mem_append.mp z with z | z
  ·exact R.sub a z
  ·rw [List.mem_singleton.mp z];exact h2
 ·by_cases hi:i < μ.length
  ·rw [List.getElem?_append_left hi] at e1;rw [List.getElem?_append_left (by rw [<- R.len];exact hi)] at e2;exact (R.cel i a ys e1 e2).anti (fun _ z=>z) fun j _ b eb=>by rw [List.getElem?_append_left (List.getElem?_eq_some_iff.mp eb).1];exact eb
  ·have hle:μ.length<=i:=Nat.le_of_not_lt hi;rw [List.getElem?_append_right hle] at e1;rw [List.getElem?_append_right (by rw [<- R.len];exact hle),<- R.len] at e2;have hz:i - μ.length=0:=by
    have:=(List.getElem?_eq_some_iff.mp e1).1;simp at this;omega
   rw [hz] at e1 e2;simp at e1 e2;subst e1 e2;exact ⟨vs,h1,r⟩
end
section
variable {X:Cx} {tg iter elt:Expr} {ifs:List Expr} {sc S:Scope} {N':List Str} {ixs:List (Option Nat)} {body:List Stmt} {ti:DTI} {g:DTG} {tb:DTS} {tt:DTT} {te:DTE} {pos:Pos}
def bB8:DIf X [] dH8:=fun pins s σ H Q I q=>by
 obtain ⟨δ,h,A,μ,k,R,q,c⟩:=q;exact aZ2 pins s σ H Q I (c true h H A μ q .refl R.1)
def bB9 {c:Expr} (h:DT X c tt):DIf X [c] tt:=aZ3 h
def bY5 (hxe:X.xe=fun _ _=>False) (hc:X.calm=true) (hi:DI X tg iter ti) (hg:DG X tg g) (hb:DSs X body tb) (hs:autoParam (∀ x,foldedSetIterable iter X.env x=pure x) ZI):DS X (.For tg iter body [] pos) (dH7 ti g tb) :=
 bV (bS9 (by rw [hxe];exact PassesOwn.never) hc hi hg hb hs) fun D σ H q=>by
  obtain ⟨δ,h,A,μ,E,R,q,L⟩:=q;refine ⟨δ,h,A,μ,_,R,q,fun xs c h1 J H1 A1 μ1 q1 x1 R1 hz hcd it=>?_⟩;refine ⟨fun i m σ' H'=>∃ δ' h' A' μ',m=xs.length - i/\i<=xs.length/\Ext A1 A' μ1 μ' H1 H'/\Ab X.K A' μ' δ' h' σ' H'/\aB1 g tb c xs (xs.drop i) E δ' h',⟨_,δ,h1,A1,μ1,rfl,Nat.zero_le _,.refl,⟨R1,R.2.ext x1 R.1.sub⟩,by simpa using q1⟩,?_⟩;rintro i m σ' H' ⟨δ',h',A',μ',rfl,hi,y,R',q'⟩
  by_cases hlt:i < xs.length
  ·rw [List.drop_eq_getElem_cons hlt] at q';obtain ⟨hcond,q'⟩:=q';obtain ⟨it1,_⟩:=it A' μ' H' h' y R'.1 hcond;obtain ⟨go,yl⟩:=it1 i xs[i] (by simp [hlt]);refine .inr ⟨go,fun σ2 H2=>∃ δ2 h2 A2 μ2,Ext A1 A2 μ1 μ2 H1 H2/\Ab X.K A2 μ2 δ2 h2 σ2 H2/\aB1 g tb c xs (xs.drop (i+1)) E δ2 h2,fun σ2 H2 ⟨δ2,h2,A2,μ2,z1,z2,z3⟩=>⟨xs.length - (i+1),by omega,δ2,h2,A2,μ2,rfl,hlt,z1,z2,z3⟩,fun v H2 hy=>?_⟩;obtain ⟨y2,R2,r2⟩:=yl v H2 hy;refine ⟨.d xs[i],δ',h',A',μ',_,⟨R2,R'.2.ext y2 R'.1.sub⟩,r2,q',fun δ3 h3 σ3 H3 A3 μ3 q3 x3 R3=>?_⟩;have y3:=(y.trans y2).trans x3;refine ⟨δ3,h3,A3,μ3,_,R3,q3,⟨fun δ4 h4 σ4 H4 A4 μ4 q4 x4 R4=>⟨δ4,h4,A4,μ4,y3.trans x4,R4,q4⟩,fun δ4 h4 σ4 H4 A4 μ4 q4 x4 R4=>L.nx δ4 h4 σ4 H4 A4 μ4 q4 (x1.trans (y3.trans x4)) R4,
    fun δ4 h4 σ4 H4 A4 μ4 q4 x4 R4=>⟨δ4,h4,A4,μ4,y3.trans x4,R4,q4⟩,fun w h4 v H4 A4 μ4 q4 x4 R4 r4=>L.rt w h4 v H4 A4 μ4 q4 (x1.trans (y3.trans x4)) R4 r4⟩⟩
  ·have e:i=xs.length:=by omega
   subst e;rw [List.drop_length] at q';obtain ⟨hcond,q'⟩:=q';obtain ⟨_,it2⟩:=it A' μ' H' h' y R'.1 hcond;exact .inl ⟨it2 _ (Nat.le_refl _),L.nx δ' h' σ' H' A' μ' q' (x1.trans y) R'⟩
def xV {σ:L2.St} {H:Hp} {Q:VK} (q:upF X.K (aL5 ixs ti g tt te) σ H Q):xT ixs (upI X.K ti) (upG X.K g) (upT X.K tt) (up X.K te) σ H Q:=by
 obtain ⟨δ,h,A,μ,k,R,q,c⟩:=q;refine ⟨δ,h,A,μ,_,R,q,fun xs cc h1 J H2 A1 μ1 q1 x1 R1 hz hcd it=>?_⟩;intro acc hacc;have nA:=R1.notA hacc;have E1:=oM (ixs:=ixs) (R.2.ext x1 R.1.sub);refine ⟨fun i m ys σ' H'=>∃ δ' h' A' μ' ac,m=xs.length - i/\i<=xs.length/\H' acc=some (.lst ys)/\acc∈A'/\acc∉μ'/\Ext A1 A' μ1 μ' H2 H'/\Ab X.K A' μ' δ' h' σ' H'/\Reps X.K A' H' ac ys/\ys.length<=i/\tF g tt te cc xs (xs.drop i) δ' h' ac k,
  ⟨_,aX ixs δ,h1,acc::A1,μ1,[],rfl,Nat.zero_le _,aS,List.mem_cons_self,fun z=>nA (R1.sub _ z),eL hacc,⟨kI R1 hacc,E1.ext (eL hacc) R1.sub⟩,.nil,Nat.le_refl _,by simpa using q1⟩,?_⟩
 rintro i m ys σ' H' ⟨δ',h',A',μ',ac,rfl,hi,a1,a2,a3,y,R',rr,hyl,q'⟩
 by_cases hlt:i < xs.length
 ·rw [List.drop_eq_getElem_cons hlt] at q';obtain ⟨hcond,q'⟩:=q';obtain ⟨it1,_⟩:=it A' μ' H' h' y R'.1 hcond;obtain ⟨go,yl⟩:=it1 i xs[i] (by simp [hlt]);refine .inr ⟨go,fun v H3 hy=>?_⟩;obtain ⟨y2,R2,r2⟩:=yl v H3 hy;refine ⟨.d xs[i],δ',h',A',μ',_,⟨R2,R'.2.ext y2 R'.1.sub⟩,r2,q',fun δ4 h4 σ4 H4 A4 μ4 q4 x4 R4=>?_⟩;refine ⟨δ4,h4,A4,μ4,_,R4,q4,fun b h5 H5 A5 μ5 q5 x5 R5=>?_⟩;have z5:=(y2.trans x4).trans x5;obtain ⟨b1,b2,b3⟩:=iZ z5 a1 a2 a3;dsimp only at q5 ⊢;cases b with
  | false =>
   rw [if_neg Bool.false_ne_true] at q5;rw [if_neg Bool.false_ne_true];exact ⟨xs.length - (i+1),by omega,δ4,h5,A5,μ5,ac,rfl,hlt,b1,b2,b3,y.trans z5,⟨R5,R4.2.ext x5 R4.1.sub⟩,rr.ext z5 R'.1.sub,by omega,q5⟩
  | true =>
   rw [if_pos rfl] at q5;rw [if_pos rfl];refine ⟨δ4,h5,A5,μ5,_,⟨R5,R4.2.ext x5 R4.1.sub⟩,q5,fun w h6 v6 H6 A6 μ6 q6 x6 R6 r6=>?_⟩;have z6:=z5.trans x6;obtain ⟨c1,c2,c3⟩:=iZ z6 a1 a2 a3;cases w with
   | c j=>exact q6.elim
   | v u=>exact q6.elim
   | d d6 =>
    have hl6:ys.length < sizeLine:=by omega
    refine ⟨c1,hl6,xs.length - (i+1),by omega,δ4,h6,A6,μ6,ac++[d6],rfl,hlt,aS,c2,c3,(y.trans z6).aside hacc,⟨lW R6 c2 c3,((R4.2.ext x5 R4.1.sub).ext x6 R5.sub).upd c2⟩,?_,?_,q6⟩
    ·exact ((Reps.one r6).append (rr.ext z6 R'.1.sub)).upd c2
    ·rw [List.length_append,List.length_singleton];omega
 ·have e:i=xs.length:=by omega
  subst e;rw [List.drop_length] at q';obtain ⟨hcond,q'⟩:=q';obtain ⟨_,it2⟩:=it A' μ' H' h' y R'.1 hcond;have x2:=x1.trans y;obtain ⟨ν,e1,_⟩:=x2.pre;exact .inl ⟨it2 _ (Nat.le_refl _),a1,c _ h' acc H' A' μ' q' (x2.addc (x1.back hacc)) ⟨ν,e1⟩ (x1.back hacc) (aB2 R'.1 a1 a2 a3 rr)⟩
def bC0 {N:List Str} (hxe:X.xe=fun _ _=>False) (hc:X.calm=true) (hS:X.env.scope=S) (hXN:X.N=N) (SC:CompSc N N' ixs S sc) (hi:DI X tg iter ti)
  (hg:∀ cl C s H fp,DG (blk X N' sc cl C s H fp) tg g) (ht:∀ cl C s H fp,DIf (blk X N' sc cl C s H fp) ifs tt) (he:∀ cl C s H fp,DE (blk X N' sc cl C s H fp) elt te)
  (hs:autoParam (∀ x,foldedSetIterable iter X.env x=pure x) ZI):DF X (.ListComp elt [⟨tg,iter,ifs,0⟩] sc pos) (aL5 ixs ti g tt te) :=
 aF (xU (N':=N') (ixs:=ixs) (g:=upG X.K g) (tt:=upT X.K tt) (te:=up X.K te) hxe hc hS (by rw [hXN];exact SC) hi hg ht he hs) fun _ _ _ q=>xV q
def aL6 {y:Str} {i:Nat} {py spos:Pos} {N:List Str} (hN:X.N.Nodup) (hxe:X.xe=fun _ _=>False) (hc:X.calm=true) (hS:X.env.scope=S) (hXN:X.N=N) (SC:CompSc N N' ixs S sc) (hi:DI X tg iter ti)
  (hg:∀ cl C s H fp,DG (blk X N' sc cl C s H fp) tg g) (ht:∀ cl C s H fp,DIf (blk X N' sc cl C s H fp) ifs tt) (he:∀ cl C s H fp,DE (blk X N' sc cl C s H fp) elt te)
  (hiN:autoParam (X.N[i]?=some y) ZR) (hy:autoParam (X.env.scope.names.lookup y=some .local) ZR) (hsw:autoParam (swapsWith (.ListComp elt [⟨tg,iter,ifs,0⟩] sc pos) (some (.Name y py)) spos.line X.env=pure true) ZR)
  (hs:autoParam (∀ x,foldedSetIterable iter X.env x=pure x) ZI):DFS X i (.Assign [.Name y py] (.ListComp elt [⟨tg,iter,ifs,0⟩] sc pos) spos) (aL5 ixs ti g tt te) :=
 bV (vU (N':=N') (ixs:=ixs) (g:=upG X.K g) (tt:=upT X.K tt) (te:=up X.K te) hxe hc hS (by rw [hXN];exact SC) hi hg ht he hN hiN hy hsw hs) fun _ _ _ q=>xV q
end
noncomputable def fS (N:List Str) (ws:List W):DSt:=ws.map some++List.replicate (N.length - ws.length) none
noncomputable def bL6 (h0:aA) (k:PyData->aA->Prop):DEnds where
 nx:=fun _ h=>okP h0 h/\k .none (h.take h0.length)
 rt:=fun w h=>okP h0 h/\(match w with
  | .d x=>k x (h.take h0.length)
  | .c i=>(match h[i]? with
   | some (.l xs)=>h0.length<=i/\k (.list xs) (h.take h0.length)
   | some (.k kvs)=>h0.length<=i/\k (.dict kvs) (h.take h0.length)
   | _=>False)
  | .v _=>False)
theorem hJ {K:Frag} {A μ:List Addr} {H:Hp}:∀ {ws:List W} {vs:List V},RepWs K A μ H ws vs->vs.length=ws.length
 | [],_,h=>by have e:_=[]:=h;subst e;rfl
 | w::ws,_,h=>by
  obtain ⟨v,r,rfl,_,h⟩:=h;rw [List.length_cons,List.length_cons,hJ h]
theorem oN {K:Frag} {A μ:List Addr} {H:Hp}:∀ {ws:List W} {vs:List V} {i:Nat} {w:W},RepWs K A μ H ws vs->ws[i]?=some w->∃ v,vs[i]?=some v/\RepW K A μ H w v
 | [],_,_,_,_,e=>by simp at e
 | y::ws,_,0,w,h,e=>by
  obtain ⟨v,r,rfl,hv,_⟩:=h;simp at e;subst e;exact ⟨v,rfl,hv⟩
 | y::ws,_,i+1,w,h,e=>by
  obtain ⟨v,r,rfl,_,h⟩:=h;obtain ⟨u,e1,e2⟩:=oN (i:=i) h (by simpa using e);exact ⟨u,by simpa using e1,e2⟩
def oO {K:Frag} {A μ:List Addr} {H:Hp} {N:List Str} {ws:List W} {vs:List V} (r:RepWs K A μ H ws vs):EnvRep K A μ H (fS N ws) (L2.start N vs):=by
 have hl:=hJ r;refine ⟨by unfold fS L2.start;simp [hl],fun i w e=>?_⟩;unfold fS at e
 by_cases hi:i < ws.length
 ·rw [List.getElem?_append_left (by simpa using hi),List.getElem?_map] at e;cases q:ws[i]? with
  | none=>rw [q] at e;cases e
  | some w' =>
   rw [q] at e;cases e;obtain ⟨v,e1,r1⟩:=oN r q;refine ⟨v,?_,r1⟩;unfold L2.start;rw [List.getElem?_append_left (by simp;omega),List.getElem?_map,e1];rfl
 ·rw [List.getElem?_append_right (by simpa using hi),List.getElem?_replicate] at e;split at e<;>cases e
def oP {K:Frag} {A A1 μ μ1:List Addr} {h h1:aA} {H H1:Hp} (R:HeapRep K A μ h H) (R1:HeapRep K A1 μ1 h1 H1) (x:Ext A A1 μ μ1 H H1) (ok:okP h h1):Ext A A μ μ H H1/\HeapRep K A μ (h1.take h.length) H1:=by
 obtain ⟨ν,e,n⟩:=x.pre;have hle:μ.length<=h1.length:=by
  rw [<- R1.len,e,List.length_append];omega
 refine ⟨⟨fun _ z=>z,fun _ z=>.inl z,⟨[],by simp,fun _ z=>(nomatch z)⟩,x.keep,x.trk⟩,⟨by rw [List.length_take,<- R.len];omega,R.nd,R.sub,fun a z=>?_,fun i a xs e1 e2=>?_⟩⟩
 ·obtain ⟨o,q⟩:=R.trk a z;exact x.trk a o q
 ·have hi:i < μ.length:=(List.getElem?_eq_some_iff.mp e1).1;have e3:h1[i]?=some xs:=by rw [<- R.len] at e2;rw [List.getElem?_take_of_lt hi] at e2;exact e2
  refine (R1.cel i a xs (by rw [e,List.getElem?_append_left hi];exact e1) e3).anti x.sub fun j hj b eb=>?_;have hlt:j < μ.length:=by
   rcases ok i xs (by rw [<- R.len];exact hi) e3 with z | z
   ·rw [R.len];exact z j hj
   ·exact (R.cel i a xs e1 z).lt j hj
  rw [e,List.getElem?_append_left hlt] at eb;exact eb
section
variable {P:Program} {w:World} {K:Frag} {mg:Str->Option Value} {base:Heap}
def cQ6 {x qual:Str} {st:Stmt} {f:Addr} {fd:FuncData} {N ps:List Str} {k:Nat} {sp:Sp} (F:Fun K x qual st f fd) (S:FnScope N ps (aH st)) (len:∀ vs H Q E,sp vs H Q E->vs.length=ps.length)
  (hbody:∀ (cdv:Value) (A:Around) (outer:List Env) (s:Shared) (H:Hp) (vs:List V) (Q:VK) (E:XK),fd.code=cdv->Room k (A.deeper (envOfC qual (aH st) s.heap.objs.size f cdv))->sp vs H Q E ->
   ∃ t,PSs (qH CX0 P w K mg base N qual (aH st) f cdv A outer s H E).nox (bJ st) t/\t { nx:=fun _ H'=>Q .non H',rt:=Q } (start N vs) H):FnOk P w K mg base CX0 (k+1) f fd ps sp:=by
 obtain ⟨oc,od,kV,doc,pm,an,cdv,ct,osl,rfl,lk,hcd⟩:=F.ex;refine cO4 lk hcd S len fun A outer s H vs Q E hr hsp=>?_;obtain ⟨t,h,q⟩:=hbody cdv A outer s H vs Q E rfl hr hsp;exact ⟨t,h.nox,q⟩
def dfn {x qual:Str} {st:Stmt} {f:Addr} {fd:FuncData} {N ps:List Str} {k:Nat} {d:DSp} (F:Fun K x qual st f fd) (S:FnScope N ps (aH st)) (len:∀ ws h k,d ws h k->ws.length=ps.length)
  (hbody:∀ (cdv:Value) (A:Around) (outer:List Env) (s:Shared) (H:Hp) (E:XK),fd.code=cdv->Room k (A.deeper (envOfC qual (aH st) s.heap.objs.size f cdv)) ->
   ∃ t,DSs (qH CX0 P w K mg base N qual (aH st) f cdv A outer s H E).nox (bJ st) t/\∀ ws h kk,d ws h kk->t (bL6 h kk) (fS N ws) h):FnOk P w K mg base CX0 (k+1) f fd ps (mC K d):=by
 refine cQ6 F S (fun vs H Q E ⟨ws,h,A,μ,kk,R,r,q,c⟩=>by rw [hJ r];exact len _ _ _ q) fun cdv A outer s H vs Q E hcd hr hsp=>?_;obtain ⟨ws,h,B,μ,kk,R,r,q,c⟩:=hsp;obtain ⟨t,ht,hq⟩:=hbody cdv A outer s H E hcd hr;refine ⟨_,ht,fS N ws,h,B,μ,bL6 h kk,⟨R,oO r⟩,hq ws h kk q,⟨fun δ' h' σ' H' A' μ' q' x' R'=>?_,fun δ' h' σ' H' A' μ' q' x' R'=>q'.elim,fun δ' h' σ' H' A' μ' q' x' R'=>q'.elim,fun z h' v H' A' μ' q' x' R' r'=>?_⟩⟩
 ·obtain ⟨y,R2⟩:=oP R R'.1 x' q'.1;exact c _ _ _ _ B q'.2 y R2 (by rw [Rep])
 ·obtain ⟨ok,q'⟩:=q';obtain ⟨y,R2⟩:=oP R R' x' ok;cases z with
  | d z=>exact c _ _ _ _ B q' y R2 (Rep.anti x'.sub r')
  | v u=>exact q'.elim
  | c i =>
   obtain ⟨a,ea,rfl⟩:=r';have q2:(match h'[i]? with | some (.l xs)=>h.length<=i/\kk (.list xs) (h'.take h.length) | some (.k kvs)=>h.length<=i/\kk (.dict kvs) (h'.take h.length) | _=>False):=q';cases e:h'[i]? with
   | none=>rw [e] at q2;exact q2.elim
   | some cc =>
    cases cc with
    | t _ _ _=>rw [e] at q2;exact q2.elim
    | o _ _=>rw [e] at q2;exact q2.elim
    | r _=>rw [e] at q2;exact q2.elim
    | l xs =>
     rw [e] at q2;obtain ⟨hi,q3⟩:=q2;obtain ⟨vs,hv,rr⟩:=R'.val i a xs ea e;refine c _ _ _ _ B q3 y R2 ?_;rw [Rep];refine ⟨a,vs,rfl,.inl ⟨fun z=>?_,.inl hv⟩,rr.anti x'.sub⟩;obtain ⟨ν,e1,n⟩:=x'.pre;rw [e1,List.getElem?_append_right (by rw [R.len];exact hi)] at ea;have:=n a (List.mem_of_getElem? ea);obtain ⟨o,q⟩:=R.trk a z;rw [this] at q;cases q
    | k kvs =>
     rw [e] at q2;obtain ⟨hi,q3⟩:=q2;obtain ⟨vs,hv,rr⟩:=R'.vad i a kvs ea e;refine c _ _ _ _ B q3 y R2 ?_;rw [Rep];refine ⟨a,vs,rfl,⟨fun z=>?_,.inl hv⟩,rr.anti x'.sub⟩;obtain ⟨ν,e1,n⟩:=x'.pre;rw [e1,List.getElem?_append_right (by rw [R.len];exact hi)] at ea;have:=n a (List.mem_of_getElem? ea);obtain ⟨o,q⟩:=R.trk a z;rw [this] at q;cases q
def bY6 {x qual:Str} {st:Stmt} {f:Addr} {fd:FuncData} {ps:List Str} {k:Nat} {d:DSp} (h:FnOk P w K mg base CX0 k f fd ps (mC K d)) (hm:mg x=some (.ref f)) (F:Fun K x qual st f fd) (b:Binds K fd ps []):DFn P w K mg base k x d:=⟨f,fd,ps,h,hm,F.kp,b⟩
end
section
variable {X:Cx} {a b e:Expr} {es:List Expr} {ta tb te:DTE} {t:DTA} {pos p p2:Pos} {x:Str}
def xW:OpR X (binaryOp .Add) (fun x y H Q=>∃ a b xs ys,x=.ref a/\y=.ref b/\SqL X.K H a xs/\SqL X.K H b ys/\xs.length+ys.length<=sizeLine/\∀ p,H p=none->Q (.ref p) (upd H p (.lst (xs++ys)))):=by
 intro pins s σ H x y v u Q I rx ry h;obtain ⟨a,b,xs,ys,rfl,rfl,ha,hb,hz,q⟩:=h;cases rx;cases ry;obtain ⟨its,r1,p1,_⟩:=I.list ha;obtain ⟨its2,r2,p2,_⟩:=I.list hb;obtain ⟨⟨cls,dd,data,sl⟩,n,ho,hc,_,hd⟩:=id p1;obtain ⟨⟨cls2,dd2,data2,sl2⟩,n2,ho2,hc2,_,hd2⟩:=id p2;simp only at hc hd hc2 hd2;subst hc hd hc2 hd2;have l1:=r1.length;have l2:=r2.length;have ea:its.toArray++its2.toArray=(its++its2).toArray:=by simp
 refine concat_meets ⟨_,ho,rfl⟩ ⟨_,ho2,rfl⟩ noFill_list_add seq_list_add PySem.F.slot_list_add PySem.F.entry_list_add (PySem.F.args_list_add_2 _ _) (list_addW a b its.toArray its2.toArray n n2 dd dd2 sl sl2 (by rw [List.size_toArray,List.size_toArray];omega)) ⟨ho,ho2,?_⟩;rw [ea];exact ⟨.ref _,_,I.lnew (t':=s.toks) (r1.append r2) (by rw [List.length_append];exact hz),rfl,q _ I.fresh⟩
noncomputable def dP:List PyData->Option (List Bool)
 | []=>some []
 | .bool b::r=>(dP r).map (b::·)
 | _::_=>none
theorem mD {K:Frag} {A:List Addr} {H:Hp}:∀ {xs:List PyData} {bs:List Bool} {vs:List V},dP xs=some bs->Reps K A H xs vs->vs=bs.map V.bl
 | [],_,_,e,h=>by rw [Reps] at h;cases e;exact h
 | x::r,bs,vs,e,h=>by
  rw [Reps] at h;obtain ⟨v,rr,rfl,hv,h⟩:=h;cases x with
  | bool b =>
   unfold dP at e;cases q:dP r with
   | none=>rw [q] at e;cases e
   | some cs =>
    rw [q] at e;have e':b::cs=bs:=Option.some.inj e;subst e';rw [Rep] at hv;rw [hv,mD q h];rfl
  | _=>cases e
def aB3 {f:Nat->Bool} (bs:List Bool) (h:∀ i b,bs[i]?=some b->f i=b):(List.range bs.length).all f=bs.all id:=by
 rw [Bool.eq_iff_iff,List.all_eq_true,List.all_eq_true];constructor
 ·intro z b hb;obtain ⟨i,hi,e⟩:=List.mem_iff_getElem.mp hb;have:=z i (by simpa using hi);rw [h i b (by simp [hi,e])] at this;exact this
 ·intro z i hi;have hi':i < bs.length:=by simpa using hi
  rw [h i bs[i] (by simp [hi'])];exact z _ (List.getElem_mem hi')
def aB4 (hc:X.calm=true):cQ X (.builtin "all") (fun xs H Q=>∃ (p:Addr) (bs:List Bool),xs=[.ref p]/\SqL X.K H p (bs.map V.bl)/\Q (.bl (bs.all id)) H):=by
 intro pins s σ H xs us Q I r h;obtain ⟨p,bs,rfl,sq,q⟩:=h;obtain ⟨u,rfl,ru⟩:=kE r;cases ru;obtain ⟨its,rv,pl,hz⟩:=I.list sq;have hl:=rv.length;rw [List.length_map] at hl;have hlt:p < s.heap.objs.size:=by obtain ⟨o,n,e,_⟩:=pl;exact Heap.lt_size e
 refine call_all_walk (wpAny_pyIter_list pl.isList ?_);refine ⟨s.heap.objs.size,_,_,its.toArray.size,_,_,fun i=>(bs[i]?).getD true,rfl,Walks.list (A:=X.A.in1) (I.ok.hd hc) s.heap.objs.size p (Nat.ne_of_lt hlt) its.toArray,⟨⟨_,Heap.get?_push_size _ rfl,rfl,rfl⟩,?_⟩,fun i v s' Q' E' hP hQ=>?_,fun h' tk hk=>?_⟩
 ·obtain ⟨o,ho,r⟩:=pl.isList;exact ⟨o,Heap.get?_push_of_some _ ho,r⟩
 ·have hi:i < its.length:=by
   have:=(Array.getElem?_eq_some_iff.mp hP).1
   simpa using this
  have eb:bs[i]?=some (bs[i]'(by omega)):=by simp
  obtain ⟨u',e1,e2⟩:=rv.get (i:=i) (x:=V.bl (bs[i]'(by omega))) (by rw [List.getElem?_map,eb];rfl);have e3:v=u':=by
   have hP':its[i]?=some v:=by simpa using hP
   rw [hP'] at e1;exact Option.some.inj e1
  subst e3;cases e2;dsimp only at hQ;rw [eb] at hQ;exact wpAny_truthy_bool hQ
 ·have e:(List.range its.toArray.size).all (fun i=>(bs[i]?).getD true)=bs.all id:=by
   have:=aB3 (f:=fun i=>(bs[i]?).getD true) bs (fun i b e=>by simp [e]);rw [List.size_toArray,<- hl];exact this
  refine ⟨.bl (bs.all id),H,I.kept fun b o eo=>hk b o ?_ (Heap.get?_push_of_some _ eo),by rw [e];rfl,q⟩;intro z;rw [List.mem_singleton.mp z] at eo;exact absurd (Heap.lt_size eo) (Nat.lt_irrefl _)
noncomputable def bY7:DC
 | [w],h,Q=>match ref h w with
  | some (.list xs)=>(match dP xs with
   | some bs=>Q (.d (.bool (bs.all id))) h
   | none=>False)
  | _=>False
 | _,_,_=>False
def aB5 (hc:X.calm=true):cQ X (.builtin "all") (upC X.K bY7):=by
 intro pins s σ H xs us Q I r h;obtain ⟨ws,h,A,μ,k,R,rw',q,c⟩:=h;unfold bY7 at q;split at q
 ·rename_i w h0 k0;obtain ⟨v,rfl,rv⟩:=dA rw';split at q
  ·rename_i ys ey;split at q
   ·rename_i bs eb;obtain ⟨p,vs,rfl,sq,rr⟩:=cD R rv ey;have ev:=mD eb rr;subst ev;exact aB4 hc pins s σ H _ us Q I r ⟨p,bs,rfl,sq,c _ _ _ _ _ _ q .refl R bB⟩
   ·exact q.elim
  ·exact q.elim
 ·exact q.elim
noncomputable def fF:PyData->String
 | .none=>"NoneType"
 | .bool _=>"bool"
 | .int _=>"int"
 | .str _=>"str"
 | .list _=>"list"
 | .tuple _=>"tuple"
 | .dict _=>"dict"
noncomputable def isi (d:PyData) (T:String):Bool:=fF d==T||(fF d=="bool"&&T=="int")
def kJ (T:String):Prop:=∀ (K:Frag) (d:PyData),PySem.W.kitOne K (.type (fF d)) (.type T)=some (isi d T)
def bC1:kJ "int":=fun K d=>by cases d<;>kernel_rfl
def aL7:kJ "bool":=fun K d=>by cases d<;>kernel_rfl
def bC2:kJ "str":=fun K d=>by cases d<;>kernel_rfl
def aB6:kJ "tuple":=fun K d=>by cases d<;>kernel_rfl
def aL8:kJ "list":=fun K d=>by cases d<;>kernel_rfl
def dH9 (T:String) (te:DTE):DTE:=fun δ h Q=>te δ h fun w h1=>match ref h1 w with
 | some d=>Q (.d (.bool (isi d T))) h1
 | none=>False
def aL9 {pins:List (Addr×Obj)} {σ:L2.St} {H:Hp} {s:Shared} {A μ:List Addr} {h:aA} {w:W} {d:PyData} {v:V} {u:Value} {T:String} {Q:Value->Shared->Prop} {Ar:Around} {E:Value->Shared->Prop}
  (I:Inv X pins σ H s) (R:HeapRep X.K A μ h H) (r:RepW X.K A μ H w v) (e:ref h w=some d) (rv:RelV v u) (hk:kJ T) (q:∀ tk,Q (.bool (isi d T)) { s with toks:=tk }) :
  wpAny (model X.prog X.w) Ar (call (.builtin "isinstance") [u,.type T]) Q E s:=by
 have ek:=hk X.K d;cases d with
 | none =>
  have z:=aZ R r e;rw [See] at z;subst z;cases rv;exact PySem.W.kia_one PySem.W.kitx_none I.kIn True.intro ek (fun z=>nomatch z) q
 | bool b =>
  have z:=aZ R r e;rw [See] at z;subst z;cases rv;exact PySem.W.kia_one PySem.W.kitx_bool I.kIn True.intro ek (fun z=>nomatch z) q
 | int b =>
  have z:=aZ R r e;rw [See] at z;subst z;obtain ⟨t,rfl⟩:=rv;exact PySem.W.kia_one PySem.W.kitx_int I.kIn True.intro ek (fun z=>nomatch z) q
 | str b =>
  have z:=aZ R r e;rw [See] at z;subst z;obtain ⟨t,rfl⟩:=rv;exact PySem.W.kia_one PySem.W.kitx_str I.kIn True.intro ek (fun z=>nomatch z) q
 | list xs =>
  obtain ⟨p,vs,rfl,sq,_⟩:=cD R r e;cases rv;obtain ⟨its,_,⟨o,n,ho,hc,_⟩,_⟩:=I.list sq;exact PySem.W.kia_one PySem.W.kitx_list I.kIn ⟨o,ho,hc⟩ ek (fun z=>nomatch z) q
 | tuple xs =>
  obtain ⟨p,vs,rfl,sq,_⟩:=bE r e;cases rv;obtain ⟨its,_,⟨o,ho,hc,_⟩,_⟩:=I.tuple sq.sq;exact PySem.W.kia_one PySem.W.kitx_tuple I.kIn ⟨o,ho,hc⟩ ek (fun z=>nomatch z) q
 | dict kvs =>
  cases w with
  | v u=>cases e
  | c i =>
   obtain ⟨p,ep,rfl⟩:=r;dsimp only [DL.ref] at e;cases q0:h[i]? with
   | none=>rw [q0] at e;cases e
   | some cc =>
    cases cc with
    | t _ _ _=>rw [q0] at e;cases e
    | o _ _=>rw [q0] at e;cases e
    | r _=>rw [q0] at e;cases e
    | l ys=>rw [q0] at e;cases e
    | k ys =>
     obtain ⟨rr,hp,_⟩:=R.vad i p ys ep q0;cases rv;obtain ⟨_,_,vs,_,o,es,ep',h1,h2,_⟩:=iV I.hok (.inl hp);exact PySem.W.kia_one PySem.W.kitx_dict I.kIn ⟨o,h1,h2.1⟩ ek (fun z=>nomatch z) q
  | d y =>
   cases e;have z:Rep X.K A H (.dict kvs) v:=r;rw [Rep] at z;obtain ⟨p,kv',rfl,⟨_,hp⟩,_⟩:=z;cases rv;obtain ⟨_,_,vs,_,o,es,ep,h1,h2,_⟩:=iV I.hok hp;exact PySem.W.kia_one PySem.W.kitx_dict I.kIn ⟨o,h1,h2.1⟩ ek (fun z=>nomatch z) q
def bY8 {T:Str} {Ts:String} (hk:kJ Ts) (hm:X.mg "isinstance"=none) (hT:X.mg T=none) (he:DE X e te) (hv:autoParam (bootBuiltins T=some (.type Ts)) ZR) (hg:autoParam (Gl X "isinstance") ZR) (hgT:autoParam (Gl X T) ZR) (hTn:autoParam (T≠"__name__") ZD) (hTd:autoParam ((T==("__debug__":Str))=false) ZD)
  (hs:autoParam (starEach (e::[.Name T p2]) X.env=(false,eval e X.env)::starEach [.Name T p2] X.env) ZR) (hs2:autoParam (starEach ([.Name T p2]:List Expr) X.env=(false,eval (.Name T p2) X.env)::starEach [] X.env) ZR)
  (hpl:autoParam ((backTo pos (starEach ([.Name T p2]:List Expr) X.env)).any (·.1)=false) ZR):DE X (.Call (.Name "isinstance" p) [e,.Name T p2] [] pos) (dH9 Ts te):=by
 have hT':PE X (.Name T p2) (tC (.ty Ts)):=qE hgT hT hv rfl hTn hTd;have ha:PA X [e,.Name T p2] (iS (up X.K te) (iS (tC (.ty Ts)) aI8)):=eT he (eT hT' lS hs2) hs;have hc:cQ X (.builtin "isinstance") (fun xs H Q=>∃ x h A μ w d,xs=[x,.ty Ts]/\HeapRep X.K A μ h H/\RepW X.K A μ H w x/\ref h w=some d/\Q (.bl (isi d Ts)) H):=by
  intro pins s σ H xs us Q I r h;obtain ⟨x,h,A,μ,w,d,rfl,R,rx,e,q⟩:=h;cases r with
  | cons r1 r2 =>
   cases r2 with
   | cons r3 r4 =>
    cases r4;cases r3;exact aL9 I R rx e r1 hk fun tk=>⟨.bl _,H,I.tok tk,rfl,q⟩
 refine aF (lT hc hg hm (by rfl) ha (by decide) (by decide) hs hpl) fun σ H Q q=>?_;obtain ⟨δ,h,A,μ,k,R,q,c⟩:=q;refine ⟨δ,h,A,μ,_,R,q,fun w h1 v H1 A1 μ1 q1 x1 R1 r1=>?_⟩;split at q1
 ·rename_i d ed;exact ⟨v,h1,A1,μ1,w,d,rfl,R1,r1,ed,c _ h1 _ H1 A1 μ1 q1 x1 R1 bB⟩
 ·exact q1.elim
end
end DL
namespace SJ
open PySem
set_option genInjectivity true in
inductive One where
 | read (k:Nat) | write (k:Nat) (v:Int) | add (k:Nat) (n:Int) | swap (k:Nat) (o n:Int)
set_option genInjectivity true in
inductive Call where
 | one (c:One) | span (lo hi:Nat) | deal (cs:List One)
set_option genInjectivity true in
inductive Stp where
 | call (c:Call) | look (c:Call) | lay (ps:List (Nat×Int))
noncomputable def One.dat:One->PyData
 | .read k=>.tuple [.str "read",.int k]
 | .write k v=>.tuple [.str "write",.int k,.int v]
 | .add k n=>.tuple [.str "add",.int k,.int n]
 | .swap k o n=>.tuple [.str "swap",.int k,.int o,.int n]
noncomputable def One.key:One->Nat
 | .read k=>k | .write k _=>k | .add k _=>k | .swap k _ _=>k
noncomputable def Call.dat:Call->PyData
 | .one c=>c.dat
 | .span lo hi=>.tuple [.str "span",.int lo,.int hi]
 | .deal cs=>.tuple [.str "deal",.tuple (cs.map One.dat)]
noncomputable def Stp.dat:Stp->PyData
 | .call c=>c.dat
 | .look c=>.tuple [.str "look",c.dat]
 | .lay ps=>.tuple [.str "lay",.tuple (ps.map fun p=>.tuple [.int p.1,.int p.2])]
def One.ok (c:One):Prop:=c.key < 8
noncomputable def Call.ok:Call->Prop
 | .one c=>c.ok
 | .span lo hi=>lo < hi/\hi<=8
 | .deal cs=>cs.length<=4/\1<=cs.length/\∀ c∈cs,c.ok
noncomputable def got (v:Int):PyData:=.tuple [.str "got",.int v]
noncomputable def dn:PyData:=.tuple [.str "done"]
noncomputable def yes:PyData:=.tuple [.str "yes"]
noncomputable def no:PyData:=.tuple [.str "no"]
end SJ
namespace DL
open PySem PySem.Spec PyProof.Rows L2
@[simp] theorem dI0 (i:Int):SeqAt.shaped (.int i)=true:=by simp [SeqAt.shaped,PyData.canLay0,PyData.depth]
@[simp] theorem dB8 (i:Bool):SeqAt.shaped (.bool i)=true:=by simp [SeqAt.shaped,PyData.canLay0,PyData.depth]
@[simp] theorem dB9:SeqAt.shaped .none=true:=by simp [SeqAt.shaped,PyData.canLay0,PyData.depth]
@[simp] theorem dI1 (i j:Int):PyData.eqv (.int i) (.int j)=decide (i=j):=by rw [PyData.eqv];exact Bool.beq_eq_decide_eq i j
@[simp] theorem dI2 (i j:Str):PyData.eqv (.str i) (.str j)=(i==j):=by rw [PyData.eqv]
@[simp] theorem bC3:((Str.ofString "read")==(Str.ofString "write"))=false:=by decide +kernel
@[simp] theorem bY9:((Str.ofString "read")==(Str.ofString "add"))=false:=by decide +kernel
@[simp] theorem bL7:((Str.ofString "read")==(Str.ofString "swap"))=false:=by decide +kernel
@[simp] theorem bL8:((Str.ofString "read")==(Str.ofString "span"))=false:=by decide +kernel
@[simp] theorem bL9:((Str.ofString "read")==(Str.ofString "deal"))=false:=by decide +kernel
@[simp] theorem bM0:((Str.ofString "read")==(Str.ofString "look"))=false:=by decide +kernel
@[simp] theorem bZ0:((Str.ofString "read")==(Str.ofString "lay"))=false:=by decide +kernel
@[simp] theorem bC4:((Str.ofString "write")==(Str.ofString "read"))=false:=by decide +kernel
@[simp] theorem bM1:((Str.ofString "write")==(Str.ofString "add"))=false:=by decide +kernel
@[simp] theorem bC5:((Str.ofString "write")==(Str.ofString "swap"))=false:=by decide +kernel
@[simp] theorem bC6:((Str.ofString "write")==(Str.ofString "span"))=false:=by decide +kernel
@[simp] theorem bC7:((Str.ofString "write")==(Str.ofString "deal"))=false:=by decide +kernel
@[simp] theorem bC8:((Str.ofString "write")==(Str.ofString "look"))=false:=by decide +kernel
@[simp] theorem bM2:((Str.ofString "write")==(Str.ofString "lay"))=false:=by decide +kernel
@[simp] theorem bZ1:((Str.ofString "add")==(Str.ofString "read"))=false:=by decide +kernel
@[simp] theorem bM3:((Str.ofString "add")==(Str.ofString "write"))=false:=by decide +kernel
@[simp] theorem bZ2:((Str.ofString "add")==(Str.ofString "swap"))=false:=by decide +kernel
@[simp] theorem bZ3:((Str.ofString "add")==(Str.ofString "span"))=false:=by decide +kernel
@[simp] theorem bZ4:((Str.ofString "add")==(Str.ofString "deal"))=false:=by decide +kernel
@[simp] theorem bZ5:((Str.ofString "add")==(Str.ofString "look"))=false:=by decide +kernel
@[simp] theorem cL2:((Str.ofString "add")==(Str.ofString "lay"))=false:=by decide +kernel
@[simp] theorem bM4:((Str.ofString "swap")==(Str.ofString "read"))=false:=by decide +kernel
@[simp] theorem bC9:((Str.ofString "swap")==(Str.ofString "write"))=false:=by decide +kernel
@[simp] theorem bZ6:((Str.ofString "swap")==(Str.ofString "add"))=false:=by decide +kernel
@[simp] theorem bM5:((Str.ofString "swap")==(Str.ofString "span"))=false:=by decide +kernel
@[simp] theorem bM6:((Str.ofString "swap")==(Str.ofString "deal"))=false:=by decide +kernel
@[simp] theorem bM7:((Str.ofString "swap")==(Str.ofString "look"))=false:=by decide +kernel
@[simp] theorem bZ7:((Str.ofString "swap")==(Str.ofString "lay"))=false:=by decide +kernel
@[simp] theorem bM8:((Str.ofString "span")==(Str.ofString "read"))=false:=by decide +kernel
@[simp] theorem bD0:((Str.ofString "span")==(Str.ofString "write"))=false:=by decide +kernel
@[simp] theorem bZ8:((Str.ofString "span")==(Str.ofString "add"))=false:=by decide +kernel
@[simp] theorem bM9:((Str.ofString "span")==(Str.ofString "swap"))=false:=by decide +kernel
@[simp] theorem bN0:((Str.ofString "span")==(Str.ofString "deal"))=false:=by decide +kernel
@[simp] theorem bN1:((Str.ofString "span")==(Str.ofString "look"))=false:=by decide +kernel
@[simp] theorem bZ9:((Str.ofString "span")==(Str.ofString "lay"))=false:=by decide +kernel
@[simp] theorem bN2:((Str.ofString "deal")==(Str.ofString "read"))=false:=by decide +kernel
@[simp] theorem bD1:((Str.ofString "deal")==(Str.ofString "write"))=false:=by decide +kernel
@[simp] theorem cA0:((Str.ofString "deal")==(Str.ofString "add"))=false:=by decide +kernel
@[simp] theorem bN3:((Str.ofString "deal")==(Str.ofString "swap"))=false:=by decide +kernel
@[simp] theorem bN4:((Str.ofString "deal")==(Str.ofString "span"))=false:=by decide +kernel
@[simp] theorem bN5:((Str.ofString "deal")==(Str.ofString "look"))=false:=by decide +kernel
@[simp] theorem cA1:((Str.ofString "deal")==(Str.ofString "lay"))=false:=by decide +kernel
@[simp] theorem bN6:((Str.ofString "look")==(Str.ofString "read"))=false:=by decide +kernel
@[simp] theorem bD2:((Str.ofString "look")==(Str.ofString "write"))=false:=by decide +kernel
@[simp] theorem cA2:((Str.ofString "look")==(Str.ofString "add"))=false:=by decide +kernel
@[simp] theorem bN7:((Str.ofString "look")==(Str.ofString "swap"))=false:=by decide +kernel
@[simp] theorem bN8:((Str.ofString "look")==(Str.ofString "span"))=false:=by decide +kernel
@[simp] theorem bN9:((Str.ofString "look")==(Str.ofString "deal"))=false:=by decide +kernel
@[simp] theorem cA3:((Str.ofString "look")==(Str.ofString "lay"))=false:=by decide +kernel
@[simp] theorem cA4:((Str.ofString "lay")==(Str.ofString "read"))=false:=by decide +kernel
@[simp] theorem bO0:((Str.ofString "lay")==(Str.ofString "write"))=false:=by decide +kernel
@[simp] theorem cL3:((Str.ofString "lay")==(Str.ofString "add"))=false:=by decide +kernel
@[simp] theorem cA5:((Str.ofString "lay")==(Str.ofString "swap"))=false:=by decide +kernel
@[simp] theorem cA6:((Str.ofString "lay")==(Str.ofString "span"))=false:=by decide +kernel
@[simp] theorem cA7:((Str.ofString "lay")==(Str.ofString "deal"))=false:=by decide +kernel
@[simp] theorem cA8:((Str.ofString "lay")==(Str.ofString "look"))=false:=by decide +kernel
@[simp] theorem at0 {a:PyData} {r:List PyData}:atI (a::r) 0=some a:=by simp [atI,ixN]
@[simp] theorem at1 {a b:PyData} {r:List PyData}:atI (a::b::r) 1=some b:=by
 have:(1:Int) < (r.length:Int)+1+1:=by omega
 simp [atI,ixN,this]
@[simp] theorem at2 {a b c:PyData} {r:List PyData}:atI (a::b::c::r) 2=some c:=by
 have:(2:Int) < (r.length:Int)+1+1+1:=by omega
 simp [atI,ixN,this]
@[simp] theorem at3 {a b c d:PyData} {r:List PyData}:atI (a::b::c::d::r) 3=some d:=by
 have:(3:Int) < (r.length:Int)+1+1+1+1:=by omega
 simp [atI,ixN,this]
@[simp] theorem ix0 (n:Nat):ixN (n+1) 0=some 0:=by
 have:(0:Int) < ((n+1:Nat):Int):=by omega
 simp only [ixN,this,Int.le_refl,if_true];rfl
def cA9 {n i:Nat} (h:i < n):ixN n (i:Int)=some i:=by
 have h1:(i:Int) < (n:Int):=by omega
 have h2:(0:Int)<=(i:Int):=by omega
 simp [ixN,h1,h2]
@[simp] theorem cQ7 (h:aA) (i:Nat) (a:Cell):(h.set i a).take h.length=h.set i a:=by
 rw [List.take_of_length_le (by simp)]
@[simp] theorem dP0:ixN 3 2=some 2:=rfl
@[simp] theorem dP1:ixN 3 0=some 0:=rfl
def szl:sizeLine=16777216:=rfl
section
variable {X:Cx} {a b c e tg:Expr} {st:Stmt} {ta tb tc te:DTE} {pos:Pos}
def dNo:DTE:=fun _ _ _=>False
def dI3:DTF:=fun _ _ _=>False
def dI4:DTI:=fun _ _ _=>False
def dI5:DTS:=fun _ _ _=>False
def fG:DE X e dNo:=fun pins s σ H Q I ⟨_,_,_,_,_,_,q,_⟩=>q.elim
def bO1:DF X e dI3:=fun pins s σ H Q I ⟨_,_,_,_,_,_,q,_⟩=>q.elim
def cQ8:DI X tg e dI4:=fun pins s σ H R I ⟨_,_,_,_,_,_,q,_⟩=>q.elim
def cQ9:DS X st dI5:=fun pins s σ H D I ⟨_,_,_,_,_,_,q,_⟩=>q.elim
def aB7 (neg:Bool):D2:=fun x y h Q=>match ref h x,ref h y with
 | some d,some (.list xs)=>SeqAt.shaped (.list xs)=true/\SeqAt.shaped d=true/\Q (.d (.bool (neg ^^ xs.any fun z=>PyData.eqv z d))) h
 | some d,some (.tuple xs)=>SeqAt.shaped (.tuple xs)=true/\SeqAt.shaped d=true/\Q (.d (.bool (neg ^^ xs.any fun z=>PyData.eqv z d))) h
 | _,_=>False
def Room.units65 {k:Nat} {A:Around} (r:Room k A):A.units+65 < cLine:=by have:=r.un;omega
def cB0 {n:Nat} (hr:Room n X.A):OpR X (compareOp .In) (upR X.K (aB7 false)):=by
 intro pins s σ H x y v u Q I rx ry h;obtain ⟨a,b,h,A,μ,k,R,ra,rb,q,c⟩:=h;unfold aB7 at q;split at q
 ·rename_i d xs ea eb;obtain ⟨as,z1⟩:=(aZ R ra ea).reads I (SeqAt.canLay_of_shaped q.2.1) rx;obtain ⟨bs,z2⟩:=(aZ R rb eb).reads I (SeqAt.canLay_of_shaped q.1) ry;exact SeqAt.in_list_reads z2 z1 (SeqAt.canLay_of_shaped q.1) (SeqAt.canLay_of_shaped q.2.1) (room_in_shaped q.2.1 (Room.units65 hr)) ⟨.bl _,H,I,rfl,c _ _ _ _ _ _ q.2.2 .refl R (by simpa using bB)⟩
 ·rename_i d xs ea eb;obtain ⟨as,z1⟩:=(aZ R ra ea).reads I (SeqAt.canLay_of_shaped q.2.1) rx;obtain ⟨bs,z2⟩:=(aZ R rb eb).reads I (SeqAt.canLay_of_shaped q.1) ry;exact SeqAt.in_tuple_reads z2 z1 (SeqAt.canLay_of_shaped q.1) (SeqAt.canLay_of_shaped q.2.1) (room_in_shaped q.2.1 (Room.units65 hr)) ⟨.bl _,H,I,rfl,c _ _ _ _ _ _ q.2.2 .refl R (by simpa using bB)⟩
 ·exact q.elim
def aB8 {n:Nat} (hr:Room n X.A):OpR X (compareOp .NotIn) (upR X.K (aB7 true)):=by
 intro pins s σ H x y v u Q I rx ry h;obtain ⟨a,b,h,A,μ,k,R,ra,rb,q,c⟩:=h;unfold aB7 at q;split at q
 ·rename_i d xs ea eb;obtain ⟨as,z1⟩:=(aZ R ra ea).reads I (SeqAt.canLay_of_shaped q.2.1) rx;obtain ⟨bs,z2⟩:=(aZ R rb eb).reads I (SeqAt.canLay_of_shaped q.1) ry;exact SeqAt.notIn_list_reads z2 z1 (SeqAt.canLay_of_shaped q.1) (SeqAt.canLay_of_shaped q.2.1) (room_in_shaped q.2.1 (Room.units65 hr)) ⟨.bl _,H,I,rfl,c _ _ _ _ _ _ q.2.2 .refl R (by simpa using bB)⟩
 ·rename_i d xs ea eb;obtain ⟨as,z1⟩:=(aZ R ra ea).reads I (SeqAt.canLay_of_shaped q.2.1) rx;obtain ⟨bs,z2⟩:=(aZ R rb eb).reads I (SeqAt.canLay_of_shaped q.1) ry;exact SeqAt.notIn_tuple_reads z2 z1 (SeqAt.canLay_of_shaped q.1) (SeqAt.canLay_of_shaped q.2.1) (room_in_shaped q.2.1 (Room.units65 hr)) ⟨.bl _,H,I,rfl,c _ _ _ _ _ _ q.2.2 .refl R (by simpa using bB)⟩
 ·exact q.elim
def jR (r r':D2) (ta tb tc:DTE):DTE:=fun δ h Q=>ta δ h fun x h1=>tb δ h1 fun y h2=>r x y h2 fun z h3=>match z with
 | .d (.bool k)=>if k=true then tc δ h3 fun u h4=>r' y u h4 Q else Q (.d (.bool false)) h3
 | _=>False
def tG {K:Frag} {r r':D2} {σ:L2.St} {H:Hp} {Q:VK} (q:up K (jR r r' ta tb tc) σ H Q):vK (upR K r) (upR K r') (up K ta) (up K tb) (up K tc) σ H Q:=by
 obtain ⟨δ,h,A,μ,k,R,q,c⟩:=q;refine ⟨δ,h,A,μ,_,R,q,fun u h1 v H1 A1 μ1 q1 x1 R1 r1=>?_⟩;refine ⟨δ,h1,A1,μ1,_,⟨R1,R.2.ext x1 R.1.sub⟩,q1,fun w h2 v2 H2 A2 μ2 q2 x2 R2 r2=>?_⟩;refine ⟨u,w,h2,A2,μ2,_,R2,r1.ext x2 R1.sub,r2,q2,fun z h3 v3 H3 A3 μ3 q3 x3 R3 r3=>?_⟩;have x13:=(x1.trans x2).trans x3;split at q3
 ·rename_i kk;refine ⟨kk,dZ r3,?_⟩;cases kk with
  | true =>
   rw [if_pos rfl] at q3 ⊢;refine ⟨δ,h3,A3,μ3,_,⟨R3,R.2.ext x13 R.1.sub⟩,q3,fun u4 h4 v4 H4 A4 μ4 q4 x4 R4 r4=>?_⟩;exact ⟨w,u4,h4,A4,μ4,k,R4,(r2.ext x3 R2.sub).ext x4 R3.sub,r4,q4,fun z h5 v5 H5 A5 μ5 q5 x5 R5 r5=>c z h5 v5 H5 A5 μ5 q5 ((x13.trans x4).trans x5) R5 r5⟩
  | false =>
   rw [if_neg Bool.false_ne_true] at q3 ⊢;exact c _ h3 _ H3 A3 μ3 q3 x13 R3 bB
 ·exact q3.elim
def aM0 {op op':CmpOp} {r r':D2} (ho:OpR X (compareOp op) (upR X.K r)) (ho':OpR X (compareOp op') (upR X.K r')) (ha:DE X a ta) (hb:DE X b tb) (hc:DE X c tc)
  (hm:autoParam (lastMarks [op,op'] [b,c]=false) ZW):DE X (.Compare a [op,op'] [b,c] pos) (jR r r' ta tb tc):=aF (aI4 ho ho' ha hb hc hm) fun _ _ _ q=>tG q
def aM1 {op op':CmpOp} {r r':D2} (ho:OpR X (compareOp op) (upR X.K r)) (ho':OpR X (compareOp op') (upR X.K r')) (ha:DE X a ta) (hb:DE X b tb) (hc:DE X c tc)
  (hm:autoParam (lastMarks [op,op'] [b,c]=false) ZW):DT X (.Compare a [op,op'] [b,c] pos) (dB (jR r r' ta tb tc)):=gY (aI5 ho ho' ha hb hc hm) fun σ H Q q=>by
  obtain ⟨δ,h,A,μ,k,R,q1,c⟩:=lE q;exact tG ⟨δ,h,A,μ,k,R,q1,c⟩
def dI6 (ta:DTE):DTE:=fun δ h Q=>ta δ h fun w h1=>match w with
 | .d (.int i)=>Q (.d (.int (-i))) h1
 | _=>False
def cB1 (ha:DE X a ta):DE X (.UnaryOp .USub a pos) (dI6 ta):=aF (cN9 bT9 ha) fun σ H Q q=>by
 obtain ⟨δ,h,A,μ,k,R,q,c⟩:=q;refine ⟨δ,h,A,μ,_,R,q,fun w h1 v H1 A1 μ1 q1 x1 R1 r1=>?_⟩;split at q1
 ·exact ⟨_,bL r1,c _ h1 _ H1 A1 μ1 q1 x1 R1 lZ⟩
 ·exact q1.elim
noncomputable def cR0:D2
 | .d (.int i),.d (.int j),h,Q=>0<=j/\Q (.d (.int (i / 2^j.toNat))) h
 | _,_,_,_=>False
noncomputable def bO2:D2
 | .d (.int i),.d (.int j),h,Q=>Q (.d (.int (Builtin.bitAnd i j))) h
 | _,_,_,_=>False
def bD3:OpR X (binaryOp .RShift) (upR X.K cR0):=eJ (f:=fun i j=>.int (i / 2^j.toNat)) bT7 (fun _ _ _ _=>iX) fun u w h k q=>by
 unfold cR0 at q;split at q
 ·exact ⟨_,_,rfl,rfl,q.1,q.2⟩
 ·exact q.elim
def aM2:OpR X (binaryOp .BitAnd) (upR X.K bO2):=eJ (f:=fun i j=>.int (Builtin.bitAnd i j)) (OpR.i0 bT8) (fun _ _ _ _=>iX) fun u w h k q=>by
 unfold bO2 at q;split at q
 ·exact ⟨_,_,rfl,rfl,trivial,q⟩
 ·exact q.elim
end
noncomputable def oIs:Option Str->Value->Bool
 | some x,v=>Value.isStrOf x v
 | none,.none=>true
 | none,_=>false
def oIs_shape {k:Option Str} {v:Value} (h:oIs k v=true):(∃ x t,k=some x/\v=.str x t)\/(k=none/\v=.none):=by
 cases k with
 | some x =>
  obtain ⟨t,e⟩:=Value.isStrOf_shape (x:=x) (v:=v) h;exact .inl ⟨x,t,rfl,e⟩
 | none=>cases v<;>first | exact .inr ⟨rfl,rfl⟩ | cases h
def qR (x:Str) (t:Tok):oIs (some x) (.str x t)=true:=by simp [oIs,Value.isStrOf]
noncomputable def cR1 (w:World):Option Str->Int
 | some x=>hashStr w x
 | none=>reduceHash 0xFCA86420
noncomputable def cR2 (prog:Program) (w:World):PySem.KeyKind prog w (Option Str) where
 is:=oIs
 hash:=cR1 w
 inj:=fun v a b ha hb=>by
  rcases oIs_shape ha with ⟨x,t,rfl,rfl⟩ | ⟨rfl,rfl⟩
  ·rcases oIs_shape hb with ⟨y,u,rfl,e⟩ | ⟨rfl,e⟩
   ·injection e with e1 _;rw [e1]
   ·exact nomatch e
  ·rcases oIs_shape hb with ⟨y,u,rfl,e⟩ | ⟨rfl,e⟩
   ·exact nomatch e
   ·rfl
 byValue:=fun k v h=>by
  rcases oIs_shape h with ⟨x,t,rfl,rfl⟩ | ⟨rfl,rfl⟩<;>rfl
 pyHash:=fun {A E s k v Q} hv h=>by
  rcases oIs_shape hv with ⟨x,t,rfl,rfl⟩ | ⟨rfl,rfl⟩
  ·exact wpAny_pyHash_str h
  ·exact PySem.W.pyHash_slot (T:="NoneType") rfl PySem.F.slot_NoneType_hash PySem.F.entry_NoneType_hash (PySem.F.args_NoneType_hash_1 _) (by decide) (.inl rfl) (wpAny_bind (wpAny_pure (wpAny_bind (wpAny_mkInt (wpAny_pure ⟨_,_,rfl,h⟩)))))
 eqBool:=fun {A E s a b u v Q} hu hv h=>by
  rcases oIs_shape hu with ⟨x,t,rfl,rfl⟩ | ⟨rfl,rfl⟩
  ·rcases oIs_shape hv with ⟨y,u,rfl,rfl⟩ | ⟨rfl,rfl⟩
   ·refine wpAny_eqBool_str ?_;have e:decide (some x=some y)=decide (x=y):=by simp
    rwa [e] at h
   ·exact SeqAt.EqAt.str_none x t _ _ _ _ (by simpa using h)
  ·rcases oIs_shape hv with ⟨y,u,rfl,rfl⟩ | ⟨rfl,rfl⟩
   ·exact SeqAt.EqAt.none_str y u _ _ _ _ (by simpa using h)
   ·exact SeqAt.EqAt.same _ _ _ _ _ (by simpa using h)
 «strs»:=fun k x t v h=>by
  rcases oIs_shape h with ⟨y,u,rfl,e⟩ | ⟨rfl,e⟩
  ·injection e with e1 _
   subst e1;cases v<;>rfl
  ·exact nomatch e
structure TabK (w:World) (K:Frag) (p:Addr) (f:Str->Option Int):Prop where
 lk:∃ es n,K.lookup p=some ⟨.type "dict",none,.dict es n,#[]⟩/\PySem.W.KeysLit w.params es.toList/\(∀ x i,f x=some i->∃ t,findBy Value.isStrOf es x=some (.int i t))/\∀ x,f x=none->findBy Value.isStrOf es x=none
 sm:(p==sysModules)=false
def TabK.map {w:World} {K:Frag} {p:Addr} {f:Str->Option Int} {prog:Program} {h:Heap} (T:TabK w K p f) (X:K.In h):∃ g:Option Str->Option Value,h.MapOf (cR2 prog w) p g/\g none=none/\(∀ x i,f x=some i->∃ t,g (some x)=some (.int i t))/\∀ x,f x=none->g (some x)=none:=by
 obtain ⟨es,n,l,hk,h1,h2⟩:=T.lk;refine ⟨fun k=>findBy oIs es k,⟨_,es,n,X _ _ l,⟨rfl,rfl,rfl⟩,rfl,fun e he=>?_,fun _=>rfl⟩,?_,h1,h2⟩
 ·obtain ⟨x,t,e1,e2⟩:=hk.all e (Array.mem_toList_iff.mpr he);exact ⟨some x,by rw [e1];exact qR x t,e2⟩
 ·unfold findBy;have e:es.find? (fun e=>oIs none e.key)=none:=by
   rw [Array.find?_eq_none];intro e he;obtain ⟨x,t,e1,_⟩:=hk.all e (Array.mem_toList_iff.mpr he);rw [e1];exact Bool.false_ne_true
  show Option.map _ (es.find? fun e=>oIs none e.key)=none;rw [e];rfl
section
variable {X:Cx} {a b c d e:Expr} {ta tb tc td:DTE} {pos:Pos}
def oQ {p:Addr} {f:Str->Option Int} (T:TabK X.w X.K p f):OpR X (compareOp .NotIn) (fun x y H Q=>y=.ref p/\((∃ s,x=.str s/\Q (.bl (!(f s).isSome)) H)\/(x=.non/\Q (.bl true) H))):=by
 intro pins s σ H x y v u Q I rx ry h;obtain ⟨rfl,h⟩:=h;cases ry;obtain ⟨g,m,g0,g1,g2⟩:=T.map (prog:=X.prog) I.kIn;rcases h with ⟨z,rfl,q⟩ | ⟨rfl,q⟩
 ·obtain ⟨t,rfl⟩:=rx;refine wpAny_notIn_of (k:=some z) (qR z t) T.sm m ⟨.bl _,H,I.tok _,?_,q⟩;cases e:f z with
  | none=>rw [g2 z e];rfl
  | some i=>obtain ⟨t',e'⟩:=g1 z i e;rw [e'];rfl
 ·cases rx;exact wpAny_notIn_of (k:=none) rfl T.sm m ⟨.bl _,H,I.tok _,by rw [g0];rfl,q⟩
def dI7 {p:Addr} {f:Str->Option Int} (T:TabK X.w X.K p f):IxR X (fun x y H Q=>x=.ref p/\∃ s i,y=.str s/\f s=some i/\Q (.int i) H):=by
 intro value slice pins s σ H x y v u Q I rx ry h hs;obtain ⟨rfl,z,i,rfl,e,q⟩:=h;cases rx;obtain ⟨t,rfl⟩:=ry;obtain ⟨g,m,g0,g1,g2⟩:=T.map (prog:=X.prog) I.kIn;obtain ⟨t',e'⟩:=g1 z i e;exact tail_any m.typeIs slot_dict_getitem.lookup (wpAny_getItem_of (k:=some z) (qR z t) m e' ⟨.int i,H,I.tok _,⟨t',rfl⟩,q⟩) hs
def qS (f:Str->Option Int) (ta:DTE):DTE:=fun δ h Q=>ta δ h fun w h1=>match w with
 | .d (.str s)=>Q (.d (.bool (!(f s).isSome))) h1
 | .d .none=>Q (.d (.bool true)) h1
 | _=>False
def tH {K:Frag} {A μ:List Addr} {H:Hp} {x:Str} {v:V} (r:RepW K A μ H (.d (.str x)) v):v=.str x:=by
 have z:Rep K A H (.str x) v:=r;rw [Rep] at z;exact z.1
def aM3 {K:Frag} {A μ:List Addr} {H:Hp} {v:V} (r:RepW K A μ H (.d .none) v):v=.non:=by
 have z:Rep K A H .none v:=r;rw [Rep] at z;exact z
def oR {p:Addr} {f:Str->Option Int} {σ:L2.St} {H:Hp} {Q:VK} (q:up X.K (qS f ta) σ H Q) :
  tOp (fun x y H Q=>y=.ref p/\((∃ s,x=.str s/\Q (.bl (!(f s).isSome)) H)\/(x=.non/\Q (.bl true) H))) (up X.K ta) (tC (.ref p)) σ H Q:=by
 obtain ⟨δ,h,A,μ,k,R,q,c⟩:=q;refine ⟨δ,h,A,μ,_,R,q,fun w h1 v H1 A1 μ1 q1 x1 R1 r1=>?_⟩;show _/\_;refine ⟨rfl,?_⟩;split at q1
 ·exact .inl ⟨_,tH r1,c _ h1 _ H1 A1 μ1 q1 x1 R1 bB⟩
 ·exact .inr ⟨aM3 r1,c _ h1 _ H1 A1 μ1 q1 x1 R1 bB⟩
 ·exact q1.elim
def aB9 {p:Addr} {f:Str->Option Int} {x:Str} {pos':Pos} (T:TabK X.w X.K p f) (hm:X.mg x=some (.ref p)) (ha:DE X a ta) (hg:autoParam (Gl X x) ZR) (hd:autoParam ((x==("__debug__":Str))=false) ZD) (hb:autoParam (behindInMarks .NotIn (.Name x pos')=false) ZR) :
  DE X (.Compare a [.NotIn] [.Name x pos'] pos) (qS f ta):=aF (xL (oQ T) ha (lD (v:=.ref p) hg hm rfl hd) hb) fun _ _ _ q=>oR q
def aC0 {p:Addr} {f:Str->Option Int} {x:Str} {pos':Pos} (T:TabK X.w X.K p f) (hm:X.mg x=some (.ref p)) (ha:DE X a ta) (hg:autoParam (Gl X x) ZR) (hd:autoParam ((x==("__debug__":Str))=false) ZD) (hb:autoParam (behindInMarks .NotIn (.Name x pos')=false) ZR) :
  DT X (.Compare a [.NotIn] [.Name x pos'] pos) (dB (qS f ta)):=gY (xM (oQ T) ha (lD (v:=.ref p) hg hm rfl hd) hb) fun σ H Q q=>by
  obtain ⟨δ,h,A,μ,k,R,q1,c⟩:=lE q;exact oR ⟨δ,h,A,μ,k,R,q1,c⟩
def dI8 (f:Str->Option Int) (ta:DTE):DTE:=fun δ h Q=>ta δ h fun w h1=>match w with
 | .d (.str s)=>(match f s with
  | some i=>Q (.d (.int i)) h1
  | none=>False)
 | _=>False
def cB2 {p:Addr} {f:Str->Option Int} {x:Str} {pos':Pos} (T:TabK X.w X.K p f) (hm:X.mg x=some (.ref p)) (ha:DE X a ta) (hg:autoParam (Gl X x) ZR) (hd:autoParam ((x==("__debug__":Str))=false) ZD) (hs:iT a:=by intro _ _;rfl) :
  DE X (.Subscript (.Name x pos') a pos) (dI8 f ta):=aF (aJ4 (dI7 T) (lD (v:=.ref p) hg hm rfl hd) ha hs) fun σ H Q q=>by
 obtain ⟨δ,h,A,μ,k,R,q,c⟩:=q;show up X.K ta σ H _;refine ⟨δ,h,A,μ,_,R,q,fun w h1 v H1 A1 μ1 q1 x1 R1 r1=>?_⟩;refine ⟨rfl,?_⟩;split at q1
 ·split at q1
  ·rename_i e;exact ⟨_,_,tH r1,e,c _ h1 _ H1 A1 μ1 q1 x1 R1 lZ⟩
  ·exact q1.elim
 ·exact q1.elim
def lK (r r' r'':D2) (ta tb tc td:DTE):DTE:=fun δ h Q=>ta δ h fun x h1=>tb δ h1 fun y h2=>r x y h2 fun z h3=>match z with
 | .d (.bool k)=>if k=true then tc δ h3 fun u h4=>r' y u h4 fun z' h5=>(match z' with
   | .d (.bool k')=>if k'=true then td δ h5 fun u' h6=>r'' u u' h6 Q else Q (.d (.bool false)) h5
   | _=>False) else Q (.d (.bool false)) h3
 | _=>False
def bD4 (r r' r'':R2) (ta tb tc td:TE):TE:=fun σ H Q=>ta σ H fun x H1=>tb σ H1 fun y H2=>r x y H2 fun z H3=>∃ k,z=.bl k /\
 (if k=true then tc σ H3 fun u H4=>r' y u H4 fun z' H5=>∃ k',z'=.bl k'/\(if k'=true then td σ H5 fun u' H6=>r'' u u' H6 Q else Q (.bl false) H5) else Q (.bl false) H3)
def aC1 {ta tb tc td:TE} {op op' op'':CmpOp} {r r' r'':R2} (ho:OpR X (compareOp op) r) (ho':OpR X (compareOp op') r') (ho'':OpR X (compareOp op'') r'') (ha:PE X a ta) (hb:PE X b tb) (hc:PE X c tc) (hd:PE X d td)
  (hm:autoParam (lastMarks [op,op',op''] [b,c,d]=false) ZW):PE X (.Compare a [op,op',op''] [b,c,d] pos) (bD4 r r' r'' ta tb tc td):=by
 intro pins s σ H Q I h;refine Compare_chain (thn (ha pins s σ H _ I h) fun v s1 ⟨x,H1,I1,r1,q1⟩=>chain_link (thn (hb pins s1 σ H1 _ I1 q1) fun u s2 ⟨y,H2,I2,r2,q2⟩ =>
  thn (ho pins s2 σ H2 x y v u _ I2 r1 r2 q2) fun d' s3 ⟨z,H3,I3,r3,k,e,q3⟩=>?_)) hm
 subst e;cases r3;refine wpAny_truthy_bool ?_;cases k with
 | false=>exact ite_ff ⟨.bl false,H3,I3,rfl,q3⟩
 | true =>
  refine ite_tt (chain_link (thn (hc pins s3 σ H3 _ I3 q3) fun w' s4 ⟨z',H4,I4,r4,q4⟩=>thn (ho' pins s4 σ H4 y z' u w' _ I4 r2 r4 q4) fun d2 s5 ⟨z2,H5,I5,r5,k2,e2,q5⟩=>?_));subst e2;cases r5;refine wpAny_truthy_bool ?_;cases k2 with
  | false=>exact ite_ff ⟨.bl false,H5,I5,rfl,q5⟩
  | true=>exact ite_tt (chain_last (thn (hd pins s5 σ H5 _ I5 q5) fun w6 s6 ⟨z6,H6,I6,r6,q6⟩=>ho'' pins s6 σ H6 z' z6 w' w6 Q I6 r4 r6 q6))
def aC2 {op op' op'':CmpOp} {r r' r'':D2} (ho:OpR X (compareOp op) (upR X.K r)) (ho':OpR X (compareOp op') (upR X.K r')) (ho'':OpR X (compareOp op'') (upR X.K r'')) (ha:DE X a ta) (hb:DE X b tb) (hc:DE X c tc) (hd:DE X d td)
  (hm:autoParam (lastMarks [op,op',op''] [b,c,d]=false) ZW):DE X (.Compare a [op,op',op''] [b,c,d] pos) (lK r r' r'' ta tb tc td):=aF (aC1 ho ho' ho'' ha hb hc hd hm) fun σ H Q q=>by
 obtain ⟨δ,h,A,μ,k,R,q,c⟩:=q;refine ⟨δ,h,A,μ,_,R,q,fun u h1 v H1 A1 μ1 q1 x1 R1 r1=>?_⟩;refine ⟨δ,h1,A1,μ1,_,⟨R1,R.2.ext x1 R.1.sub⟩,q1,fun w h2 v2 H2 A2 μ2 q2 x2 R2 r2=>?_⟩;refine ⟨u,w,h2,A2,μ2,_,R2,r1.ext x2 R1.sub,r2,q2,fun z h3 v3 H3 A3 μ3 q3 x3 R3 r3=>?_⟩;have x13:=(x1.trans x2).trans x3;split at q3
 ·rename_i kk;refine ⟨kk,dZ r3,?_⟩;cases kk with
  | true =>
   rw [if_pos rfl] at q3 ⊢;refine ⟨δ,h3,A3,μ3,_,⟨R3,R.2.ext x13 R.1.sub⟩,q3,fun u4 h4 v4 H4 A4 μ4 q4 x4 R4 r4=>?_⟩;refine ⟨w,u4,h4,A4,μ4,_,R4,(r2.ext x3 R2.sub).ext x4 R3.sub,r4,q4,fun z h5 v5 H5 A5 μ5 q5 x5 R5 r5=>?_⟩;have x15:=(x13.trans x4).trans x5;split at q5
   ·rename_i k5;refine ⟨k5,dZ r5,?_⟩;cases k5 with
    | true =>
     rw [if_pos rfl] at q5 ⊢;refine ⟨δ,h5,A5,μ5,_,⟨R5,R.2.ext x15 R.1.sub⟩,q5,fun u6 h6 v6 H6 A6 μ6 q6 x6 R6 r6=>?_⟩;exact ⟨u4,u6,h6,A6,μ6,k,R6,(r4.ext x5 R4.sub).ext x6 R5.sub,r6,q6,fun z h7 v7 H7 A7 μ7 q7 x7 R7 r7=>c z h7 v7 H7 A7 μ7 q7 ((x15.trans x6).trans x7) R7 r7⟩
    | false =>
     rw [if_neg Bool.false_ne_true] at q5 ⊢;exact c _ h5 _ H5 A5 μ5 q5 x15 R5 bB
   ·exact q5.elim
  | false =>
   rw [if_neg Bool.false_ne_true] at q3 ⊢;exact c _ h3 _ H3 A3 μ3 q3 x13 R3 bB
 ·exact q3.elim
end
end DL
namespace SJ
open PySem
mutual
noncomputable def sok:PyData->Bool
 | .str x=>PyData.strOk x
 | .list xs=>decide (xs.length<=1000)&&soks xs
 | .tuple xs=>decide (xs.length<=1000)&&soks xs
 | _=>true
noncomputable def soks:List PyData->Bool
 | []=>true
 | x::r=>sok x&&soks r
end
def oS {x:PyData} {xs:List PyData}:soks (x::xs)=true ↔ sok x=true/\soks xs=true:=by rw [soks,Bool.and_eq_true]
noncomputable def gJ:PyData->Bool
 | .int _=>true
 | _=>false
noncomputable def bW (x:PyData) (lo hi:Int):Bool:=match x with
 | .int i=>decide (lo<=i)&&decide (i<=hi)
 | _=>false
noncomputable def jA (x:PyData):Bool:=bW x 0 7
noncomputable def iD:PyData->Int->Bool
 | .tuple xs,n=>decide ((xs.length:Int)=n)
 | _,_=>false
noncomputable def fT:PyData->PyData
 | .tuple (.str s::_)=>.str s
 | _=>.none
noncomputable def aG (x:PyData) (s:Str) (n:Int):Bool:=match x with
 | .tuple (.str t::r)=>(t==s)&&decide ((r.length:Int)+1=n)
 | _=>false
noncomputable def nb (s:Str):Option Int:=if s=Str.ofString "read" then some 0 else if s=Str.ofString "write" then some 1 else if s=Str.ofString "add" then some 1 else if s=Str.ofString "swap" then some 2 else none
noncomputable def bM:PyData->Bool
 | .tuple (.str s::r)=>match nb s with
  | some n=>(decide ((r.length:Int)+1=2+n))&&(match r with
   | k::vs=>jA k&&vs.all gJ
   | []=>false)
  | none=>false
 | _=>false
noncomputable def eX:PyData->Bool
 | .tuple [.str s,.int a,.int b]=>(s==Str.ofString "span")&&decide (0<=a)&&decide (a < b)&&decide (b<=8)
 | _=>false
noncomputable def eO:PyData->Bool
 | .tuple [.str s,.tuple ps]=>(s==Str.ofString "deal")&&decide (1<=ps.length)&&decide (ps.length<=4)&&ps.all bM
 | _=>false
noncomputable def cI (x:PyData):Bool:=bM x||eX x||eO x
noncomputable def iL:PyData->Bool
 | .tuple [.str s,c]=>(s==Str.ofString "look")&&cI c
 | _=>false
noncomputable def dN:PyData->Bool
 | .tuple [k,v]=>jA k&&gJ v
 | _=>false
noncomputable def qT:PyData->Int
 | .int i=>i
 | _=>0
noncomputable def oT:PyData->PyData
 | .tuple (k::_)=>k
 | _=>.none
noncomputable def bD5 (ns:List Int):Bool:=(List.range (ns.length - 1)).all fun k=>decide (ns.getD k 0 < ns.getD (k+1) 0)
noncomputable def kK:PyData->Bool
 | .tuple [.str s,.tuple ps]=>(s==Str.ofString "lay")&&!ps.isEmpty&&ps.all dN&&bD5 (ps.map fun p=>qT (oT p))
 | _=>false
noncomputable def eY (x:PyData):Bool:=cI x||iL x||kK x
end SJ
namespace SJ
open PySem PySem.Spec PyProof.Rows L2 DL
structure Bad (x:PyData):Prop where
 so:sok x=true
 si:bM x=false
 ca:cI x=false
 st:eY x=false
def bD6:nb "read"=some 0:=by decide +kernel
def aM4:nb "write"=some 1:=by decide +kernel
def cB3:nb "add"=some 1:=by decide +kernel
def bD7:nb "swap"=some 2:=by decide +kernel
def bD8:nb "look"=none:=by decide +kernel
def cB4:nb "lay"=none:=by decide +kernel
def bD9:PyData.strOk "read"=true:=by decide +kernel
def aM5:PyData.strOk "write"=true:=by decide +kernel
def cB5:PyData.strOk "add"=true:=by decide +kernel
def bE0:PyData.strOk "swap"=true:=by decide +kernel
def bE1:PyData.strOk "span"=true:=by decide +kernel
def bE2:PyData.strOk "deal"=true:=by decide +kernel
def bE3:PyData.strOk "look"=true:=by decide +kernel
def cB6:PyData.strOk "lay"=true:=by decide +kernel
def aM6 {k:Nat} (h:k < 8):jA (.int k)=true:=by
 simp [jA,bW];omega
def mE {o:One} (h:o.ok):bM o.dat=true/\sok o.dat=true:=by
 have h':o.key < 8:=h;cases o<;>simp [One.key] at h'<;>simp [One.dat,bM,bD6,aM4,cB3,bD7,aM6 h',gJ,sok,soks,bD9,aM5,cB5,bE0]
theorem tI:∀ {cs:List One},(∀ c∈cs,c.ok)->(cs.map One.dat).all bM=true/\soks (cs.map One.dat)=true
 | [],_=>⟨rfl,rfl⟩
 | c::r,h=>by
  obtain ⟨h1,h2⟩:=mE (h c List.mem_cons_self);obtain ⟨h3,h4⟩:=tI fun z hz=>h z (List.mem_cons_of_mem _ hz);rw [List.map_cons,List.all_cons,h1,h3,oS];exact ⟨rfl,h2,h4⟩
def fH {o:SJ.Call} (h:o.ok):cI o.dat=true/\eY o.dat=true/\sok o.dat=true:=by
 have hc:cI o.dat=true/\sok o.dat=true:=by
  cases o with
  | one c =>
   obtain ⟨h1,h2⟩:=mE (o:=c) h;exact ⟨by simp [cI,Call.dat,h1],h2⟩
  | span lo hi =>
   obtain ⟨h1,h2⟩:=h;refine ⟨?_,by simp [Call.dat,sok,soks,bE1]⟩;have e1:(0:Int)<=lo:=by omega
   have e2:(lo:Int) < hi:=by omega
   have e3:(hi:Int)<=8:=by omega
   simp [cI,Call.dat,eX,e2,e3]
  | deal cs =>
   obtain ⟨h1,h2,h3⟩:=h;obtain ⟨h4,h5⟩:=tI h3;refine ⟨?_,by simp [Call.dat,sok,soks,bE2,h5];omega⟩;simp only [cI,Call.dat,eO,h4,List.length_map];simp [h1,h2]
 exact ⟨hc.1,by simp [eY,hc.1],hc.2⟩
def hU {o:SJ.Call} (h:o.ok):cI (.tuple [.str "look",o.dat])=false/\eY (.tuple [.str "look",o.dat])=true/\sok (.tuple [.str "look",o.dat])=true:=by
 obtain ⟨h1,h2,h3⟩:=fH h;have hs:eX (.tuple [.str "look",o.dat])=false:=by
  unfold eX;split
  ·simp_all
  ·rfl
 have hd:eO (.tuple [.str "look",o.dat])=false:=by
  unfold eO;split
  ·rename_i e;injection e with e
   injection e with e1 e2
   injection e1 with e1
   subst e1;simp
  ·rfl
 have hi:bM (.tuple [.str "look",o.dat])=false:=by simp [bM,bD8]
 have hc:cI (.tuple [.str "look",o.dat])=false:=by simp [cI,hs,hd,hi]
 refine ⟨hc,?_,by simp [sok,soks,bE3,h3]⟩;simp only [eY,hc,iL,h1];simp
noncomputable def prP (p:Nat×Int):PyData:=.tuple [.int p.1,.int p.2]
theorem jS:∀ {ps:List (Nat×Int)},(∀ p∈ps,p.1 < 8)->(ps.map prP).all dN=true/\soks (ps.map prP)=true/\((ps.map prP).map fun p=>qT (oT p))=ps.map fun p=>(p.1:Int)
 | [],_=>⟨rfl,rfl,rfl⟩
 | p::r,h=>by
  obtain ⟨h3,h4,h5⟩:=jS fun z hz=>h z (List.mem_cons_of_mem _ hz);have hk:=aM6 (h p List.mem_cons_self);rw [List.map_cons,List.all_cons,h3,oS,List.map_cons,h5];refine ⟨by simp [prP,dN,hk,gJ],⟨by simp [prP,sok,soks],h4⟩,?_⟩;rfl
def xX {ks:List Nat} (h:ks.Pairwise (· < ·)):bD5 (ks.map fun (k:Nat)=>(k:Int))=true:=by
 unfold bD5;rw [List.all_eq_true];intro i hi;have hi':i+1 < ks.length:=by
  have:=List.mem_range.mp hi;simp at this;omega
 have:=List.pairwise_iff_getElem.mp h i (i+1) (by omega) hi' (by omega);simp [List.getD,hi',show i < ks.length by omega];omega
def aM7 {ps:List (Nat×Int)} (h0:ps≠[]) (h1:(ps.map (·.1)).Pairwise (· < ·)) (h2:∀ p∈ps,p.1 < 8) (h3:ps.length<=8) :
  cI (.tuple [.str "lay",.tuple (ps.map prP)])=false/\eY (.tuple [.str "lay",.tuple (ps.map prP)])=true/\sok (.tuple [.str "lay",.tuple (ps.map prP)])=true:=by
 obtain ⟨q1,q2,q3⟩:=jS h2;have hd:eO (.tuple [.str "lay",.tuple (ps.map prP)])=false:=by
  unfold eO;simp
 have hc:cI (.tuple [.str "lay",.tuple (ps.map prP)])=false:=by simp [cI,hd,bM,cB4,eX]
 refine ⟨hc,?_,by simp [sok,soks,cB6,q2];omega⟩;have hr:=xX h1;rw [List.map_map] at hr;have he:(ps.map prP).isEmpty=false:=by simpa using h0
 simp only [eY,hc,kK,q1,q3,he];have e:(List.map (fun p:Nat×Int=>(p.1:Int)) ps)=List.map ((fun k:Nat=>(k:Int)) ∘ fun x=>x.1) ps:=rfl;rw [e,hr];simp
end SJ
namespace SJ
open PySem
set_option genInjectivity true in
inductive An1 where
 | got (v:Int) | dn | yes | no
noncomputable def An1.dat:An1->PyData
 | .got v=>.tuple [.str "got",.int v]
 | .dn=>.tuple [.str "done"]
 | .yes=>.tuple [.str "yes"]
 | .no=>.tuple [.str "no"]
noncomputable def An1.fits:One->An1->Prop
 | .read _,.got _=>True
 | .add _ _,.got _=>True
 | .write _ _,.dn=>True
 | .swap _ _ _,.yes=>True
 | .swap _ _ _,.no=>True
 | _,_=>False
set_option genInjectivity true in
inductive Ans where
 | one (a:An1) | all (ns:List Int) | each (as:List An1)
noncomputable def Ans.dat:Ans->PyData
 | .one a=>a.dat
 | .all ns=>.tuple [.str "all",.tuple (ns.map .int)]
 | .each as=>.tuple [.str "each",.tuple (as.map An1.dat)]
set_option genInjectivity true in
inductive Fit2:List One->List An1->Prop
 | nil:Fit2 [] []
 | cons {o:One} {a:An1} {os:List One} {as:List An1} (h:An1.fits o a) (t:Fit2 os as):Fit2 (o::os) (a::as)
noncomputable def Ans.fits:Call->Ans->Prop
 | .one o,.one a=>An1.fits o a
 | .span lo hi,.all ns=>ns.length=hi - lo
 | .deal cs,.each as=>Fit2 cs as
 | _,_=>False
noncomputable def cO (o:One) (t:PyData):Bool:=match o with
 | .read _=>(match t with
  | .tuple [.str s,v]=>(s==Str.ofString "got")&&gJ v
  | _=>false)
 | .add _ _=>(match t with
  | .tuple [.str s,v]=>(s==Str.ofString "got")&&gJ v
  | _=>false)
 | .write _ _=>aG t "done" 1
 | .swap _ _ _=>aG t "yes" 1||aG t "no" 1
noncomputable def eU:List One->List PyData->Bool
 | o::os,t::ts=>cO o t&&eU os ts
 | _,_=>true
noncomputable def bQ (c:Call) (t:PyData):Bool:=match c with
 | .one o=>cO o t
 | .span lo hi=>(match t with
  | .tuple [.str s,.tuple xs]=>(s==Str.ofString "all")&&decide ((xs.length:Int)=(hi:Int) - lo)&&xs.all gJ
  | _=>false)
 | .deal cs=>(match t with
  | .tuple [.str s,.tuple xs]=>(s==Str.ofString "each")&&decide (xs.length=cs.length)&&eU cs xs
  | _=>false)
theorem Fit2.length:∀ {os:List One} {as:List An1},Fit2 os as->as.length=os.length
 | _,_,.nil=>rfl
 | _,_,.cons _ t=>by simp [t.length]
def tJ {o:One} {a:An1} (h:An1.fits o a):cO o a.dat=true:=by
 cases o<;>cases a<;>simp [An1.fits] at h<;>simp [cO,An1.dat,gJ,aG]
theorem oU:∀ {os:List One} {as:List An1},Fit2 os as->eU os (as.map An1.dat)=true
 | _,_,.nil=>rfl
 | _,_,.cons h t=>by simp [eU,tJ h,oU t]
def aC3 {c:Call} {a:Ans} (h:Ans.fits c a) (hc:c.ok):bQ c a.dat=true:=by
 cases c<;>cases a<;>simp only [Ans.fits] at h<;>first | exact h.elim | skip
 ·exact tJ h
 ·rename_i lo hi ns;have:=hc.1;simp [bQ,Ans.dat,h,gJ];omega
 ·rename_i cs as;simp [bQ,Ans.dat,oU h,h.length]
end SJ
namespace DL
open PySem PySem.Spec PyProof.Rows L2
section
variable {X:Cx} {a b c d e:Expr} {ta tb tc td te:DTE} {tl th:DTO} {pos:Pos}
def tK:PE X (.Dict [] [] pos) (fun _ H Q=>∀ p,H p=none->Q (.ref p) (upd H p (.dK []))):=by
 intro pins s σ H Q I q;refine wpAny_Dict_empty ?_;have hn:(s.heap.objs.size==sysModules)=false:=by
  have h:mainGlobals < s.heap.objs.size:=(I.mod.glob.keeps I.bk).lt;have:sysModules < s.heap.objs.size:=Nat.lt_trans (by decide) h;exact beq_eq_false_iff_ne.mpr (Nat.ne_of_gt this)
 refine ⟨.ref s.heap.objs.size,_,I.laid (t':=s.toks) (o:=.dK []) (fun b ob q=>Heap.get?_push_of_some _ q) (Nat.le_refl _) ?_,rfl,q _ (I.hok.fresh (Nat.le_refl _))⟩;exact ⟨Nat.zero_le _,hn,[],.nil,Heap.DictOf.new s.heap⟩
def aM8:DE X (.Dict [] [] pos) (dC (.dict [])):=aF tK fun σ H Q q=>by
 obtain ⟨δ,h,A,μ,k,R,q,c⟩:=q;intro p hp;refine c _ h _ _ A μ q (bD hp) (R.1.fresh hp) ?_;show Rep _ _ _ _ _;rw [Rep];exact ⟨p,[],rfl,⟨R.1.notA hp,.inl aS⟩,by rw [RepKs]⟩
theorem tL {K:Frag} {A:List Addr} {H:Hp} {xs:List PyData} {vs:List V} (r:Reps K A H xs vs):∀ n:Nat,Reps K A H (List.replicate n xs).flatten (List.replicate n vs).flatten
 | 0=>.nil
 | n+1=>by
  rw [List.replicate_succ,List.replicate_succ,List.flatten_cons,List.flatten_cons];exact (tL r n).append r
def cR3 (ta tb:DTE):DTF:=fun δ h Q=>ta δ h fun u h1=>tb δ h1 fun w h2=>match u,w with
 | .c i,.d (.int k)=>(match h2[i]? with
  | some (.l xs)=>(-(2^63)<=k/\k < 2^63/\xs.length*k.toNat<=sizeLine)/\Q (List.replicate k.toNat xs).flatten h2
  | _=>False)
 | _,_=>False
def cB7 (ha:DE X a ta) (hb:DE X b tb):DF X (.BinOp a .Mult b pos) (cR3 ta tb):=aF (aI3 bU8 ha hb) fun σ H Q q=>by
 obtain ⟨δ,h,A,μ,k,R,q,c⟩:=q;refine ⟨δ,h,A,μ,_,R,q,fun u h1 v H1 A1 μ1 q1 x1 R1 r1=>?_⟩;refine ⟨δ,h1,A1,μ1,_,⟨R1,R.2.ext x1 R.1.sub⟩,q1,fun w h2 v2 H2 A2 μ2 q2 x2 R2 r2=>?_⟩;split at q2
 ·rename_i i n;split at q2
  ·rename_i xs ex;obtain ⟨p,ep,rfl⟩:=r1.ext x2 R1.sub;obtain ⟨vs,hv,rr⟩:=R2.val i p xs ep ex;obtain ⟨⟨n1,n2,n3⟩,q2⟩:=q2;refine ⟨p,n,vs,rfl,bL r2,hv,n1,n2,by rw [rr.length];exact n3,fun l hl=>?_⟩;have x12:=x1.trans x2;obtain ⟨ν,e1,_⟩:=x12.pre;exact c _ _ _ _ _ _ q2 (x12.trans (cC hl)) ⟨ν,e1⟩ (x12.back hl) (cY R2 hl (tL rr _))
  ·exact q2.elim
 ·exact q2.elim
end
section
variable {X:Cx} {a b c d e:Expr} {ta tb tc td te:DTE} {pos:Pos}
end
section
variable {X:Cx} {a b c d e:Expr} {ta tb tc td te:DTE} {pos:Pos}
end
section
variable {X:Cx} {a b:Expr} {ta tb:DTE} {pos:Pos}
def cR4 (ta tb:DTE):DTF:=fun δ h Q=>ta δ h fun u h1=>tb δ h1 fun w h2=>match ref h2 u,ref h2 w with
 | some (.list xs),some (.list ys)=>xs.length+ys.length<=sizeLine/\Q (xs++ys) h2
 | _,_=>False
def bE4 (ha:DE X a ta) (hb:DE X b tb):DF X (.BinOp a .Add b pos) (cR4 ta tb):=aF (aI3 xW ha hb) fun σ H Q q=>by
 obtain ⟨δ,h,A,μ,k,R,q,c⟩:=q;refine ⟨δ,h,A,μ,_,R,q,fun u h1 v H1 A1 μ1 q1 x1 R1 r1=>?_⟩;refine ⟨δ,h1,A1,μ1,_,⟨R1,R.2.ext x1 R.1.sub⟩,q1,fun w h2 v2 H2 A2 μ2 q2 x2 R2 r2=>?_⟩;split at q2
 ·rename_i xs ys ex ey;obtain ⟨p,vs,rfl,s1,rr1⟩:=cD R2 (r1.ext x2 R1.sub) ex;obtain ⟨p',vs',rfl,s2,rr2⟩:=cD R2 r2 ey;refine ⟨p,p',vs,vs',rfl,rfl,s1,s2,by rw [rr1.length,rr2.length];exact q2.1,fun l hl=>?_⟩;have x12:=x1.trans x2;obtain ⟨ν,e1,_⟩:=x12.pre;exact c _ _ _ _ _ _ q2.2 (x12.trans (cC hl)) ⟨ν,e1⟩ (x12.back hl) (cY R2 hl (rr2.append rr1))
 ·exact q2.elim
end
end DL
namespace L2
open PySem PySem.Spec PyProof.Rows
section
variable {prog:Program} {w:World} {A:Around} {R:Result->Shared->Prop} {I:Addr} {fp wr:List Addr} {n:Nat} {P:Nat->Value->Prop} {St:Nat->Heap->Prop}
end
section
variable {prog:Program} {w:World} {A:Around} {E:Value->Shared->Prop} {s:Shared}
end
end L2
namespace DL
open PySem PySem.Spec PyProof.Rows L2
noncomputable def mF (kvs:List (PyData×PyData)) (k v:PyData):List (PyData×PyData) :=
 if (kvs.any fun p=>decide (bA p.1=bA k))=true then kvs.map (fun p=>if bA p.1=bA k then (p.1,v) else p) else kvs++[(k,v)]
section
variable {K:Frag} {A μ:List Addr} {H:Hp} {h:aA}
def repKs_cons {p:PyData×PyData} {kvs:List (PyData×PyData)} {r:List (Key×V)}:RepKs K A H (p::kvs) r ↔ ∃ q r',r=q::r'/\(bA p.1=some q.1/\Rep K A H p.2 q.2)/\RepKs K A H kvs r':=by
 obtain ⟨a,b⟩:=p;rw [RepKs];constructor
 ·rintro ⟨q,r',e,h1,h2⟩;rw [RepP] at h1;exact ⟨q,r',e,h1,h2⟩
 ·rintro ⟨q,r',e,h1,h2⟩;exact ⟨q,r',e,by rw [RepP];exact h1,h2⟩
def repKs_nil {r:List (Key×V)}:RepKs K A H [] r ↔ r=[]:=by rw [RepKs]
theorem oV {k:PyData} {q:Key} (hk:bA k=some q):∀ {kvs:List (PyData×PyData)} {r:List (Key×V)},RepKs K A H kvs r->(kvs.any fun p=>decide (bA p.1=bA k))=r.any fun kv=>decide (kv.1=q)
 | [],r,h=>by rw [repKs_nil.mp h];rfl
 | p::kvs,r,h=>by
  obtain ⟨q',r',rfl,⟨h1,h2⟩,h3⟩:=repKs_cons.mp h;rw [List.any_cons,List.any_cons,oV hk h3,h1,hk];simp
theorem oW:∀ {kvs more:List (PyData×PyData)} {r r2:List (Key×V)},RepKs K A H kvs r->RepKs K A H more r2->RepKs K A H (kvs++more) (r++r2)
 | [],_,r,r2,h,h2=>by rw [repKs_nil.mp h];exact h2
 | p::kvs,more,r,r2,h,h2=>by
  obtain ⟨q',r',rfl,h1,h3⟩:=repKs_cons.mp h;exact repKs_cons.mpr ⟨q',r'++r2,rfl,h1,oW h3 h2⟩
theorem mG {k:PyData} {q:Key} {x:PyData} {y:V} (hk:bA k=some q) (rx:Rep K A H x y):∀ {kvs:List (PyData×PyData)} {r:List (Key×V)},RepKs K A H kvs r ->
  RepKs K A H (kvs.map fun p=>if bA p.1=bA k then (p.1,x) else p) (r.map fun kv=>if kv.1=q then (kv.1,y) else kv)
 | [],r,h=>by rw [repKs_nil.mp h];exact repKs_nil.mpr rfl
 | p::kvs,r,h=>by
  obtain ⟨q',r',rfl,⟨h1,h2⟩,h3⟩:=repKs_cons.mp h;rw [List.map_cons,List.map_cons];refine repKs_cons.mpr ⟨_,_,rfl,?_,mG hk rx h3⟩;rw [h1,hk]
  by_cases e:q'.1=q
  ·rw [if_pos e,if_pos (by rw [e])];exact ⟨h1,rx⟩
  ·rw [if_neg e,if_neg (fun z=>e (Option.some.inj z))];exact ⟨h1,h2⟩
def aC4 {k:PyData} {q:Key} {x:PyData} {y:V} (hk:bA k=some q) (rx:Rep K A H x y) {kvs:List (PyData×PyData)} {r:List (Key×V)} (h:RepKs K A H kvs r):RepKs K A H (mF kvs k x) (qL r q y):=by
 unfold mF qL;rw [oV hk h];split
 ·exact mG hk rx h
 ·exact oW h (repKs_cons.mpr ⟨_,_,rfl,⟨hk,rx⟩,repKs_nil.mpr rfl⟩)
end
variable {X:Cx}
end DL
namespace PySem
open PyProof.Rows
section
variable {prog:Program} {w:World} {A:Around} {E:Value->Shared->Prop} {s:Shared}
def jB {it t:Addr} {i:Nat} {items:Array Value} {x:Value} {Q:Value->Shared->Prop} (hit:s.heap.IsTupleIter it t i) (hl:s.heap.IsTuple t items) (hx:items[i]?=some x)
  (hQ:∀ h',h'.IsTupleIter it t (i+1)->Heap.SameBut it s.heap h'->Q x { s with heap:=h' }):wpAny (model prog w) A (Builtin.SmallTypes.nextOf (.ref it)) Q E s:=by
 obtain ⟨o,ho,hc,hd⟩:=id hit;obtain ⟨ol,hol,hlc,nl,hdl⟩:=hl;unfold Builtin.SmallTypes.nextOf;refine wpAny_bind (wpAny_callSpecial?_slot (hit.typeIs) F.slot_tuple_iterator_next (wpAny_call_entry F.slot_tuple_iterator_next hit.typeIs F.entry_tuple_iterator_next ?_ (F.args_tuple_iterator_next_1 _)));refine wpAny_bind (wpAny_pure (a:=(Value.ref it,[])) ?_);refine wpAny_bind (wpAny_field ho hd rfl ?_);rw [if_neg (by exact Bool.false_ne_true)];refine wpAny_bind (wpAny_field ho hd rfl ?_);refine wpAny_bind (wpAny_seqItems hol hdl ?_);show wpAny _ _ (match items[((i:Int)).toNat]? with | some x=>_ | none=>_) _ _ _;rw [Int.toNat_natCast,hx];refine wpAny_bind (wpAny_setField ho hd (by simp) ?_);refine wpAny_pure ⟨x,rfl,wpAny_pure (hQ _ ⟨_,Heap.get?_update_self _ ho (Obj.isFreed_of_fields (Obj.data_mapFields hd _)),(Obj.cls_mapFields o _).trans hc,?_⟩ (Heap.SameBut.update _ _ _))⟩;rw [Obj.data_mapFields hd];rfl
def jT {it t:Addr} {i:Nat} {items:Array Value} {Q:Value->Shared->Prop} (hh:A.handled=none) (hit:s.heap.IsTupleIter it t i) (hl:s.heap.IsTuple t items) (hx:items[i]?=none)
  (hE:∀ h' e,Heap.ExtBut it s.heap h'->(∃ o,h'.get? e=some o/\o.cls=.type "StopIteration")->E (.ref e) { s with heap:=h' }):wpAny (model prog w) A (Builtin.SmallTypes.nextOf (.ref it)) Q E s:=by
 obtain ⟨o,ho,hc,hd⟩:=id hit;obtain ⟨ol,hol,hlc,nl,hdl⟩:=hl;unfold Builtin.SmallTypes.nextOf;refine wpAny_bind (wpAny_callSpecial?_slot (hit.typeIs) F.slot_tuple_iterator_next (wpAny_call_entry F.slot_tuple_iterator_next hit.typeIs F.entry_tuple_iterator_next ?_ (F.args_tuple_iterator_next_1 _)));refine wpAny_bind (wpAny_pure (a:=(Value.ref it,[])) ?_);refine wpAny_bind (wpAny_field ho hd rfl ?_);rw [if_neg (by exact Bool.false_ne_true)];refine wpAny_bind (wpAny_field ho hd rfl ?_);refine wpAny_bind (wpAny_seqItems hol hdl ?_);show wpAny _ _ (match items[((i:Int)).toNat]? with | some x=>_ | none=>_) _ _ _;rw [Int.toNat_natCast,hx];refine wpAny_bind (wpAny_rule ?_);refine wpAny_bind (wpAny_setField ho hd (by simp) ?_);unfold Builtin.SmallTypes.stopIteration newExc;refine wpAny_bind (wpAny_bind (wpAny_newObj_type ?_ (by show (([]:List Value).toArray.size<=sizeLine);simp)));refine wpAny_bind (wpAny_pure (a:=Value.none) ?_);refine wpAny_newObj_type ?_ (sizeOk_excFields ..);unfold raiseNew;refine wpAny_bind (wpAny_handled ?_);rw [show A.in1.handled=none from hh];refine wpAny_throw (hE _ _ (fun b o' hb e=>?_) ⟨_,Heap.get?_push_size _ rfl,rfl⟩);refine Heap.get?_push_of_some _ (Heap.get?_push_of_some _ ?_);rw [(Heap.SameBut.update s.heap it _).2 b hb];exact e
noncomputable def SqAt:Bool->Heap->Addr->Array Value->Prop
 | true,h,l,xs=>h.IsTuple l xs
 | false,h,l,xs=>h.IsList l xs
noncomputable def ItAt:Bool->Heap->Addr->Addr->Nat->Prop
 | true,h,it,l,k=>h.IsTupleIter it l k
 | false,h,it,l,k=>h.IsListIter it l k
noncomputable def jU (b:Bool) (l:Addr):Obj:={ cls:=.type (if b=true then "tuple_iterator" else "list_iterator"),data:=.fields #[.ref l,.int 0 0] }
def SqAt.keep {b:Bool} {h h':Heap} {l:Addr} {xs:Array Value} (x:SqAt b h l xs) (k:∀ o,h.get? l=some o->h'.get? l=some o):SqAt b h' l xs:=by
 cases b<;>exact let ⟨o,h1,h2⟩:=x;⟨o,k o h1,h2⟩
def ItAt.keep {b:Bool} {h h':Heap} {it l:Addr} {i:Nat} (x:ItAt b h it l i) (k:∀ o,h.get? it=some o->h'.get? it=some o):ItAt b h' it l i:=by
 cases b<;>exact let ⟨o,h1,h2⟩:=x;⟨o,k o h1,h2⟩
def ItAt.new {b:Bool} {h:Heap} {it l:Addr} (e:h.get? it=some (jU b l)):ItAt b h it l 0:=by
 cases b<;>exact ⟨_,e,rfl,rfl⟩
def fI {b:Bool} {l:Addr} {xs:Array Value} {Q:Value->Shared->Prop} (hl:SqAt b s.heap l xs) (h:Q (.ref s.heap.objs.size) { s with heap:=s.heap.push (jU b l) }):wpAny (model prog w) A (pyIter (.ref l)) Q E s:=by
 cases b
 ·exact wpAny_pyIter_list hl h
 ·exact wpAny_pyIter_tuple hl h
def eV {b:Bool} {it l:Addr} {i:Nat} {items:Array Value} {x:Value} {Q:Value->Shared->Prop} (hit:ItAt b s.heap it l i) (hl:SqAt b s.heap l items) (hx:items[i]?=some x)
  (hQ:∀ h',ItAt b h' it l (i+1)->Heap.SameBut it s.heap h'->Q x { s with heap:=h' }):wpAny (model prog w) A (Builtin.SmallTypes.nextOf (.ref it)) Q E s:=by
 cases b
 ·exact wpAny_nextOf_list_item hit hl hx hQ
 ·exact jB hit hl hx hQ
def iM {b:Bool} {it l:Addr} {i:Nat} {items:Array Value} {Q:Value->Shared->Prop} (hh:A.handled=none) (hit:ItAt b s.heap it l i) (hl:SqAt b s.heap l items) (hx:items[i]?=none)
  (hE:∀ h' e,Heap.ExtBut it s.heap h'->(∃ o,h'.get? e=some o/\o.cls=.type "StopIteration")->E (.ref e) { s with heap:=h' }):wpAny (model prog w) A (Builtin.SmallTypes.nextOf (.ref it)) Q E s:=by
 cases b
 ·exact wpAny_nextOf_list_end hh hit hl hx hE
 ·exact jT hh hit hl hx hE
noncomputable abbrev zH1 (b:Bool) (h:Heap) (l1:Addr):Heap:=h.push (jU b l1)
noncomputable abbrev zH2 (b c:Bool) (h:Heap) (l1 l2:Addr):Heap:=(zH1 b h l1).push (jU c l2)
noncomputable abbrev zH3 (b c:Bool) (h:Heap) (l1 l2:Addr):Heap:=(zH2 b c h l1 l2).push { cls:=.type "tuple",data:=.seq #[.ref h.objs.size,.ref (zH1 b h l1).objs.size] }
noncomputable abbrev zH4 (b c:Bool) (h:Heap) (l1 l2:Addr):Heap:=(zH3 b c h l1 l2).push { cls:=.type "tuple",data:=.seq #[.none,.none] }
noncomputable abbrev zH5 (b c:Bool) (h:Heap) (l1 l2:Addr):Heap:=(zH4 b c h l1 l2).push { cls:=.type "zip",data:=.fields #[.none,.bool false,.bool false,.ref (zH2 b c h l1 l2).objs.size,.ref (zH3 b c h l1 l2).objs.size] }
def bE5 (b c:Bool) (l1 l2:Addr) (xs ys:Array Value):Meets (Builtin.«zip.__new__» { pos:=[.type "zip",.ref l1,.ref l2] }) fun _ R s=>SqAt b s.heap l1 xs/\SqAt c s.heap l2 ys /\
  R (.ok (.ret (.ref (zH4 b c s.heap l1 l2).objs.size))) { s with heap:=zH5 b c s.heap l1 l2 }:=by
 refine Meets.of_wp fun prog w A R s h=>?_;obtain ⟨h1,h2,h⟩:=h;unfold Builtin.«zip.__new__»;refine wpAny_bind (wpAny_pure (a:=(Value.type "zip",[Value.ref l1,Value.ref l2])) ?_);dsimp only;rw [if_neg (by decide)];refine wpAny_bind ?_;unfold Builtin.SmallTypes.iterAll;refine wpAny_bind ?_;rw [List.forIn_cons];refine wpAny_bind (wpAny_bind (wpAny_holding (fI h1 (wpAny_pure ?_))));dsimp only;rw [List.forIn_cons];refine wpAny_bind (wpAny_bind (wpAny_holding (fI (h2.keep fun o e=>Heap.get?_push_of_some _ e) (wpAny_pure ?_))));dsimp only;rw [List.forIn_nil];refine wpAny_pure (wpAny_pure ?_);refine wpAny_bind (wpAny_newObj_type ?_ (by show (_:Array Value).size<=sizeLine;simp [sizeLine_eq]));refine wpAny_bind (wpAny_newObj_type ?_ (by show (_:Array Value).size<=sizeLine;simp [sizeLine_eq]));refine wpAny_bind ?_;unfold Builtin.SmallTypes.newRecord;refine wpAny_newObj_type (wpAny_pure ⟨_,rfl,h⟩) ?_;simp [sizeOk,Builtin.SmallTypes.ownedTupleFields,sizeLine_eq]
def aM9 {b c:Bool} {l1 l2:Addr} {xs ys:Array Value} {Q:Value->Shared->Prop} (h1:SqAt b s.heap l1 xs) (h2:SqAt c s.heap l2 ys)
  (h:∀ h',IsZip h' (s.heap.objs.size+4) (s.heap.objs.size+2) (s.heap.objs.size+3) .none->IsPair h' (s.heap.objs.size+2) (.ref s.heap.objs.size) (.ref (s.heap.objs.size+1))->IsPair h' (s.heap.objs.size+3) .none .none ->
   ItAt b h' s.heap.objs.size l1 0->ItAt c h' (s.heap.objs.size+1) l2 0->h'.objs.size=s.heap.objs.size+5->(∀ a o,s.heap.get? a=some o->h'.get? a=some o)->Q (.ref (s.heap.objs.size+4)) { s with heap:=h' }) :
  wpAny (model prog w) A (call (.type "zip") [.ref l1,.ref l2]) Q E s:=by
 have z1:(zH1 b s.heap l1).objs.size=s.heap.objs.size+1:=Heap.size_push ..;have z2:(zH2 b c s.heap l1 l2).objs.size=s.heap.objs.size+2:=by rw [zH2,Heap.size_push,z1]
 have z3:(zH3 b c s.heap l1 l2).objs.size=s.heap.objs.size+3:=by rw [zH3,Heap.size_push,z2]
 have z4:(zH4 b c s.heap l1 l2).objs.size=s.heap.objs.size+4:=by rw [zH4,Heap.size_push,z3]
 have z5:(zH5 b c s.heap l1 l2).objs.size=s.heap.objs.size+5:=by rw [zH5,Heap.size_push,z4]
 have g5:(zH5 b c s.heap l1 l2).get? (zH4 b c s.heap l1 l2).objs.size=_:=Heap.get?_push_size _ rfl;have g4:(zH5 b c s.heap l1 l2).get? (zH3 b c s.heap l1 l2).objs.size=_:=Heap.get?_push_of_some _ (Heap.get?_push_size _ rfl);have g3:(zH5 b c s.heap l1 l2).get? (zH2 b c s.heap l1 l2).objs.size=_:=Heap.get?_push_of_some _ (Heap.get?_push_of_some _ (Heap.get?_push_size _ rfl));have g2:(zH5 b c s.heap l1 l2).get? (zH1 b s.heap l1).objs.size=_:=Heap.get?_push_of_some _ (Heap.get?_push_of_some _ (Heap.get?_push_of_some _ (Heap.get?_push_size _ rfl)));have g1:(zH5 b c s.heap l1 l2).get? s.heap.objs.size=_:=Heap.get?_push_of_some _ (Heap.get?_push_of_some _ (Heap.get?_push_of_some _ (Heap.get?_push_of_some _ (Heap.get?_push_size _ rfl))));refine callType_new F.called_zip (by decide) (F.typeCall_zip_2 _ _) (F.newCall_zip_2 _ _) (fun obj=>F.args_object_init_3 obj _ _) F.entry_zip_new (bE5 b c l1 l2 xs ys) ⟨h1,h2,?_⟩;have q:=h (zH5 b c s.heap l1 l2) (by rw [z4,z3,z2] at g5;exact g5) (by rw [z2,z1] at g3;exact g3) (by rw [z3] at g4;exact g4) (.new g1) (.new (by rw [z1] at g2;exact g2)) z5
  (fun a o e=>Heap.get?_push_of_some _ (Heap.get?_push_of_some _ (Heap.get?_push_of_some _ (Heap.get?_push_of_some _ (Heap.get?_push_of_some _ e)))))
 rw [<- z4] at q;exact ⟨⟨_,g5,rfl⟩,q⟩
def qU {h:Heap} {z TI TO:Addr} {f0 x:Value} (hz:IsZip h z TI TO f0):IsZip (h.update z (Obj.mapFields fun a=>a.setIfInBounds 0 x)) z TI TO x:=by
 refine (Heap.get?_update_self _ hz (Obj.isFreed_of_fields (Obj.data_mapFields rfl _))).trans ?_;rfl
def aN0 {h:Heap} {z TI TO:Addr} {f0:Value} (hz:IsZip h z TI TO f0):IsZip (h.update z (Obj.mapFields fun a=>a.setIfInBounds 1 (.bool false))) z TI TO f0:=by
 refine (Heap.get?_update_self _ hz (Obj.isFreed_of_fields (Obj.data_mapFields rfl _))).trans ?_;rfl
structure ZApart (z TI TO i1 i2:Addr):Prop where
 TIz:TI≠z
 TOz:TO≠z
 i1z:i1≠z
 i2z:i2≠z
 TITO:TI≠TO
 TOi1:TO≠i1
 TOi2:TO≠i2
 TIi1:TI≠i1
 TIi2:TI≠i2
 i12:i1≠i2
def aC5 {b c:Bool} {z TI TO i1 i2 l1 l2:Addr} {k:Nat} {xs ys:Array Value} {x y u v:Value} {Q:Value->Shared->Prop} (D:ZApart z TI TO i1 i2) (hz:IsZip s.heap z TI TO .none) (hTI:IsPair s.heap TI (.ref i1) (.ref i2)) (hTO:IsPair s.heap TO u v)
  (h1:ItAt b s.heap i1 l1 k) (h2:ItAt c s.heap i2 l2 k) (q1:SqAt b s.heap l1 xs) (q2:SqAt c s.heap l2 ys) (nz1:l1≠z) (nz2:l2≠z) (nT2:l2≠TO) (n21:l2≠i1) (hx:xs[k]?=some x) (hy:ys[k]?=some y)
  (hQ:∀ h',IsZip h' z TI TO (rawInt s.heap.objs.size)->IsPair h' TO x y->ItAt b h' i1 l1 (k+1)->ItAt c h' i2 l2 (k+1)->IsPair h' s.heap.objs.size x y->h'.objs.size=s.heap.objs.size+1 ->
   (∀ a o,a≠z->a≠TO->a≠i1->a≠i2->s.heap.get? a=some o->h'.get? a=some o)->Q (.ref s.heap.objs.size) { s with heap:=h' }) :
  wpAny (model prog w) A (Builtin.«zip.__next__» { pos:=[.ref z] }) (fun fin s'=>∃ v,fin=Fin.done (.ret v)/\Q v s') E s:=by
 unfold Builtin.«zip.__next__»;refine wpAny_bind (wpAny_pure (a:=(Value.ref z,[])) ?_);refine wpAny_bind (wpAny_field hz rfl rfl ?_);refine wpAny_bind (wpAny_field hz rfl rfl ?_);refine wpAny_bind (wpAny_seqItems hTI rfl ?_);dsimp only;rw [if_neg (by simp)];refine wpAny_bind ?_;unfold Builtin.SmallTypes.ownedTupleIsFree;refine wpAny_bind (wpAny_field hz rfl rfl ?_);refine wpAny_pure ?_;rw [if_pos rfl];refine wpAny_bind (wpAny_rule ?_);refine wpAny_bind (wpAny_field hz rfl rfl ?_);refine wpAny_bind (wpAny_setField hz rfl (by simp) ?_);have e1:=Heap.SameBut.update s.heap z (Obj.mapFields fun a=>a.setIfInBounds 0 Value.ellipsis);have hz1:=qU (x:=Value.ellipsis) hz;generalize s.heap.update z (Obj.mapFields fun a=>a.setIfInBounds 0 Value.ellipsis)=H1 at e1 hz1 ⊢;have h11:ItAt b H1 i1 l1 k:=h1.keep fun o e=>(e1.2 _ D.i1z).trans e;have q11:SqAt b H1 l1 xs:=q1.keep fun o e=>(e1.2 _ nz1).trans e;have hTO1:IsPair H1 TO u v:=(e1.2 _ D.TOz).trans hTO;refine wpAny_bind ?_;rw [show [Value.ref i1,Value.ref i2].zipIdx=[(Value.ref i1,0),(Value.ref i2,1)] from rfl,List.forIn_cons];refine wpAny_bind (wpAny_bind (wpAny_onRaise ?_))
 change wpAny _ _ (Builtin.SmallTypes.nextOf (Value.ref i1) >>= fun v=>pure (some v)) _ _ _
 refine wpAny_bind (eV h11 q11 hx fun H2 h12 e2=>wpAny_pure ?_);have hz2:IsZip H2 z TI TO .ellipsis:=(e2.2 _ D.i1z.symm).trans hz1;have hTO2:IsPair H2 TO u v:=(e2.2 _ D.TOi1).trans hTO1;refine wpAny_bind (wpAny_seqItems hTO2 rfl (wpAny_bind (wpAny_updateSeq_pair hTO2 fun H3 hTO3 e3=>wpAny_bind (wpAny_letGo (wpAny_pure ?_)))));have hTO3:IsPair H3 TO x v:=hTO3;have hz3:IsZip H3 z TI TO .ellipsis:=(e3.2 _ D.TOz.symm).trans hz2;have h23:ItAt c H3 i2 l2 k:=h2.keep fun o e=>(e3.2 _ D.TOi2.symm).trans ((e2.2 _ D.i12.symm).trans ((e1.2 _ D.i2z).trans e));have q23:SqAt c H3 l2 ys:=q2.keep fun o e=>(e3.2 _ nT2).trans ((e2.2 _ n21).trans ((e1.2 _ nz2).trans e));dsimp only;rw [List.forIn_cons];refine wpAny_bind (wpAny_bind (wpAny_onRaise ?_))
 change wpAny _ _ (Builtin.SmallTypes.nextOf (Value.ref i2) >>= fun v=>pure (some v)) _ _ _
 refine wpAny_bind (eV h23 q23 hy fun H4 h24 e4=>wpAny_pure ?_);have hz4:IsZip H4 z TI TO .ellipsis:=(e4.2 _ D.i2z.symm).trans hz3;have hTO4:IsPair H4 TO x v:=(e4.2 _ D.TOi2).trans hTO3;refine wpAny_bind (wpAny_seqItems hTO4 rfl (wpAny_bind (wpAny_updateSeq_pair hTO4 fun H5 hTO5 e5=>wpAny_bind (wpAny_letGo (wpAny_pure ?_)))));have hTO5:IsPair H5 TO x y:=hTO5;have hz5:IsZip H5 z TI TO .ellipsis:=(e5.2 _ D.TOz.symm).trans hz4;dsimp only;rw [List.forIn_nil];refine wpAny_pure ?_;refine wpAny_bind (wpAny_seqItems hTO5 rfl ?_);refine wpAny_bind (wpAny_newObj_type ?_ (by simp [sizeOk,sizeLine_eq]));have es:H5.objs.size=s.heap.objs.size:=by rw [e5.1,e4.1,e3.1,e2.1,e1.1]
 have g6:IsPair (H5.push { cls:=.type "tuple",data:=.seq #[x,y] }) H5.objs.size x y:=Heap.get?_push_size _ rfl;have k6:∀ a o,H5.get? a=some o->(H5.push { cls:=.type "tuple",data:=.seq #[x,y] }).get? a=some o:=fun a o e=>Heap.get?_push_of_some _ e;have s6:(H5.push { cls:=.type "tuple",data:=.seq #[x,y] }).objs.size=s.heap.objs.size+1:=by rw [Heap.size_push,es]
 have hz6:=k6 _ _ hz5;refine wpAny_bind ?_;unfold Builtin.SmallTypes.ownedTupleHandOut;refine wpAny_bind (wpAny_setField hz6 rfl (by simp) ?_);have hz7:=qU (x:=rawInt H5.objs.size) hz6;refine wpAny_setField hz7 rfl (by simp) ?_;have hz8:=aN0 hz7;have e7:=Heap.SameBut.update (H5.push { cls:=.type "tuple",data:=.seq #[x,y] }) z (Obj.mapFields fun a=>a.setIfInBounds 0 (rawInt H5.objs.size));have e8:=Heap.SameBut.update ((H5.push { cls:=.type "tuple",data:=.seq #[x,y] }).update z (Obj.mapFields fun a=>a.setIfInBounds 0 (rawInt H5.objs.size))) z (Obj.mapFields fun a=>a.setIfInBounds 1 (.bool false));have kk:∀ a o,a≠z->H5.get? a=some o->(((H5.push { cls:=.type "tuple",data:=.seq #[x,y] }).update z (Obj.mapFields fun a=>a.setIfInBounds 0 (rawInt H5.objs.size))).update z (Obj.mapFields fun a=>a.setIfInBounds 1 (.bool false))).get? a=some o :=
  fun a o n e=>(e8.2 a n).trans ((e7.2 a n).trans (k6 a o e))
 have nsz:H5.objs.size≠z:=fun e=>by
  have:=Heap.lt_size hz5;rw [<- e] at this;exact Nat.lt_irrefl _ this
 have g8:=(e8.2 _ nsz).trans ((e7.2 _ nsz).trans g6);have hs8:=e8.1.trans (e7.1.trans s6);have h15:ItAt b H5 i1 l1 (k+1):=h12.keep fun o e=>(e5.2 _ D.TOi1.symm).trans ((e4.2 _ D.i12).trans ((e3.2 _ D.TOi1.symm).trans e));have h25:ItAt c H5 i2 l2 (k+1):=h24.keep fun o e=>(e5.2 _ D.TOi2.symm).trans e;have q:=hQ _ (by rw [es] at hz8;rw [es];exact hz8) (kk _ _ D.TOz hTO5) (h15.keep fun o e=>kk _ _ D.i1z e) (h25.keep fun o e=>kk _ _ D.i2z e) (by rw [<- es];exact g8) hs8
  (fun a o n1 n2 n3 n4 e=>kk _ _ n1 ((e5.2 _ n2).trans ((e4.2 _ n4).trans ((e3.2 _ n2).trans ((e2.2 _ n3).trans ((e1.2 _ n1).trans e))))))
 refine wpAny_pure ⟨_,rfl,?_⟩;rw [<- es] at q;exact q
def aN1 {b c:Bool} {z TI TO i1 i2 l1 l2:Addr} {k:Nat} {xs ys:Array Value} {u v:Value} {Q:Fin->Shared->Prop} (hh:A.handled=none) (D:ZApart z TI TO i1 i2) (hz:IsZip s.heap z TI TO .none) (hTI:IsPair s.heap TI (.ref i1) (.ref i2)) (hTO:IsPair s.heap TO u v)
  (h1:ItAt b s.heap i1 l1 k) (h2:ItAt c s.heap i2 l2 k) (q1:SqAt b s.heap l1 xs) (q2:SqAt c s.heap l2 ys) (nz1:l1≠z) (nz2:l2≠z) (nT2:l2≠TO) (n21:l2≠i1) (hn:xs[k]?=none\/ys[k]?=none)
  (hE:∀ h' e,(∀ a o,a≠z->a≠TO->a≠i1->a≠i2->s.heap.get? a=some o->h'.get? a=some o)->(∃ o,h'.get? e=some o/\o.cls=.type "StopIteration")->E (.ref e) { s with heap:=h' }) :
  wpAny (model prog w) A (Builtin.«zip.__next__» { pos:=[.ref z] }) Q E s:=by
 unfold Builtin.«zip.__next__»;refine wpAny_bind (wpAny_pure (a:=(Value.ref z,[])) ?_);refine wpAny_bind (wpAny_field hz rfl rfl ?_);refine wpAny_bind (wpAny_field hz rfl rfl ?_);refine wpAny_bind (wpAny_seqItems hTI rfl ?_);dsimp only;rw [if_neg (by simp)];refine wpAny_bind ?_;unfold Builtin.SmallTypes.ownedTupleIsFree;refine wpAny_bind (wpAny_field hz rfl rfl ?_);refine wpAny_pure ?_;rw [if_pos rfl];refine wpAny_bind (wpAny_rule ?_);refine wpAny_bind (wpAny_field hz rfl rfl ?_);refine wpAny_bind (wpAny_setField hz rfl (by simp) ?_);have e1:=Heap.SameBut.update s.heap z (Obj.mapFields fun a=>a.setIfInBounds 0 Value.ellipsis);have hz1:=qU (x:=Value.ellipsis) hz;generalize s.heap.update z (Obj.mapFields fun a=>a.setIfInBounds 0 Value.ellipsis)=H1 at e1 hz1 ⊢;have h11:ItAt b H1 i1 l1 k:=h1.keep fun o e=>(e1.2 _ D.i1z).trans e;have q11:SqAt b H1 l1 xs:=q1.keep fun o e=>(e1.2 _ nz1).trans e;have hTO1:IsPair H1 TO u v:=(e1.2 _ D.TOz).trans hTO;have ends:∀ (H4 H5:Heap) (e:Addr),IsZip H5 z TI TO .ellipsis->(∀ a o,a≠z->a≠TO->a≠i1->a≠i2->s.heap.get? a=some o->H5.get? a=some o)->(∃ o,H5.get? e=some o/\o.cls=.type "StopIteration") ->
   wpAny (model prog w) A (setField (.ref z) 0 .none) (fun _ s''=>E (.ref e) s'') E { s with heap:=H5 }:=fun H4 H5 e hz5 kk ⟨o,ho,hc⟩=>by
  refine wpAny_setField hz5 rfl (by simp) ?_;have e6:=Heap.SameBut.update H5 z (Obj.mapFields fun a=>a.setIfInBounds 0 Value.none);refine hE _ e (fun a o n1 n2 n3 n4 g=>(e6.2 _ n1).trans (kk a o n1 n2 n3 n4 g)) ⟨o,(e6.2 _ fun z'=>?_).trans ho,hc⟩;rw [z'] at ho;have hz5:H5.get? z=_:=hz5;rw [ho] at hz5;cases hz5;simp at hc
 refine wpAny_bind ?_;rw [show [Value.ref i1,Value.ref i2].zipIdx=[(Value.ref i1,0),(Value.ref i2,1)] from rfl,List.forIn_cons];refine wpAny_bind (wpAny_bind (wpAny_onRaise ?_))
 change wpAny _ _ (Builtin.SmallTypes.nextOf (Value.ref i1) >>= fun v=>pure (some v)) _ _ _
 by_cases hx:xs[k]?=none
 ·refine wpAny_bind (iM hh h11 q11 hx fun H2 e g2 he=>ends H2 H2 e ?_ (fun a o n1 n2 n3 n4 g=>?_) he)
  ·exact g2 _ _ D.i1z.symm hz1
  ·exact g2 _ _ n3 ((e1.2 _ n1).trans g)
 obtain ⟨x,hx⟩:=Option.ne_none_iff_exists'.mp hx;have hy:ys[k]?=none:=hn.resolve_left (by rw [hx];simp);refine wpAny_bind (eV h11 q11 hx fun H2 h12 e2=>wpAny_pure ?_);have hz2:IsZip H2 z TI TO .ellipsis:=(e2.2 _ D.i1z.symm).trans hz1;have hTO2:IsPair H2 TO u v:=(e2.2 _ D.TOi1).trans hTO1;refine wpAny_bind (wpAny_seqItems hTO2 rfl (wpAny_bind (wpAny_updateSeq_pair hTO2 fun H3 hTO3 e3=>wpAny_bind (wpAny_letGo (wpAny_pure ?_)))));have hz3:IsZip H3 z TI TO .ellipsis:=(e3.2 _ D.TOz.symm).trans hz2;have h23:ItAt c H3 i2 l2 k:=h2.keep fun o e=>(e3.2 _ D.TOi2.symm).trans ((e2.2 _ D.i12.symm).trans ((e1.2 _ D.i2z).trans e));have q23:SqAt c H3 l2 ys:=q2.keep fun o e=>(e3.2 _ nT2).trans ((e2.2 _ n21).trans ((e1.2 _ nz2).trans e));dsimp only;rw [List.forIn_cons];refine wpAny_bind (wpAny_bind (wpAny_onRaise ?_))
 change wpAny _ _ (Builtin.SmallTypes.nextOf (Value.ref i2) >>= fun v=>pure (some v)) _ _ _
 refine wpAny_bind (iM hh h23 q23 hy fun H4 e g4 he=>ends H4 H4 e ?_ (fun a o n1 n2 n3 n4 g=>?_) he)
 ·exact g4 _ _ D.i2z.symm hz3
 ·exact g4 _ _ n4 ((e3.2 _ n2).trans ((e2.2 _ n3).trans ((e1.2 _ n1).trans g)))
end
end PySem
namespace L2
open PySem PySem.Spec PyProof.Rows
section
variable {X:Cx} {pins:List (Addr×Obj)} {σ:List (Option V)} {H:Hp} {s:Shared} {h':Heap}
def Inv.turnedL {t':Nat} {ch:List Addr} (I:Inv X pins σ H s) (k:∀ b o,b∉ch->s.heap.get? b=some o->h'.get? b=some o) (hf:∀ b∈ch,iI X pins H b):Inv X pins σ H { s with heap:=h',toks:=t' }:=by
 have nit:∀ b u,H b=some u->b∉ch:=fun b u e z=>by rw [(hf b z).1] at e;cases e
 have hL:X.env.locals∉ch:=fun z=>(hf _ z).2.1 rfl;refine I.step (g':=s.gens) (d':=s.drawn) (ch:=ch) (fun b hb=>?_) (fun b o _ _ hc e _=>k b o hc e) (fun b o _ _ hc e _=>⟨o.slots,k b o hc e⟩) (fun _ _ _ _ n=>n)
  (fun b o hc e=>⟨o,k b o hc e⟩) (fun _ _ e=>e) (fun _ _ _ e=>e) (fun b ps e=>⟨#[],by rw [e];simp⟩) (fun m hm=>?_) (fun b u e=>?_) I.bare
 ·obtain ⟨_,f1,_,f3,f4,f5⟩:=hf b hb;exact ⟨f3,f1,f4,f5⟩
 ·obtain ⟨o,es,ep,ho,r⟩:=hm;exact ⟨o,es,ep,k _ o hL ho,r⟩
 ·refine (I.hok b u e).stay (fun c v hc q=>k c v ?_ q) (fun _ q=>q) fun _ _ q=>q;rcases hc with z | z
  ·rw [z];exact nit b u e
  ·exact nit c _ z
noncomputable def SqB (K:Frag):Bool->Hp->Addr->List V->Prop
 | true,H,a,xs=>SqT K H a xs
 | false,H,a,xs=>SqL K H a xs
def bO3 {a c:Addr} {u:HO} (h:Rd H a u) (f:H c=none):a≠c:=fun e=>by
 subst e;rcases h with h | ⟨o,h⟩<;>· rw [f] at h;cases h
def cR5 {a c:Addr} {o:Obj} (I:Inv X pins σ H s) (h:X.K.lookup a=some o) (f:iI X pins H c):a≠c:=fun e=>by
 subst e;have b:=I.ok.mod.kin a o h;rcases f.2.2.2.1 with z | z
 ·exact I.ok.noex _ _ b z
 ·exact absurd (Nat.lt_of_lt_of_le (Heap.lt_size (I.ok.bs _ _ b).1) z) (Nat.lt_irrefl _)
def Inv.sq_ne {b:Bool} {a c:Addr} {xs:List V} (I:Inv X pins σ H s) (h:SqB X.K b H a xs) (f:iI X pins H c):a≠c:=by
 cases b
 ·rcases h with h | ⟨o,its,n,hk,_⟩
  ·exact bO3 h f.1
  ·exact cR5 I hk f
 ·rcases h with h | ⟨o,its,n,hk,_⟩
  ·exact bO3 h f.1
  ·exact cR5 I hk f
def Inv.sqB {b:Bool} {a:Addr} {xs:List V} (I:Inv X pins σ H s) (h:SqB X.K b H a xs):∃ its:List Value,Vals xs its/\SqAt b s.heap a its.toArray/\xs.length<=sizeLine:=by
 cases b
 ·obtain ⟨its,rv,p,hz⟩:=I.list h;exact ⟨its,rv,p.isList,hz⟩
 ·obtain ⟨its,rv,p,hz⟩:=I.tuple h;exact ⟨its,rv,p,hz⟩
def Inv.sqB_inj {b:Bool} {a:Addr} {xs ys:List V} (I:Inv X pins σ H s) (h:SqB X.K b H a xs) (h':SqB X.K b H a ys):xs=ys:=by
 cases b
 ·exact I.list_inj h h'
 ·exact I.tuple_inj h h'
def Itz (K:Frag) (b c:Bool) (l1 l2:Addr):It :=
 ⟨fun i H=>∃ xs ys x y,SqB K b H l1 xs/\SqB K c H l2 ys/\xs[i]?=some x/\ys[i]?=some y,
  fun i H v H'=>∃ p x y,v=.ref p/\H p=none/\H'=upd H p (.tup [x,y])/\(∀ xs,SqB K b H l1 xs->xs[i]?=some x)/\(∀ ys,SqB K c H l2 ys->ys[i]?=some y),
  fun i H=>∃ xs ys,SqB K b H l1 xs/\SqB K c H l2 ys/\(xs.length<=i\/ys.length<=i)⟩
end
def ZSt (b c:Bool) (z TI TO i1 i2 l1 l2:Addr) (i:Nat) (h:Heap):Prop :=
 IsZip h z TI TO .none/\IsPair h TI (.ref i1) (.ref i2)/\(∃ u v,IsPair h TO u v)/\ItAt b h i1 l1 i/\ItAt c h i2 l2 i
def aN2 {P:Program} {w:World} {K:Frag} {elts:List Expr} {n:Nat} {pos:Pos} (b c:Bool) (z TI TO i1 i2 l1 l2:Addr) (D:ZApart z TI TO i1 i2) :
  Turn P w K (.Tuple elts n pos) (Itz K b c l1 l2) [z,TI,TO,i1,i2] z (ZSt b c z TI TO i1 i2 l1 l2) where
 mem:=by simp
 obj:=fun i h st a ha=>by
  obtain ⟨s1,s2,⟨u,v,s3⟩,s4,s5⟩:=st;have it:∀ {b:Bool} {i1 l1:Addr},ItAt b h i1 l1 i->∃ o,h.get? i1=some o/\∀ v,o.data≠.cell v:=fun {b i1 l1} q=>by
   cases b<;>· obtain ⟨o,e,_,d⟩:=q;exact ⟨o,e,fun v z=>by rw [d] at z;cases z⟩
  simp only [List.mem_cons,List.not_mem_nil,or_false] at ha;rcases ha with rfl | rfl | rfl | rfl | rfl
  ·exact ⟨_,s1,fun v z=>by cases z⟩
  ·exact ⟨_,s2,fun v z=>by cases z⟩
  ·exact ⟨_,s3,fun v z=>by cases z⟩
  ·exact it s4
  ·exact it s5
 keep:=fun i h h' st k=>by
  obtain ⟨s1,s2,⟨u,v,s3⟩,s4,s5⟩:=st;exact ⟨k z (by simp) _ s1,k TI (by simp) _ s2,⟨u,v,k TO (by simp) _ s3⟩,s4.keep fun o e=>k i1 (by simp) o e,s5.keep fun o e=>k i2 (by simp) o e⟩
 item:=by
  intro X hP hw hK hc i pins s σ H E I hf st hg;subst hP hw hK;obtain ⟨xs,ys,x,y,hq1,hq2,hx,hy⟩:=hg;obtain ⟨s1,s2,⟨u,v,s3⟩,s4,s5⟩:=st;obtain ⟨its1,rv1,p1,hz1⟩:=I.sqB hq1;obtain ⟨its2,rv2,p2,hz2⟩:=I.sqB hq2;obtain ⟨u1,hu1,ru1⟩:=rv1.get hx;obtain ⟨u2,hu2,ru2⟩:=rv2.get hy;have hT:s.TypeIs (.ref z) "zip":=⟨_,s1,rfl⟩;have fz:=hf z (by simp);have fTO:=hf TO (by simp);have fi1:=hf i1 (by simp);refine wpAny_bind (wpAny_attempt (wpAny_callSpecial?_slot hT F.slot_zip_next (wpAny_call_entry F.slot_zip_next hT F.entry_zip_next
   (aC5 D s1 s2 s3 s4 s5 p1 p2 (I.sq_ne hq1 fz) (I.sq_ne hq2 fz) (I.sq_ne hq2 fTO) (I.sq_ne hq2 fi1) (x:=u1) (y:=u2) (by simpa using hu1) (by simpa using hu2)
    fun h' a1 a2 a3 a4 a5 a6 a7=>wpAny_pure ?_) (F.args_zip_next_1 _))))
  refine ⟨_,rfl,wpAny_letOwnedTupleGo_zip (s:={ s with heap:=h' }) a1 fun h'' b1 b2=>?_⟩;have nz:∀ {a o},s.heap.get? a=some o->a≠s.heap.objs.size:=fun e z=>by
   have:=Heap.lt_size e;rw [z] at this;exact Nat.lt_irrefl _ this
  have I1:Inv X pins σ (upd H s.heap.objs.size (.tup [x,y])) { s with heap:=s.heap.push { cls:=.type "tuple",data:=.seq #[u1,u2] } } :=
   I.laid (t':=s.toks) (fun b o e=>Heap.get?_push_of_some _ e) (Nat.le_refl _) (show ObjOk X.prog X.w _ _ _ (.tup [x,y]) from ⟨by simp [sizeLine_eq],[u1,u2],.cons ru1 (.cons ru2 .nil),IsTupD.new _ _⟩)
  have obj:∀ a∈[z,TI,TO,i1,i2],∃ o,s.heap.get? a=some o:=fun a ha=>by
   have it:∀ {b:Bool} {i1 l1:Addr},ItAt b s.heap i1 l1 i->∃ o,s.heap.get? i1=some o:=fun {b i1 l1} q=>by
    cases b<;>· obtain ⟨o,e,_,d⟩:=q;exact ⟨o,e⟩
   simp only [List.mem_cons,List.not_mem_nil,or_false] at ha;rcases ha with rfl | rfl | rfl | rfl | rfl
   ·exact ⟨_,s1⟩
   ·exact ⟨_,s2⟩
   ·exact ⟨_,s3⟩
   ·exact it s4
   ·exact it s5
  have un:∀ a∈[z,TI,TO,i1,i2],upd H s.heap.objs.size (.tup [x,y]) a=none:=fun a ha=>by
   obtain ⟨o,e⟩:=obj a ha;rw [aM (nz e)];exact (hf a ha).1
  have hf1:∀ a∈[z,TI,TO,i1,i2],iI X pins (upd H s.heap.objs.size (.tup [x,y])) a:=fun a ha=>⟨un a ha,(hf a ha).2⟩;have zs:s.heap.objs.size≠z:=fun e=>nz s1 e.symm;have I2:Inv X pins σ (upd H s.heap.objs.size (.tup [x,y])) { s with heap:=h'' }:=Inv.turnedL (s:={ s with heap:=s.heap.push { cls:=.type "tuple",data:=.seq #[u1,u2] } }) I1 (t':=s.toks) (ch:=[z,TI,TO,i1,i2]) (fun a o ha e=>by
   simp only [List.mem_cons,List.not_mem_nil,or_false,not_or] at ha;obtain ⟨n1,n2,n3,n4,n5⟩:=ha;refine (b2.2 a n1).trans ?_
   by_cases hs:a=s.heap.objs.size
   ·subst hs;have e':(s.heap.push { cls:=.type "tuple",data:=.seq #[u1,u2] }).get? s.heap.objs.size=some o:=e;rw [Heap.get?_push_size _ rfl] at e';cases e';exact a5
   ·have e':(s.heap.push { cls:=.type "tuple",data:=.seq #[u1,u2] }).get? a=some o:=e;rw [Heap.get?_push_ne _ _ _ hs] at e';exact a7 a o n1 n3 n4 n5 e') hf1
  refine ⟨.ref s.heap.objs.size,_,I2,rfl,⟨_,x,y,rfl,I.hok.fresh (Nat.le_refl _),rfl,fun zs hz=>?_,fun zs hz=>?_⟩,⟨b1,?_,⟨u1,u2,?_⟩,?_,?_⟩,un⟩
  ·rw [I.sqB_inj hz hq1];exact hx
  ·rw [I.sqB_inj hz hq2];exact hy
  ·exact (b2.2 _ D.TIz).trans (a7 _ _ D.TIz D.TITO D.TIi1 D.TIi2 s2)
  ·exact (b2.2 _ D.TOz).trans a2
  ·exact a3.keep fun o e=>(b2.2 _ D.i1z).trans e
  ·exact a4.keep fun o e=>(b2.2 _ D.i2z).trans e
 done:=by
  intro X hP hw hK hc i pins s σ H E I hf st hg;subst hP hw hK;obtain ⟨xs,ys,hq1,hq2,hl⟩:=hg;obtain ⟨s1,s2,⟨u,v,s3⟩,s4,s5⟩:=st;obtain ⟨its1,rv1,p1,hz1⟩:=I.sqB hq1;obtain ⟨its2,rv2,p2,hz2⟩:=I.sqB hq2;have l1:=rv1.length;have l2:=rv2.length;have hT:s.TypeIs (.ref z) "zip":=⟨_,s1,rfl⟩;have fz:=hf z (by simp);have fTO:=hf TO (by simp);have fi1:=hf i1 (by simp);refine wpAny_bind (wpAny_attempt (wpAny_callSpecial?_slot hT F.slot_zip_next (wpAny_call_entry F.slot_zip_next hT F.entry_zip_next
   (aN1 (I.ok.hd hc) D s1 s2 s3 s4 s5 p1 p2 (I.sq_ne hq1 fz) (I.sq_ne hq2 fz) (I.sq_ne hq2 fTO) (I.sq_ne hq2 fi1) (by simp;omega)
    fun h' e kk ⟨o,ho,hc⟩=>wpAny_bind (wpAny_isInstance ⟨o,ho,hc⟩ isSubtype_stop (wpAny_pure ⟨rfl,?_⟩))) (F.args_zip_next_1 _))))
  exact I.turnedL (t':=s.toks) (ch:=[z,TI,TO,i1,i2]) (fun a o ha e=>by
   simp only [List.mem_cons,List.not_mem_nil,or_false,not_or] at ha;exact kk a o ha.1 ha.2.2.1 ha.2.2.2.1 ha.2.2.2.2 e) hf
 self:=fun _ _ _ _ _ st h=>wpAny_pyIter_zip st.1 h
section
variable {X:Cx} {elts:List Expr} {n:Nat} {tpos:Pos}
def dI9 (K:Frag) (ta:TA):TI:=fun σ H R=>ta σ H fun vs H1=>∃ p q b c xs ys,vs=[.ref p,.ref q]/\SqB K b H1 p xs/\SqB K c H1 q ys/\(xs.length<=sizeLine->R (Itz K b c p q) H1)
def cB8 {a b:Expr} {ta:TA} {p pos:Pos} (hg:Gl X "zip") (hm:X.mg "zip"=none) (ha:PA X [a,b] ta) (hs:autoParam (starEach [a,b] X.env=[(false,eval a X.env),(false,eval b X.env)]) ZR) (hs2:autoParam (starEach [b] X.env=[(false,eval b X.env)]) ZR) :
  PI X (.Tuple elts n tpos) (.Call (.Name "zip" p) [a,b] [] pos) (dI9 X.K ta):=by
 intro pins s σ H R I h;refine Call_ (eE I hg hm rfl (PyProof.Rows.callWith_type1 (thn (ha pos pins s σ H _ I h) fun us s1 ⟨vs,H1,I1,r1,q1⟩=>?_) (by rw [hs,hs2]) (by rw [hs2];rfl)));obtain ⟨l1,l2,b,c,xs,ys,e,hq1,hq2,q⟩:=q1;subst e;cases r1 with
 | cons r rr =>
  cases rr with
  | cons r' rr =>
   cases rr;cases r;cases r';obtain ⟨its1,rv1,p1,hz1⟩:=I1.sqB hq1;obtain ⟨its2,rv2,p2,hz2⟩:=I1.sqB hq2;refine aM9 p1 p2 fun h' a1 a2 a3 a4 a5 a6 a7=>?_;have hN:∀ k,s1.heap.objs.size<=s1.heap.objs.size+k:=fun k=>Nat.le_add_right _ _;have D:ZApart (s1.heap.objs.size+4) (s1.heap.objs.size+2) (s1.heap.objs.size+3) s1.heap.objs.size (s1.heap.objs.size+1):=by
    constructor<;>(intro e;exact absurd e (by simp [Addr]<;>omega))
   have I2:Inv X pins σ H1 { s1 with heap:=h' }:=I1.kept (t':=s1.toks) a7;refine wpAny_pyIter_zip a1 ⟨_,_,_,_,H1,rfl,I2,aN2 b c _ _ _ _ _ l1 l2 D,⟨a1,a2,⟨_,_,a3⟩,a4,a5⟩,fun x hx=>?_,q hz1⟩;have hx':s1.heap.objs.size<=x:=by
    simp only [List.mem_cons,List.not_mem_nil,or_false] at hx;rcases hx with rfl | rfl | rfl | rfl | rfl<;>simp
   obtain ⟨f0,f1,f2,f3,f4,f5⟩:=I1.fpOk (H':=H1) hx' (I1.hok.fresh hx');exact ⟨f0,f1,f2,f3,f4,f5⟩
end
end L2
namespace DL
open PySem PySem.Spec PyProof.Rows L2
section
variable {X:Cx} {elts:List Expr} {n:Nat} {tpos:Pos}
noncomputable def fU:W->Option (List PyData)
 | .d (.list xs)=>some xs
 | .d (.tuple xs)=>some xs
 | _=>none
noncomputable def mH (xs ys:List PyData):List PyData:=List.zipWith (fun x y=>.tuple [x,y]) xs ys
def dJ0 (t:DTA):DTI:=fun δ h Q=>t δ h fun ws h1=>∃ u w xs ys,ws=[u,w]/\fU u=some xs/\fU w=some ys/\Q (mH xs ys) none h1
noncomputable def bE6:W->Bool
 | .d (.tuple _)=>true
 | _=>false
def hV {K:Frag} {A μ:List Addr} {H:Hp} {u:W} {v:V} {xs:List PyData} (e:fU u=some xs) (r:RepW K A μ H u v):∃ p vs,v=.ref p/\SqB K (bE6 u) H p vs/\Reps K A H xs vs:=by
 unfold fU at e;split at e
 ·cases e;have z:Rep K A H (.list xs) v:=r;rw [Rep] at z;obtain ⟨p,vs,rfl,la,rr⟩:=z;exact ⟨p,vs,rfl,la.sq,rr⟩
 ·cases e;obtain ⟨p,vs,rfl,ta,rr⟩:=bE (h:=[]) r rfl;exact ⟨p,vs,rfl,ta.sq,rr⟩
 ·cases e
def cB9 {K:Frag} {A μ:List Addr} {H:Hp} {h:aA} {u w:W} {p q:Addr} {xs ys:List PyData} (R:HeapRep K A μ h H) (e1:fU u=some xs) (e2:fU w=some ys) (r1:RepW K A μ H u (.ref p)) (r2:RepW K A μ H w (.ref q)) :
  bB4 K A μ H (Itz K (bE6 u) (bE6 w) p q) (mH xs ys) none:=fun A' μ' H' h' y R' _=>by
 obtain ⟨p',vs,ep,sq1,rr1⟩:=hV e1 (r1.ext y R.sub);obtain ⟨q',ws,eq,sq2,rr2⟩:=hV e2 (r2.ext y R.sub);cases ep;cases eq;have l1:=rr1.length;have l2:=rr2.length;refine ⟨fun i z ez=>?_,fun i hi=>⟨vs,ws,sq1,sq2,?_⟩⟩
 ·unfold mH at ez;rw [List.getElem?_zipWith] at ez;have:∃ x y,xs[i]?=some x/\ys[i]?=some y/\z=.tuple [x,y]:=by
   cases h1:xs[i]?<;>cases h2:ys[i]?<;>rw [h1,h2] at ez<;>cases ez;exact ⟨_,_,rfl,rfl,rfl⟩
  obtain ⟨x,y,ex,ey,rfl⟩:=this;obtain ⟨vx,hvx,rx⟩:=rr1.get ex;obtain ⟨vy,hvy,ry⟩:=rr2.get ey;refine ⟨⟨vs,ws,vx,vy,sq1,sq2,hvx,hvy⟩,fun v H2 hy=>?_⟩;obtain ⟨a,x',y',rfl,ha,rfl,g1,g2⟩:=hy;have c1:=g1 vs sq1;have c2:=g2 ws sq2;rw [hvx] at c1;rw [hvy] at c2;cases c1;cases c2;refine ⟨bD ha,R'.fresh ha,dX R' ha ?_⟩;rw [Reps];exact ⟨_,_,rfl,rx,.one ry⟩
 ·unfold mH at hi;rw [List.length_zipWith] at hi;omega
def cC0 {a b:Expr} {t:DTA} {p pos:Pos} (hm:X.mg "zip"=none) (ha:DA X [a,b] t) (hg:Gl X "zip") (hs:starEach [a,b] X.env=[(false,eval a X.env),(false,eval b X.env)]) (hs2:starEach [b] X.env=[(false,eval b X.env)]) :
  DI X (.Tuple elts n tpos) (.Call (.Name "zip" p) [a,b] [] pos) (dJ0 t) :=
 gZ (cB8 hg hm ha hs hs2) fun σ H R q=>by
  obtain ⟨δ,h,A,μ,k,Rr,q,c⟩:=q;refine ⟨δ,h,A,μ,_,Rr,q,fun ws h1 vs H1 A1 μ1 q1 x1 R1 r1=>?_⟩;obtain ⟨u,w,xs,ys,rfl,e1,e2,q1⟩:=q1;obtain ⟨v,r,rfl,rv,r2⟩:=r1;obtain ⟨v',rfl,rv'⟩:=dA r2;obtain ⟨p,vs,rfl,sq1,rr1⟩:=hV e1 rv;obtain ⟨q,ws,rfl,sq2,rr2⟩:=hV e2 rv';refine ⟨p,q,_,_,vs,ws,rfl,sq1,sq2,fun hz=>c _ _ h1 _ H1 A1 μ1 q1 x1 R1 ?_ trivial (cB9 R1 e1 e2 rv rv')⟩;unfold mH;rw [List.length_zipWith];have l1:=rr1.length;omega
end
end DL
namespace ST
open PySem PySem.Spec PyProof.Rows
def Ris (xs:Array Nat):Prop:=xs.toList.Pairwise (· < ·)
def Ris.lt {xs:Array Nat} (h:Ris xs) {i k:Nat} {a b:Nat} (hik:i < k) (ha:xs[i]?=some a) (hb:xs[k]?=some b):a < b:=by
 unfold Ris at h;rw [List.pairwise_iff_getElem] at h;rw [Array.getElem?_eq_some_iff] at ha hb;obtain ⟨h1,rfl⟩:=ha;obtain ⟨h2,rfl⟩:=hb;exact h i k (by simpa using h1) (by simpa using h2) hik
theorem qV {xs:Array Nat} {j:Nat} (hx:Ris xs):∀ (fuel lo hi:Nat),hi - lo<=fuel->lo<=hi->hi<=xs.size->(∀ i a,i < lo->xs[i]?=some a->a < j)->(∀ i a,hi<=i->xs[i]?=some a->j<=a) ->
  (∀ i a,i < SetTable.below.go xs j fuel lo hi->xs[i]?=some a->a < j)/\(∀ i a,SetTable.below.go xs j fuel lo hi<=i->xs[i]?=some a->j<=a)/\SetTable.below.go xs j fuel lo hi<=xs.size
 | 0,lo,hi,h1,h2,h3,h4,h5=>by
  have:lo=hi:=by omega
  subst this;exact ⟨h4,h5,h3⟩
 | fuel+1,lo,hi,h1,h2,h3,h4,h5=>by
  unfold SetTable.below.go;split
  ·rename_i hlt;have hm:(lo+hi) / 2 < xs.size:=by omega
   have em:xs[(lo+hi) / 2]?=some xs[(lo+hi) / 2]:=Array.getElem?_eq_getElem hm;have eg:xs.getD ((lo+hi) / 2) j=xs[(lo+hi) / 2]:=by simp [Array.getD,hm]
   dsimp only;rw [eg];split
   ·rename_i hj;refine qV hx fuel _ _ (by omega) (by omega) h3 (fun i a hi' ha=>?_) h5
    by_cases e:i=(lo+hi) / 2
    ·subst e;rw [em] at ha;cases ha;exact hj
    ·exact Nat.lt_trans (hx.lt (by omega) ha em) hj
   ·rename_i hj;refine qV hx fuel _ _ (by omega) (by omega) (by omega) h4 (fun i a hi' ha=>?_)
    by_cases e:i=(lo+hi) / 2
    ·subst e;rw [em] at ha;cases ha;omega
    ·have:=hx.lt (show (lo+hi) / 2 < i by omega) em ha;omega
  ·have:lo=hi:=by omega
   subst this;exact ⟨h4,h5,h3⟩
def vX {xs:Array Nat} (hx:Ris xs) (j:Nat):(∀ i a,i < SetTable.below xs j->xs[i]?=some a->a < j)/\(∀ i a,SetTable.below xs j<=i->xs[i]?=some a->j<=a)/\SetTable.below xs j<=xs.size :=
 qV hx xs.size 0 xs.size (by omega) (by omega) (Nat.le_refl _) (fun i a h=>by omega) (fun i a h e=>by
  rw [Array.getElem?_eq_none (by omega)] at e;cases e)
def vY {xs:Array Nat} (hx:Ris xs) {j:Nat} (hj:xs[SetTable.below xs j]?≠some j):Ris (SetTable.insertAt xs (SetTable.below xs j) j):=by
 obtain ⟨h1,h2,h3⟩:=vX hx j;have e:(SetTable.insertAt xs (SetTable.below xs j) j).toList=xs.toList.take (SetTable.below xs j)++j::xs.toList.drop (SetTable.below xs j):=by
  simp [SetTable.insertAt,Array.toList_extract,List.extract_eq_take_drop,List.take_of_length_le]
 unfold Ris at hx ⊢;rw [e,List.pairwise_append,List.pairwise_cons];have mt:∀ a∈xs.toList.take (SetTable.below xs j),a < j:=fun a ha=>by
  obtain ⟨i,hi,ea⟩:=List.mem_iff_getElem.mp ha;rw [List.getElem_take] at ea;rw [List.length_take] at hi;refine h1 i a (by omega) ?_;rw [<- ea];exact Array.getElem?_eq_getElem (by simp at hi;omega)
 have md:∀ b∈xs.toList.drop (SetTable.below xs j),j < b:=fun b hb=>by
  obtain ⟨i,hi,eb⟩:=List.mem_iff_getElem.mp hb;rw [List.getElem_drop] at eb;rw [List.length_drop] at hi;have hlt:SetTable.below xs j+i < xs.size:=by simp at hi;omega
  have eg:xs[SetTable.below xs j+i]?=some b:=by rw [<- eb];exact Array.getElem?_eq_getElem hlt
  have q:=h2 _ b (by omega) eg;rcases Nat.lt_or_eq_of_le q with q | q
  ·exact q
  ·subst q;cases i with
   | zero=>exact absurd eg hj
   | succ i =>
    have e0:xs[SetTable.below xs j]?=some xs[SetTable.below xs j]:=Array.getElem?_eq_getElem (by omega);have:=Ris.lt hx (show SetTable.below xs j < SetTable.below xs j+(i+1) by omega) e0 eg;have q0:=h2 _ _ (Nat.le_refl _) e0;omega
 refine ⟨hx.sublist (List.take_sublist _ _),⟨md,hx.sublist (List.drop_sublist _ _)⟩,fun a ha b hb=>?_⟩;rcases List.mem_cons.mp hb with rfl | hb
 ·exact mt a ha
 ·exact Nat.lt_trans (mt a ha) (md b hb)
def aC6 (n:Nat):Ris (Array.range n):=by
 unfold Ris;rw [Array.toList_range];exact List.pairwise_lt_range
def free (t:SetTable) (j:Nat):Prop:=t.place[SetTable.below t.place j]?≠some j
def oX {t:SetTable} {j:Nat} (h:∀ i,t.slot j≠.live i):free t j:=by
 intro e;unfold SetTable.slot at h;dsimp only at h;rw [e] at h;simp at h
theorem iN {t:SetTable} {f:Nat->Int} {h:Int}:∀ (fuel:Nat) (p:SetTable.Probe),(∀ d,p.dummy=some d->free t d)->∀ j d,SetTable.probe.go t f h fuel p=some (.empty j d)->free t j/\∀ d',d=some d'->free t d'
 | 0,p,hp,j,d,e=>by simp [SetTable.probe.go] at e
 | fuel+1,p,hp,j,d,e=>by
  unfold SetTable.probe.go at e;split at e
  ·rename_i es;cases e;exact ⟨oX (fun i z=>by rw [es] at z;cases z),hp⟩
  ·rename_i es;refine iN fuel _ (fun d' ed=>?_) j d e;have:(t.advance { p with dummy:=some p.j }).dummy=some p.j:=by
    unfold SetTable.advance;split<;>rfl
   rw [this] at ed;cases ed;exact oX fun i z=>by rw [es] at z;cases z
  ·split at e
   ·cases e
   ·refine iN fuel _ (fun d' ed=>hp d' ?_) j d e;have:(t.advance p).dummy=p.dummy:=by
     unfold SetTable.advance;split<;>rfl
    rw [<- this];exact ed
def nM {t:SetTable} {h:Int} {j:Nat} {b:Bool} (e:t.freeSlot h=some (j,b)):free t j:=by
 unfold SetTable.freeSlot at e;split at e
 ·rename_i j' d ep;cases e;obtain ⟨f1,f2⟩:=iN _ _ (fun d ed=>by simp [SetTable.probeStart] at ed) _ _ ep;cases d with
  | none=>exact f1
  | some d=>exact f2 d rfl
 ·cases e
def aV (by_:Bool) (t:SetTable):Prop:=Ris t.place/\(by_=false->t.led=true)
def dR {by_:Bool} {t:SetTable} (h:aV by_ t) (n:Nat):aV by_ (t.standIn n):=⟨aC6 n,h.2⟩
def tM {by_:Bool} {t:SetTable} {es:Array (Int×Value)} {h:Int} {x:Value} (g:aV by_ t):aV by_ (layNew t es h x).2.1:=by
 unfold layNew;split
 ·rename_i slot wd e;dsimp only;have gp:aV by_ (t.put slot).1:=⟨vY g.1 (nM e),g.2⟩;unfold SetTable.orStandIn;split
  ·exact gp
  ·exact dR gp _
 ·exact dR g _
def aN3 {owner:Array (Option Nat)} (n:Nat):(((List.range n).filterMap fun j=>(owner.getD j none).map (j,·)).map (·.1)).Pairwise (· < ·):=by
 rw [List.pairwise_map];refine List.Pairwise.filterMap (R:=(· < ·)) _ (fun a a' hlt b hb b' hb'=>?_) (List.pairwise_lt_range (n:=n));obtain ⟨_,_,rfl⟩:=Option.map_eq_some_iff.mp hb;obtain ⟨_,_,rfl⟩:=Option.map_eq_some_iff.mp hb';exact hlt
def vZ {by_:Bool} {t:SetTable} {es:Array (Int×Value)} {n:Nat} (g:aV by_ t):aV by_ (relayAll t es n).2.1:=by
 unfold relayAll;split
 ·rename_i t' order e;dsimp only;split
  ·unfold SetTable.relaid SetTable.laid at e;dsimp only at e;obtain ⟨owner,_,e2⟩:=Option.bind_eq_some_iff.mp e;cases e2;refine ⟨?_,g.2⟩;unfold Ris;exact aN3 _
  ·exact dR g _
 ·exact dR g _
noncomputable def aN4:Value->Int
 | .int k _=>k
 | _=>0
section
variable {prog:Program} {w:World} {A:Around} {E:Value->Shared->Prop} {s:Shared}
abbrev txt (w:World):Bool:=w.params.followText "set-order"
structure Parts (prog:Program) (w:World) (o:Obj) (es:Array (Int×Value)) (ep:Nat) (t:SetTable) (ks:List Int):Prop where
 ex:o.ExactSet
 dat:o.data=.set es ep t
 el:ElemsOf (intKind prog w) es.toList
 ks:(es.toList.map fun e=>aN4 e.2).Perm ks
 few:es.size < scanBound
 fit:t.fits es.size=true
 good:aV (txt w) t
def SetI (prog:Program) (w:World) (h:Heap) (a:Addr) (ks:List Int):Prop:=∃ o es ep t,h.get? a=some o/\Parts prog w o es ep t ks
def SetI.keep {h h':Heap} {a:Addr} {ks:List Int} (x:SetI prog w h a ks) (e:∀ o,h.get? a=some o->h'.get? a=some o):SetI prog w h' a ks :=
 let ⟨o,es,ep,t,ho,p⟩:=x;⟨o,es,ep,t,e o ho,p⟩
def wA {k:Int} {v:Value} (h:(intKind prog w).is k v=true):∃ t,v=.int k t:=Value.isInt_shape h
def aN5 {es:List (Int×Value)} (h:ElemsOf (intKind prog w) es) {e:Int×Value} (he:e∈es):∃ t,e.2=.int (aN4 e.2) t:=by
 obtain ⟨⟨k,hk,_⟩,_⟩:=h e he;obtain ⟨t,q⟩:=wA hk;exact ⟨t,by rw [q];rfl⟩
def aC7 {es:List (Int×Value)} (h:ElemsOf (intKind prog w) es) {k:Int} (hf:es.findIdx? (fun e=>(intKind prog w).is k e.2)=none):k∉es.map fun e=>aN4 e.2:=by
 intro z;obtain ⟨e,he,q⟩:=List.mem_map.mp z;obtain ⟨t,e2⟩:=aN5 h he;have:=List.findIdx?_eq_none_iff.mp hf e he;rw [e2,q] at this;rw [intKind_is] at this;cases this
def aC8 {es:List (Int×Value)} {k:Int} {j:Nat} (hf:es.findIdx? (fun e=>(intKind prog w).is k e.2)=some j):k∈es.map fun e=>aN4 e.2:=by
 obtain ⟨hj,hp,_⟩:=List.findIdx?_eq_some_iff_getElem.mp hf;obtain ⟨t,q⟩:=wA hp;exact List.mem_map.mpr ⟨es[j],List.getElem_mem hj,by rw [q];rfl⟩
def kL {a:Addr} {o:Obj} {es es':Array (Int×Value)} {ep:Nat} {t t':SetTable} {ks':List Int} {h:Heap} (ho:h.get? a=some o) (hd:o.data=.set es ep t) (hx:o.ExactSet)
  (p:Parts prog w { o with data:=.set es' (ep+1) t' } es' (ep+1) t' ks'):(h.update a (Obj.putSet es' t')).get? a=some { o with data:=.set es' (ep+1) t' } :=
 (SetOf_store (knd:=intKind prog w) (S':=fun k=>decide (k∈es'.toList.map fun e=>aN4 e.2)) ho hx hd p.el (fun k=>by
  rw [decide_eq_true_eq,List.mem_map];constructor
  ·rintro ⟨e,he,rfl⟩;obtain ⟨q,e2⟩:=aN5 p.el he;exact ⟨e,he,by rw [e2];exact intKind_is _ _ _ _⟩
  ·rintro ⟨e,he,q⟩;obtain ⟨tk,e2⟩:=wA q;exact ⟨e,he,by rw [e2];rfl⟩) p.few p.fit).1
def xY {g:Bool->Sem Unit} (hg:∀ (b:Bool) (s₁:Shared) (Q':Unit->Shared->Prop),Q' () s₁->wpAny (model prog w) A (g b) Q' E s₁) {a:Addr} {o:Obj} {es es1:Array (Int×Value)} {ep:Nat} {t t2:SetTable} {ks':List Int}
  (ho:s.heap.get? a=some o) (hd:o.data=.set es ep t) (hx:o.ExactSet) (p:Parts prog w { o with data:=.set es1 (ep+1) t2 } es1 (ep+1) t2 ks') {wd:Bool} {R:Option Bool->Shared->Prop}
  (h:∀ h',Heap.SameBut a s.heap h'->SetI prog w h' a ks'->R (some true) { s with heap:=h' }) :
  wpAny (model prog w) A (do
   storeSet a es1 t2
   if (!wd&&t2.tooFull)=true then do
    g (relayAll t2 es1 (SetTable.grown es1.size)).2.2
    storeSet a (relayAll t2 es1 (SetTable.grown es1.size)).1 (relayAll t2 es1 (SetTable.grown es1.size)).2.1
    pure (some true)
   else pure (some true)) R E s:=by
 refine wpAny_bind (wpAny_storeSet_of ho hd ?_ (fits_of_scanBound p.few));have ho1:=kL ho hd hx p;have sb1:=Heap.SameBut.update s.heap a (Obj.putSet es1 t2);split
 ·have hp:=relayAll_perm t2 es1 (SetTable.grown es1.size);have hf:=relayAll_fits t2 es1 (SetTable.grown es1.size);have hgd:=vZ (es:=es1) (n:=SetTable.grown es1.size) p.good;have hz:(relayAll t2 es1 (SetTable.grown es1.size)).1.size=es1.size:=by simpa using hp.length_eq
  have p2:Parts prog w { o with data:=.set (relayAll t2 es1 (SetTable.grown es1.size)).1 (ep+1+1) (relayAll t2 es1 (SetTable.grown es1.size)).2.1 } (relayAll t2 es1 (SetTable.grown es1.size)).1 (ep+1+1) (relayAll t2 es1 (SetTable.grown es1.size)).2.1 ks' :=
   ⟨hx,rfl,p.el.perm hp,(hp.map _).trans p.ks,by rw [hz];exact p.few,hf,hgd⟩
  refine wpAny_bind (hg _ _ _ (wpAny_bind (wpAny_storeSet_of ho1 rfl (wpAny_pure (h _ (sb1.trans (Heap.SameBut.update _ a _)) ⟨_,_,_,_,kL ho1 rfl hx p2,p2⟩)) (fits_of_scanBound p2.few))))
 ·exact wpAny_pure (h _ sb1 ⟨_,_,_,_,ho1,p⟩)
def xZ {ks:List Int} {k:Int}:(ks.any (·==k))=decide (k∈ks):=by
 rw [Bool.eq_iff_iff,List.any_eq_true,decide_eq_true_eq];constructor
 ·rintro ⟨x,hx,e⟩;rw [<- eq_of_beq e];exact hx
 ·exact fun hx=>⟨k,hx,beq_self_eq_true k⟩
def cC1 {ks:List Int} {k:Int} (h:k∈ks):step_dedup ks k=ks:=by unfold step_dedup;rw [xZ,if_pos (decide_eq_true h)]
def cC2 {ks:List Int} {k:Int} (h:k∉ks):step_dedup ks k=ks++[k]:=by unfold step_dedup;rw [xZ,if_neg (by rw [decide_eq_true_eq];exact h)]
def add_int {a:Addr} {ks:List Int} {k:Int} {tk:Tok} {Q:Bool->Shared->Prop} (hS:SetI prog w s.heap a ks) (room:ks.length+1 < scanBound)
  (h:∀ b h',Heap.SameBut a s.heap h'->SetI prog w h' a (step_dedup ks k)->Q b { s with heap:=h' }):wpAny (model prog w) A (setAddHashed a (.int k tk) ((intKind prog w).hash k)) Q E s:=by
 obtain ⟨o,es,ep,t,ho,p⟩:=hS;have hk:(intKind prog w).is k (.int k tk)=true:=intKind_is _ _ _ _;have hsz:es.size=ks.length:=by have:=p.ks.length_eq;simpa using this
 unfold setAddHashed setAddHashedIn;refine wpAny_holding (wpAny_bind (wpAny_setState_of ho p.dat p.fit ?_));dsimp only;rw [byScan_of (x:=.int k tk) rfl p.few p.el];simp only [if_true];unfold setAddByScan;refine wpAny_bind (wpAny_bind (wpAny_rule (wpAny_bind (wpAny_setScan_of hk ho p.dat p.fit p.el ?_))));cases hr:List.findIdx? (fun e=>(intKind prog w).is k e.2) es.toList with
 | some j =>
  have hm:k∈ks:=p.ks.mem_iff.mp (aC8 hr);refine wpAny_pure (wpAny_pure ?_);have q:=h false s.heap (Heap.SameBut.refl a _) (by rw [cC1 hm];exact ⟨o,es,ep,t,ho,p⟩);cases s;exact q
 | none =>
  have hm:k∉ks:=fun z=>aC7 p.el hr (p.ks.mem_iff.mpr z);dsimp only;have gw:∀ (b:Bool) {s₁:Shared} {Q':Unit->Shared->Prop},Q' () s₁->wpAny (model prog w) A (match b with | true=>rule "set.scan.the-table-gave-way" | false=>pure ()) Q' E s₁:=fun b s₁ Q' q=>by
   cases b
   ·exact wpAny_pure q
   ·exact wpAny_rule q
  have lp:=layNew_perm t es ((intKind prog w).hash k) (.int k tk);have lf:=layNew_fits t es ((intKind prog w).hash k) (.int k tk);have lg:aV (txt w) (layNew t es ((intKind prog w).hash k) (.int k tk)).2.1:=tM p.good;generalize layNew t es ((intKind prog w).hash k) (.int k tk)=L at lp lf lg;obtain ⟨es1,t1,wd,gv⟩:=L;dsimp only at lp lf lg ⊢;rw [Array.toList_push] at lp;have z1:es1.size=ks.length+1:=by have:=lp.length_eq;simp at this;omega
  have mk:∀ t2:SetTable,t2.fits es1.size=true->aV (txt w) t2->Parts prog w { o with data:=.set es1 (ep+1) t2 } es1 (ep+1) t2 (step_dedup ks k):=fun t2 f2 g2 =>
   ⟨p.ex,rfl,(p.el.push hk rfl).perm lp,by
    rw [cC2 hm];refine (lp.map _).trans ?_;rw [List.map_append];exact p.ks.append (List.Perm.refl _),by omega,f2,g2⟩
  refine wpAny_bind (gw _ ?_);have fin:∀ h',Heap.SameBut a s.heap h'->SetI prog w h' a (step_dedup ks k)->wpAny (model prog w) A (pure true) (fun b s'=>Q b s') E { s with heap:=h' }:=fun h' b c=>wpAny_pure (h true h' b c);split
  ·refine wpAny_bind ?_;rw [hashByValue_scannable 8 (x:=.int k tk) rfl];refine wpAny_pure (xY (fun b s₁ Q' q=>?_) ho p.dat p.ex (mk _ ?_ ?_) fun h' b c=>wpAny_pure (h _ h' b c))
   ·cases b
    ·exact wpAny_pure q
    ·exact wpAny_rule q
   ·split
    ·exact lf
    ·exact SetTable.fits_plain_off lf
   ·split
    ·exact lg
    ·exact lg
  ·refine wpAny_bind (wpAny_pure ?_);simp only [if_true];refine xY (fun b s₁ Q' q=>?_) ho p.dat p.ex (mk _ lf lg) fun h' b c=>wpAny_pure (h _ h' b c);cases b
   ·exact wpAny_pure q
   ·exact wpAny_rule q
end
section
variable {prog:Program} {w:World} {A:Around} {E:Value->Shared->Prop} {s:Shared} {R:Result->Shared->Prop}
def aN6 {I:Addr} {fp wr:List Addr} {n:Nat} {P:Nat->Value->Prop} {St:Nat->Heap->Prop} (W:Walks prog w A.in1 I fp wr n P St) (S:Addr) (hS:S∉fp) (val:Nat->Int) (hval:∀ i v,P i v->∃ t,v=.int (val i) t) (hb:n+1 < scanBound) :
  ∀ (k i:Nat) (s:Shared),n - i=k->i<=n->St i s.heap->SetI prog w s.heap S (firstMet val i) ->
   (∀ h' tk,SetI prog w h' S (firstMet val n)->(∀ b o,b≠S->b∉wr->s.heap.get? b=some o->h'.get? b=some o)->R (.ok (.ret .none)) { s with heap:=h',toks:=tk }) ->
   codeAny (model prog w) A (.builtin "set.update.loop" ⟨[.ref S,.ref I],[]⟩) R s:=by
 have hw:S∉wr:=fun z=>hS (W.sub _ z);intro k;induction k with
 | zero =>
  intro i s hk hi st si hR;have e:i=n:=by omega
  subst e;refine codeAny_builtin F.entry_set_update_loop ?_;rw [Around.under_plainId F.plain_set_update_loop _];refine wpAny_bind (W.done s _ _ st fun h' tk hm=>wpAny_pure ?_);exact hR h' tk (si.keep fun o e=>hm S o hw e) fun b o _ hb e=>hm b o hb e
 | succ k ih =>
  intro i s hk hi st si hR;have hlt:i < n:=by omega
  refine codeAny_builtin F.entry_set_update_loop ?_;rw [Around.under_plainId F.plain_set_update_loop _];refine wpAny_bind (W.item i s _ _ hlt st fun v h1 tk1 hP st1 hm=>?_);obtain ⟨t,rfl⟩:=hval i v hP;have s1:SetI prog w h1 S (firstMet val i):=si.keep fun o e=>hm S o hw e;have fl:=firstMet_length_le val i;refine wpAny_bind (wpAny_holding ?_);unfold setAdd;refine wpAny_holding (wpAny_bind ((intKind prog w).pyHash (k:=val i) (intKind_is _ _ _ _) ?_));refine add_int (s:={ s with heap:=h1,toks:=tk1+1 }) s1 (by omega) fun b h2 sb s2=>?_;rw [<- firstMet_succ] at s2;refine wpAny_pure ⟨plainId_quiet F.plain_set_update_loop _,ih (i+1) _ (by omega) hlt (W.frame _ h1 _ st1 fun c hc o e=>?_) s2 fun h3 tk3 s3 k3=>hR h3 tk3 s3 fun c o n1 n2 e=>k3 c o n1 n2 ?_⟩
  ·rw [sb.2 c (fun z=>hS (by rw [<- z];exact hc))];exact e
  ·show h2.get? c=some o;rw [sb.2 c n1];exact hm c o n2 e
abbrev mJ (w:World):Obj:={ cls:=.type "set",dict:=none,data:=.set #[] 0 (.fresh 0 0 (!txt w)) }
def aC9:Parts prog w (mJ w) #[] 0 (.fresh 0 0 (!txt w)) [] where
 ex:=⟨rfl,rfl,rfl⟩
 dat:=rfl
 el:=fun e he=>by simp at he
 ks:=by simp
 few:=by decide
 fit:=rfl
 good:=⟨by simp [Ris,SetTable.fresh],fun e=>by rw [e];rfl⟩
def aN7 (a:Value) {Q₁:Value->Shared->Prop} (h:Q₁ (.ref s.heap.objs.size) { s with heap:=s.heap.push (mJ w) }) :
  codeAny (model prog w) A (.call (.builtin "set.__new__") ⟨[.type "set",a],[]⟩) (wants Q₁ E) s:=by
 refine codeAny_of_tree ?_;show wpAny _ _ (checkBuiltinCall "set.__new__" ⟨[.type "set",a],[]⟩ >>= fun _=>again (.builtin "set.__new__" ⟨[.type "set",a],[]⟩)) _ _ s;refine wpAny_bind (wpAny_of_eq (PySem.F.newCall_set_1 a) (wpAny_pure ⟨plainId_quiet PySem.F.plain_set_new _,codeAny_builtin PySem.F.entry_set_new ?_⟩));rw [Around.under_plainId PySem.F.plain_set_new _];have sub:=sub_set_self;unfold Builtin.«set.__new__» Builtin.Frozenset.newClass;obtain ⟨hp,g,d,tk,os⟩:=s;dsimp only
 wp_walk
 refine wpAny_askSetting (wpAny_pure ?_);dsimp only;simp only [newObj];exact wpAny_bind (wpAny_alloc (wpAny_pure (wpAny_pure h)))
def wB (ns:List Int):(List.range ns.length).map (fun i=>ns.getD i 0)=ns:=by
 apply List.ext_getElem
 ·simp
 ·intro i h1 h2;simp [h2]
noncomputable def dd (ns:List Int):List Int:=ns.foldl step_dedup []
def aN8 (ns:List Int):firstMet (fun i=>ns.getD i 0) ns.length=dd ns:=by
 unfold firstMet dd;rw [wB]
end
section
variable {prog:Program} {w:World} {A:Around} {E:Value->Shared->Prop} {s:Shared} {o:Obj} {es:Array (Int×Value)} {ep:Nat} {t:SetTable} {ks:List Int} {a:Addr}
end
section
variable {prog:Program} {w:World} {A:Around} {E:Value->Shared->Prop} {s:Shared} {o:Obj} {es:Array (Int×Value)} {ep:Nat} {t:SetTable} {ks:List Int} {a:Addr}
end
section
variable {prog:Program} {w:World} {A:Around} {E:Value->Shared->Prop} {s:Shared} {o:Obj} {es:Array (Int×Value)} {ep:Nat} {t:SetTable} {ks:List Int} {a:Addr}
end
end ST
namespace L2
open PySem PySem.Spec PyProof.Rows ST
section
variable {X:Cx}
def yA {e:Expr} {pos:Pos} {P:List Value->Shared->Prop} {E:Value->Shared->Prop} {s:Shared} (hs:starEach [e] X.env=[(false,eval e X.env)]) (h:wpAny (model X.prog X.w) X.A (eval e X.env) (fun v s1=>P [v] s1) E s) :
  wpAny (model X.prog X.w) X.A (spliced (backTo pos (starEach [e] X.env))) P E s:=by
 rw [hs];show wpAny _ _ (spliced ((false,eval e X.env)::backTo pos [])) _ _ s;exact Calls.spliced_cons (thn h fun u s1 q=>wpAny_pure q)
def bE7 {ns:List Int}:∀ {its:List Value},Vals (ns.map V.int) its->IntsAre its ns:=by
 induction ns with
 | nil=>intro its h;cases h;exact .nil
 | cons k r ih =>
  intro its h;cases h with
  | cons q t =>
   obtain ⟨tk,rfl⟩:=q;exact .cons _ _ (ih t)
def cC3 (ns:List Int):(dd ns).length<=ns.length:=by
 rw [<- aN8];exact firstMet_length_le _ _
end
end L2
namespace ST
open PySem PySem.Spec PyProof.Rows
section
variable {prog:Program} {w:World} {A:Around} {E:Value->Shared->Prop} {s:Shared}
end
section
variable {prog:Program} {w:World} {A:Around} {E:Value->Shared->Prop} {s:Shared}
end
end ST
namespace L2
open PySem PySem.Spec PyProof.Rows ST
section
variable {X:Cx}
end
end L2
namespace PySem
open PySem.Spec PyProof.Rows
abbrev cC4 (h:Heap) (z TI TO:Addr) (f0:Value) (f:Bool):Prop:=h.get? z=some { cls:=.type "zip",data:=.fields #[f0,.bool f,.bool false,.ref TI,.ref TO] }
section
variable {prog:Program} {w:World} {A:Around} {E:Value->Shared->Prop} {s:Shared}
end
structure ZL (b c:Bool) (z TI TO i1 i2 l1 l2 S lo:Addr) (xs ys:Array Value) (h:Heap) (as bs:List Addr) (cnt:Nat):Prop where
 zp:(as=[]/\IsZip h z TI TO .none/\∃ u v,IsPair h TO u v)\/∃ (T0:Addr) (f:Bool) (o:Obj),cC4 h z TI TO (rawInt T0) f/\h.get? T0=some o/\lo<=T0
 ti:IsPair h TI (.ref i1) (.ref i2)
 a1:ItAt b h i1 l1 as.length
 a2:ItAt c h i2 l2 as.length
 s1:SqAt b h l1 xs
 s2:SqAt c h l2 ys
 ls:h.get? S=some { cls:=.type "list",dict:=none,data:=.seq (bs.map Value.ref).toArray cnt,slots:=#[] }
 pr:∀ (j:Nat) (a:Addr),as[j]?=some a->lo<=a/\∃ x y,xs[j]?=some x/\ys[j]?=some y/\IsPair h a x y
 nd:as.Pairwise (· < ·)
structure ZLow (z TI TO i1 i2 l1 l2 S lo:Addr):Prop where
 pz:z < lo
 pTI:TI < lo
 pTO:TO < lo
 p1:i1 < lo
 p2:i2 < lo
 pS:S < lo
 Sz:S≠z
 STI:S≠TI
 STO:S≠TO
 Si1:S≠i1
 Si2:S≠i2
 Sl1:S≠l1
 Sl2:S≠l2
 l1z:l1≠z
 l2z:l2≠z
 l2T:l2≠TO
 l2i:l2≠i1
 l1T:l1≠TO
 l1i1:l1≠i1
 l1i2:l1≠i2
 l2i2:l2≠i2
section
variable {prog:Program} {w:World} {A:Around} {E:Value->Shared->Prop} {s:Shared} {R:Result->Shared->Prop} {b c:Bool} {z TI TO i1 i2 l1 l2 S lo:Addr} {xs ys:Array Value} {as bs:List Addr} {cnt:Nat}
end
section
variable {prog:Program} {w:World} {A:Around} {E:Value->Shared->Prop} {s:Shared} {R:Result->Shared->Prop} {b c:Bool} {z TI TO i1 i2 l1 l2 S lo:Addr} {xs ys:Array Value}
end
end PySem
namespace L2
open PySem PySem.Spec PyProof.Rows ST
section
variable {X:Cx} {pins:List (Addr×Obj)} {σ:St} {H:Hp} {s:Shared} {h':Heap} {news:List (Addr×HO)}
end
end L2
namespace DL
open PySem PySem.Spec PyProof.Rows L2 ST
noncomputable def iE:List PyData->Option (List Int)
 | []=>some []
 | .int i::r=>(iE r).map (i::·)
 | _=>none
section
variable {K:Frag} {A μ:List Addr} {H H':Hp} {h:aA}
theorem oY:∀ {xs:List PyData} {ns:List Int} {vs:List V},iE xs=some ns->Reps K A H xs vs->vs=ns.map V.int
 | [],ns,vs,e,r=>by cases e;rw [Reps] at r;exact r
 | x::xs,ns,vs,e,r=>by
  unfold iE at e;split at e
  ·rename_i q;cases q
  ·rename_i i r0 q;cases q;obtain ⟨ms,e2,rfl⟩:=Option.map_eq_some_iff.mp e;rw [Reps] at r;obtain ⟨v,r',rfl,r1,r2⟩:=r;rw [Rep] at r1;subst r1;rw [oY e2 r2];rfl
  ·cases e
theorem oZ:∀ ns:List Int,Reps K A H (ns.map .int) (ns.map V.int)
 | []=>.nil
 | n::r=>.cons (by rw [Rep]) (oZ r)
end
section
variable {X:Cx}
def aN9 {K:Frag} {A:List Addr} {H:Hp} (i:Int) (n:Nat):Reps K A H (rng i n) ((List.range n).map fun (k:Nat)=>V.int (i+k)):=by
 have e:rng i n=((List.range n).map fun (k:Nat)=>i+k).map PyData.int:=by
  unfold rng;rw [List.map_map];rfl
 rw [e,show ((List.range n).map fun (k:Nat)=>V.int (i+k))=((List.range n).map fun (k:Nat)=>i+k).map V.int by rw [List.map_map];rfl];exact oZ _
end
end DL
namespace PySem
open PySem.Spec PyProof.Rows
def SqAt.ob {b:Bool} {h:Heap} {l:Addr} {xs:Array Value} (x:SqAt b h l xs):∃ o,h.get? l=some o:=by cases b<;>exact ⟨_,x.choose_spec.1⟩
def ItAt.ob {b:Bool} {h:Heap} {it l:Addr} {i:Nat} (x:ItAt b h it l i):∃ o,h.get? it=some o:=by cases b<;>exact ⟨_,x.choose_spec.1⟩
def aO0 (b:Bool) (l:Addr) (xs:Array Value):Meets (Builtin.«enumerate.__new__» ⟨[.type "enumerate",.ref l],[]⟩) fun _ R s=>SqAt b s.heap l xs /\
  R (.ok (.ret (.ref (s.heap.push (jU b l)).objs.size))) { s with heap:=(s.heap.push (jU b l)).push { cls:=.type "enumerate",data:=.fields #[.none,.bool false,.ref s.heap.objs.size,rawInt 0,.none,.none] } }:=by
 refine Meets.of_wp fun prog w A R s h=>?_;obtain ⟨h1,h⟩:=h;obtain ⟨o,ho⟩:=h1.ob;obtain ⟨hp,g,d,tk,os⟩:=s;have hsub:=sub_enumerate
 wp_walk using AutoSeq1.wpAny_loadPart' ho
 refine wpAny_stack_any fun st=>wpAny_pure ?_;split
 ·rename_i c _ _ _ _ _;cases (c==Value.type "enumerate")
  ·wp_walk using AutoSeq1.wpAny_loadPart' ho,fI h1
   exact ⟨_,rfl,h⟩
  ·wp_walk using AutoSeq1.wpAny_loadPart' ho,fI h1
   exact ⟨_,rfl,h⟩
 ·wp_walk using AutoSeq1.wpAny_loadPart' ho,fI h1
  exact ⟨_,rfl,h⟩
section
variable {prog:Program} {w:World} {A:Around} {E:Value->Shared->Prop} {s:Shared}
def bE8 {b:Bool} {e it l:Addr} {i:Nat} {items:Array Value} {x old:Value} {Q:Option Value->Shared->Prop}
  (he:IsEnum s.heap e it i old) (hit:ItAt b s.heap it l i) (hl:SqAt b s.heap l items) (hx:items[i]?=some x) (hne:e≠it)
  (hQ:∀ h',IsEnumOut h' e it ((i:Int)+1) x s.heap.objs.size->ItAt b h' it l (i+1)->h'.get? s.heap.objs.size=some { cls:=.type "tuple",data:=.seq #[.int i s.toks,x] }->h'.objs.size=s.heap.objs.size+1 ->
   (∀ c o,c≠e->c≠it->s.heap.get? c=some o->h'.get? c=some o)->Q (some (.ref s.heap.objs.size)) { s with heap:=h',toks:=s.toks+1 }):wpAny (model prog w) A (pyNext (.ref e)) Q E s:=by
 have hT:s.TypeIs (.ref e) "enumerate":=⟨_,he,rfl⟩;have ne':∀ {h1 h2:Heap},Heap.SameBut e h1 h2->∀ o,h1.get? it=some o->h2.get? it=some o:=fun sb o q=>(sb.2 _ hne.symm).trans q;unfold pyNext;refine wpAny_bind (wpAny_attempt (wpAny_callSpecial?_slot (name:=Str.ofString "__next__") hT F.slot_enumerate_next (wpAny_call_entry F.slot_enumerate_next hT F.entry_enumerate_next ?_ (F.args_enumerate_next_1 _))));unfold Builtin.«enumerate.__next__»;refine wpAny_bind (wpAny_pure (a:=(Value.ref e,[])) (wpAny_bind (wpAny_field he rfl (x:=.ref it) rfl (wpAny_bind (eV hit hl hx fun H1 it1 e1=>?_)))));have he1:IsEnum H1 e it i old:=(e1.2 _ hne).trans he;refine wpAny_bind (wpAny_field he1 rfl (x:=rawInt i) rfl ?_);dsimp only [rawInt];refine wpAny_bind (wpAny_field he1 rfl (x:=.none) rfl ?_);rw [if_pos (by rfl)];refine wpAny_bind (wpAny_mkInt ?_);refine wpAny_bind (wpAny_setField_rec he1 (by simp) fun H2 he2 s2=>wpAny_bind (wpAny_setField_rec (s:={ s with heap:=H2,toks:=s.toks+1 }) he2 (by simp) fun H3 he3 s3=>?_));have he3':IsEnum H3 e it ((i:Int)+1) old:=he3;have z3:H3.objs.size=s.heap.objs.size:=by
  have q2:H2.objs.size=H1.objs.size:=s2.1;have q3:H3.objs.size=H2.objs.size:=s3.1;rw [q3,q2];exact e1.1
 refine wpAny_bind (wpAny_newTuple (items:=[.int i s.toks,x]) ?_);have he4:IsEnum (H3.push { cls:=.type "tuple",data:=.seq #[.int i s.toks,x] }) e it ((i:Int)+1) old:=Heap.get?_push_of_some _ he3';have g4:(H3.push { cls:=.type "tuple",data:=.seq #[.int i s.toks,x] }).get? s.heap.objs.size=some { cls:=.type "tuple",data:=.seq #[.int i s.toks,x] }:=by rw [<- z3];exact Heap.get?_push_size _ rfl
 have z4:(H3.push { cls:=.type "tuple",data:=.seq #[.int i s.toks,x] }).objs.size=s.heap.objs.size+1:=by rw [Heap.size_push,z3]
 have k4:∀ c o,c≠e->c≠it->s.heap.get? c=some o->(H3.push { cls:=.type "tuple",data:=.seq #[.int i s.toks,x] }).get? c=some o:=fun c o n1 n2 q=>Heap.get?_push_of_some _ ((s3.2 _ n1).trans ((s2.2 _ n1).trans ((e1.2 _ n2).trans q)));have it4:ItAt b (H3.push { cls:=.type "tuple",data:=.seq #[.int i s.toks,x] }) it l (i+1):=it1.keep fun o q=>Heap.get?_push_of_some _ (ne' s3 o (ne' s2 o q));refine wpAny_bind ?_;unfold Builtin.SmallTypes.ownedTupleIsFree;refine wpAny_bind (wpAny_field he4 rfl (x:=.none) rfl (wpAny_pure ?_));rw [if_pos rfl];have el:s.heap.objs.size≠e:=Nat.ne_of_gt (Heap.lt_size he);refine wpAny_bind (wpAny_rule (wpAny_bind (wpAny_field he4 rfl (x:=old) rfl (wpAny_bind (wpAny_setField_rec (s:={ s with heap:=H3.push { cls:=.type "tuple",data:=.seq #[.int i s.toks,x] },toks:=s.toks+1 }) he4 (by simp) fun H5 he5 s5=>wpAny_bind ?_)))));unfold Builtin.SmallTypes.ownedTupleHandOut;rw [z3];refine wpAny_bind (wpAny_setField_rec (s:={ s with heap:=H5,toks:=s.toks+1 }) he5 (by simp) fun H6 he6 s6=>wpAny_setField_rec (s:={ s with heap:=H6,toks:=s.toks+1 }) he6 (by simp) fun H7 he7 s7=>wpAny_bind (wpAny_letGo (wpAny_pure ⟨_,rfl,wpAny_pure (hQ H7 he7 ?_ ?_ ?_ fun c o n1 n2 q=>?_)⟩)))
 ·exact it4.keep fun o q=>ne' s7 o (ne' s6 o (ne' s5 o q))
 ·exact (s7.2 _ el).trans ((s6.2 _ el).trans ((s5.2 _ el).trans g4))
 ·have q5:H5.objs.size=_:=s5.1;have q6:H6.objs.size=H5.objs.size:=s6.1;have q7:H7.objs.size=H6.objs.size:=s7.1;rw [q7,q6,q5];exact z4
 ·exact (s7.2 _ n1).trans ((s6.2 _ n1).trans ((s5.2 _ n1).trans (k4 c o n1 n2 q)))
def cC5 {b:Bool} {e it l:Addr} {i:Nat} {items:Array Value} {old:Value} {Q:Option Value->Shared->Prop} (hh:A.handled=none) (he:IsEnum s.heap e it i old) (hit:ItAt b s.heap it l i) (hl:SqAt b s.heap l items) (hx:items[i]?=none)
  (hQ:∀ h',(∀ c o,c≠it->s.heap.get? c=some o->h'.get? c=some o)->Q none { s with heap:=h' }):wpAny (model prog w) A (pyNext (.ref e)) Q E s:=by
 have hT:s.TypeIs (.ref e) "enumerate":=⟨_,he,rfl⟩;unfold pyNext;refine wpAny_bind (wpAny_attempt (wpAny_callSpecial?_slot (name:=Str.ofString "__next__") hT F.slot_enumerate_next (wpAny_call_entry F.slot_enumerate_next hT F.entry_enumerate_next ?_ (F.args_enumerate_next_1 _))));unfold Builtin.«enumerate.__next__»;refine wpAny_bind (wpAny_pure (a:=(Value.ref e,[])) (wpAny_bind (wpAny_field he rfl (x:=.ref it) rfl (wpAny_bind (iM (A:=A.in1) hh hit hl hx fun H1 x k1 ⟨o,ho,hc⟩=>?_)))));exact wpAny_bind (wpAny_isInstance ⟨o,ho,hc⟩ isSubtype_stop (wpAny_pure (hQ H1 k1)))
end
end PySem
namespace L2
open PySem PySem.Spec PyProof.Rows ST
def Ite (K:Frag) (b:Bool) (l:Addr):It :=
 ⟨fun i H=>∃ xs x,SqB K b H l xs/\xs[i]?=some x,
  fun i H v H'=>∃ p x,v=.ref p/\H p=none/\H'=upd H p (.tup [.int i,x])/\∀ xs,SqB K b H l xs->xs[i]?=some x,
  fun i H=>∃ xs,SqB K b H l xs/\xs.length<=i⟩
def ESt (b:Bool) (e it l:Addr) (i:Nat) (h:Heap):Prop:=(∃ old,IsEnum h e it i old)/\ItAt b h it l i
def aD0 {P:Program} {w:World} {K:Frag} {elts:List Expr} {n:Nat} {pos:Pos} (b:Bool) (e it l:Addr) (hne:e≠it):Turn P w K (.Tuple elts n pos) (Ite K b l) [e,it] e (ESt b e it l) where
 mem:=by simp
 obj:=fun i h st a ha=>by
  obtain ⟨⟨old,s1⟩,s2⟩:=st;simp only [List.mem_cons,List.not_mem_nil,or_false] at ha;rcases ha with rfl | rfl
  ·exact ⟨_,s1,fun v z=>by cases z⟩
  ·cases b<;>· obtain ⟨o,e,_,d⟩:=s2;exact ⟨o,e,fun v z=>by rw [d] at z;cases z⟩
 keep:=fun i h h' st k=>by
  obtain ⟨⟨old,s1⟩,s2⟩:=st;exact ⟨⟨old,k e (by simp) _ s1⟩,s2.keep fun o q=>k it (by simp) o q⟩
 item:=by
  intro X hP hw hK hc i pins s σ H E I hf st hg;subst hP hw hK;obtain ⟨xs,x,hq,hx⟩:=hg;obtain ⟨⟨old,s1⟩,s2⟩:=st;obtain ⟨its,rv,p1,hz⟩:=I.sqB hq;obtain ⟨u,hu,ru⟩:=rv.get hx;refine bE8 s1 s2 p1 (x:=u) (by simpa using hu) hne fun h' a1 a2 a3 a4 a5=>⟨_,rfl,wpAny_letOwnedTupleGo_enum (s:={ s with heap:=h',toks:=s.toks+1 }) a1 fun h'' b1 b2=>?_⟩;have nz:∀ {a o},s.heap.get? a=some o->a≠s.heap.objs.size:=fun q=>Nat.ne_of_lt (Heap.lt_size q);have I1:Inv X pins σ (upd H s.heap.objs.size (.tup [.int i,x])) { s with heap:=s.heap.push { cls:=.type "tuple",data:=.seq #[.int i s.toks,u] },toks:=s.toks+1 } :=
   I.laid (t':=s.toks+1) (fun b o q=>Heap.get?_push_of_some _ q) (Nat.le_refl _) (show ObjOk X.prog X.w _ _ _ (.tup [.int i,x]) from ⟨by simp [sizeLine_eq],[.int i s.toks,u],.cons ⟨_,rfl⟩ (.cons ru .nil),IsTupD.new _ _⟩)
  have ob:∀ a∈[e,it],∃ o,s.heap.get? a=some o:=fun a ha=>by
   simp only [List.mem_cons,List.not_mem_nil,or_false] at ha;rcases ha with rfl | rfl
   ·exact ⟨_,s1⟩
   ·exact s2.ob
  have un:∀ a∈[e,it],upd H s.heap.objs.size (.tup [.int i,x]) a=none:=fun a ha=>by
   obtain ⟨o,q⟩:=ob a ha;rw [aM (nz q)];exact (hf a ha).1
  have hf1:∀ a∈[e,it],iI X pins (upd H s.heap.objs.size (.tup [.int i,x])) a:=fun a ha=>⟨un a ha,(hf a ha).2⟩;have I2:Inv X pins σ (upd H s.heap.objs.size (.tup [.int i,x])) { s with heap:=h'',toks:=s.toks+1 }:=Inv.turnedL (s:={ s with heap:=s.heap.push { cls:=.type "tuple",data:=.seq #[.int i s.toks,u] },toks:=s.toks+1 }) I1 (t':=s.toks+1) (ch:=[e,it]) (fun a o ha q=>by
   simp only [List.mem_cons,List.not_mem_nil,or_false,not_or] at ha;refine (b2.2 a ha.1).trans ?_
   by_cases hs:a=s.heap.objs.size
   ·subst hs;have q':(s.heap.push { cls:=.type "tuple",data:=.seq #[.int i s.toks,u] }).get? s.heap.objs.size=some o:=q;rw [Heap.get?_push_size _ rfl] at q';cases q';exact a3
   ·have q':(s.heap.push { cls:=.type "tuple",data:=.seq #[.int i s.toks,u] }).get? a=some o:=q;rw [Heap.get?_push_ne _ _ _ hs] at q';exact a5 a o ha.1 ha.2 q') hf1
  refine ⟨.ref s.heap.objs.size,_,I2,rfl,⟨_,x,rfl,I.hok.fresh (Nat.le_refl _),rfl,fun zs hz=>?_⟩,⟨⟨u,?_⟩,?_⟩,un⟩
  ·rw [I.sqB_inj hz hq];exact hx
  ·have:((i+1:Nat):Int)=(i:Int)+1:=by omega
   unfold IsEnum;rw [this];exact b1
  ·exact a2.keep fun o q=>(b2.2 _ hne.symm).trans q
 done:=by
  intro X hP hw hK hc i pins s σ H E I hf st hg;subst hP hw hK;obtain ⟨xs,hq,hl⟩:=hg;obtain ⟨⟨old,s1⟩,s2⟩:=st;obtain ⟨its,rv,p1,hz⟩:=I.sqB hq;have l1:=rv.length;refine cC5 (I.ok.hd hc) s1 s2 p1 (by simp;omega) fun h' kk=>⟨rfl,?_⟩;exact I.turnedL (t':=s.toks) (ch:=[e,it]) (fun a o ha q=>by
   simp only [List.mem_cons,List.not_mem_nil,or_false,not_or] at ha;exact kk a o ha.2 q) hf
 self:=fun _ _ s _ _ st h=>by
  obtain ⟨⟨old,s1⟩,s2⟩:=st;have hT:s.TypeIs (.ref e) "enumerate":=⟨_,s1,rfl⟩;refine wpAny_pyIter_slot hT PySem.F.slot_enumerate_iter (wpAny_call_entry PySem.F.slot_enumerate_iter hT PySem.F.entry_enumerate_iter ?_ (PySem.F.args_enumerate_iter_1 _));show wpAny _ _ (ret (.ref e)) _ _ s;exact wpAny_pure ⟨_,rfl,"enumerate",_,hT,PySem.F.slot_enumerate_next.lookup,h⟩
section
variable {X:Cx} {elts:List Expr} {n:Nat} {tpos:Pos}
def cR6 (K:Frag) (t:TA):TI:=fun σ H R=>t σ H fun vs H1=>∃ p b xs,vs=[.ref p]/\SqB K b H1 p xs/\(xs.length<=sizeLine->R (Ite K b p) H1)
def bE9 {a:Expr} {ta:TA} {p pos:Pos} (hg:Gl X "enumerate") (hm:X.mg "enumerate"=none) (ha:PA X [a] ta) (hs:starEach [a] X.env=[(false,eval a X.env)]) :
  PI X (.Tuple elts n tpos) (.Call (.Name "enumerate" p) [a] [] pos) (cR6 X.K ta):=by
 intro pins s σ H R I h;refine Call_ (eE (u:=.type "enumerate") I hg hm (by decide +kernel) (PyProof.Rows.callWith_type1 (thn (ha pos pins s σ H _ I h) fun us s1 ⟨vs,H1,I1,r1,q1⟩=>?_) hs rfl));obtain ⟨l,b,xs,e,hq,q⟩:=q1;subst e;obtain ⟨u,rfl,ru⟩:=kE r1;cases ru;obtain ⟨its,rv,p1,hz⟩:=I1.sqB hq;refine callType_new PySem.F.called_enumerate (by decide) (PySem.F.typeCall_enumerate_1 _) (PySem.F.newCall_enumerate_1 _) (fun obj=>PySem.F.args_object_init_2 obj _) PySem.F.entry_enumerate_new (aO0 b l its.toArray) ⟨p1,⟨_,Heap.get?_push_size _ rfl,rfl⟩,?_⟩;have z1:(s1.heap.push (jU b l)).objs.size=s1.heap.objs.size+1:=by rw [Heap.size_push]
 have ge:((s1.heap.push (jU b l)).push { cls:=.type "enumerate",data:=.fields #[.none,.bool false,.ref s1.heap.objs.size,rawInt 0,.none,.none] }).get? (s1.heap.push (jU b l)).objs.size=some { cls:=.type "enumerate",data:=.fields #[.none,.bool false,.ref s1.heap.objs.size,rawInt 0,.none,.none] }:=Heap.get?_push_size _ rfl;have gi:((s1.heap.push (jU b l)).push { cls:=.type "enumerate",data:=.fields #[.none,.bool false,.ref s1.heap.objs.size,rawInt 0,.none,.none] }).get? s1.heap.objs.size=some (jU b l):=Heap.get?_push_of_some _ (Heap.get?_push_size _ rfl);have I2:Inv X pins σ H1 { s1 with heap:=(s1.heap.push (jU b l)).push { cls:=.type "enumerate",data:=.fields #[.none,.bool false,.ref s1.heap.objs.size,rawInt 0,.none,.none] } }:=I1.kept (t':=s1.toks) fun c o e=>Heap.get?_push_of_some _ (Heap.get?_push_of_some _ e);have hne:(s1.heap.push (jU b l)).objs.size≠s1.heap.objs.size:=by rw [z1];exact Nat.succ_ne_self _
 refine wpAny_pyIter_enum (s:={ s1 with heap:=_ }) ge ⟨_,_,_,_,H1,rfl,I2,aD0 b _ s1.heap.objs.size l hne,⟨⟨.none,ge⟩,ItAt.new gi⟩,fun x hx=>?_,q hz⟩;have hx':s1.heap.objs.size<=x:=by
  simp only [List.mem_cons,List.not_mem_nil,or_false] at hx;rcases hx with rfl | rfl
  ·rw [z1];exact Nat.le_succ _
  ·exact Nat.le_refl _
 obtain ⟨f0,f1,f2,f3,f4,f5⟩:=I1.fpOk (H':=H1) hx' (I1.hok.fresh hx');exact ⟨f0,f1,f2,f3,f4,f5⟩
end
end L2
namespace DL
open PySem PySem.Spec PyProof.Rows L2 ST
section
variable {X:Cx} {elts:List Expr} {n:Nat} {tpos:Pos}
noncomputable def iF (k:Nat):List PyData->List PyData
 | []=>[]
 | x::r=>.tuple [.int k,x]::iF (k+1) r
noncomputable def fJ (xs:List PyData):List PyData:=iF 0 xs
theorem pA:∀ {xs:List PyData} {k i:Nat} {z:PyData},(iF k xs)[i]?=some z->∃ x,xs[i]?=some x/\z=.tuple [.int (k+i:Nat),x]
 | [],k,i,z,e=>by simp [iF] at e
 | x::r,k,0,z,e=>by simp [iF] at e;exact ⟨x,rfl,by rw [<- e];rfl⟩
 | x::r,k,i+1,z,e=>by
  rw [iF] at e;obtain ⟨y,e1,e2⟩:=pA (xs:=r) (k:=k+1) (i:=i) (by simpa using e);exact ⟨y,by simpa using e1,by rw [e2,show k+1+i=k+(i+1) by omega]⟩
theorem jV:∀ (xs:List PyData) (k:Nat),(iF k xs).length=xs.length
 | [],_=>rfl
 | x::r,k=>by rw [iF,List.length_cons,jV,List.length_cons]
def cR7 (t:DTA):DTI:=fun δ h Q=>t δ h fun ws h1=>∃ u xs,ws=[u]/\fU u=some xs/\Q (fJ xs) none h1
def cC6 {K:Frag} {A μ:List Addr} {H:Hp} {h:aA} {u:W} {p:Addr} {xs:List PyData} (R:HeapRep K A μ h H) (e1:fU u=some xs) (r1:RepW K A μ H u (.ref p)) :
  bB4 K A μ H (Ite K (bE6 u) p) (fJ xs) none:=fun A' μ' H' h' y R' _=>by
 obtain ⟨p',vs,ep,sq1,rr1⟩:=hV e1 (r1.ext y R.sub);cases ep;have l1:=rr1.length;refine ⟨fun i z ez=>?_,fun i hi=>⟨vs,sq1,?_⟩⟩
 ·obtain ⟨x,ex,rfl⟩:=pA ez;obtain ⟨vx,hvx,rx⟩:=rr1.get ex;refine ⟨⟨vs,vx,sq1,hvx⟩,fun v H2 hy=>?_⟩;obtain ⟨a,x',rfl,ha,rfl,g1⟩:=hy;have c1:=g1 vs sq1;rw [hvx] at c1;cases c1;refine ⟨bD ha,R'.fresh ha,dX R' ha (.cons ?_ (.one rx))⟩;rw [Rep,Nat.zero_add]
 ·unfold fJ at hi;rw [jV] at hi;omega
def bF0 {a:Expr} {t:DTA} {p pos:Pos} (hm:X.mg "enumerate"=none) (ha:DA X [a] t) (hg:Gl X "enumerate") (hs:starEach [a] X.env=[(false,eval a X.env)]) :
  DI X (.Tuple elts n tpos) (.Call (.Name "enumerate" p) [a] [] pos) (cR7 t) :=
 gZ (bE9 hg hm ha hs) fun σ H R q=>by
  obtain ⟨δ,h,A,μ,k,Rr,q,c⟩:=q;refine ⟨δ,h,A,μ,_,Rr,q,fun ws h1 vs H1 A1 μ1 q1 x1 R1 r1=>?_⟩;obtain ⟨u,xs,rfl,e1,q1⟩:=q1;obtain ⟨v,rfl,rv⟩:=dA r1;obtain ⟨p,vs,rfl,sq1,rr1⟩:=hV e1 rv;refine ⟨p,_,vs,rfl,sq1,fun hz=>c _ _ h1 _ H1 A1 μ1 q1 x1 R1 ?_ trivial (cC6 R1 e1 rv)⟩;unfold fJ;rw [jV];have l1:=rr1.length;omega
end
end DL
namespace L2
open PySem PySem.Spec PyProof.Rows
section
variable {prog:Program} {w:World} {A:Around} {E:Value->Shared->Prop} {s:Shared}
end
end L2
namespace DL
open PySem PySem.Spec PyProof.Rows L2 ST
section
variable {X:Cx}
abbrev OfX (f:List W->aA->Option (W×aA)):DC:=fun ws h Q=>∃ r h',f ws h=some (r,h')/\Q r h'
end
end DL
namespace ST
open PySem PySem.Spec PyProof.Rows PySem.W
section
variable {prog:Program} {w:World} {A:Around} {E:Value->Shared->Prop} {s:Shared}
end
section
variable {prog:Program} {w:World} {A:Around} {E:Value->Shared->Prop} {s:Shared}
end
end ST
namespace L2
open PySem PySem.Spec PyProof.Rows ST
section
variable {X:Cx}
end
end L2
namespace L2
open PySem PySem.Spec PyProof.Rows
section
variable {X:Cx}
noncomputable def cR8:V->V->V->Hp->(Hp->Prop)->Prop:=fun o i v H Q=>bL0 o i v H Q\/∃ a k kvs,o=.ref a/\i=kV k/\H a=some (.dK kvs)/\kvs.length < sizeLine/\Q (upd H a (.dK (qL kvs k v)))
def cR9:bS5 X cR8:=by
 intro pins s σ H o i v ov iv u Q I ro ri rv h;rcases h with h | ⟨a,k,kvs,rfl,rfl,e,l,q⟩
 ·exact aJ5 pins s σ H o i v ov iv u Q I ro ri rv h
 ·cases ro;obtain ⟨z,hd,vs,rel,dd⟩:=cO7 I.hok e;have hz:vs.length<=sizeLine:=by rw [<- rel.length];exact z
  have hl:(qL kvs k v).length<=sizeLine:=by have:=sS kvs k v;omega
  refine wpAny_setItem_pairs (hsz:=hz) (sT ri) dd fun h' dd' hs=>⟨_,?_,q⟩;have he:∃ q,h'.get? a=some q:=let ⟨q,_,_,hq,_⟩:=dd';⟨q,hq⟩
  exact aY9 I (by rw [e];exact True.intro) hs he (bV0 hl hd (rel.put k rv) dd')
end
end L2
namespace DL
open PySem PySem.Spec PyProof.Rows L2 ST
variable {X:Cx} {e:Expr} {pos:Pos}
def cS0 (to ti:DTE):DTG:=fun v δ h Q=>to δ h fun o h1=>ti δ h1 fun i h2=>match o,i,v with
 | .c j,.d y,.d x=>(match h2[j]?,y with
  | some (.l xs),.int k=>(match ixN xs.length k with
   | some n=>Q δ (h2.set j (.l (xs.set n x)))
   | none=>False)
  | some (.k kvs),_=>(bA y).isSome=true/\kvs.length < sizeLine/\Q δ (h2.set j (.k (mF kvs y x)))
  | _,_=>False)
 | _,_,_=>False
def bF1 {K:Frag} {A:List Addr} {H:Hp} {y:PyData} {v:V} {q:Key} (r:Rep K A H y v) (hk:bA y=some q):v=kV q:=by
 cases y<;>first | (simp [bA] at hk;done) | skip
 ·rw [Rep] at r;simp only [bA,Option.some.injEq] at hk;subst hk;exact r
 ·rw [Rep] at r;simp only [bA] at hk;rw [if_pos r.2] at hk;cases hk;exact r.1
theorem pB {K:Frag} {A:List Addr} {H:Hp}:∀ {kvs:List (PyData×PyData)} {r:List (Key×V)},RepKs K A H kvs r->r.length=kvs.length
 | [],r,h=>by rw [repKs_nil.mp h];rfl
 | p::kvs,r,h=>by
  obtain ⟨q',r',rfl,h1,h3⟩:=repKs_cons.mp h;simp [pB h3]
def bF2 {o i:Expr} {to ti:DTE} (ho:DE X o to) (hi:DE X i ti)
  (ha:∀ v,assign (.Subscript o i pos) X.env v=(do
   let ov <- holding [v] (eval o X.env)
   let iv <- holding [v,ov] (eval i X.env)
   standAt pos
   holding [v,ov,iv] (setItem ov iv v)
   release [v,ov,iv] []):=by intro _;rfl):DG X (.Subscript o i pos) (cS0 to ti):=lJ (bS7 ho hi cR9 ha) fun v σ H Q q=>by
 obtain ⟨w,δ,h,A,μ,k,R,r,q,c⟩:=q;refine ⟨δ,h,A,μ,_,R,q,fun o h1 vo H1 A1 μ1 q1 x1 R1 r1=>?_⟩;refine ⟨δ,h1,A1,μ1,_,⟨R1,R.2.ext x1 R.1.sub⟩,q1,fun i h2 vi H2 A2 μ2 q2 x2 R2 r2=>?_⟩;have x12:=x1.trans x2;split at q2
 ·rename_i j y x;split at q2
  ·rename_i xs kk ex;split at q2
   ·rename_i n en;obtain ⟨a,ea,rfl⟩:=r1.ext x2 R1.sub;have ei:=bL r2;subst ei;obtain ⟨vs,hv,rr⟩:=R2.val j a xs ea ex;refine .inl ⟨a,vs,kk,n,rfl,rfl,hv,by rw [rr.length];exact en,?_⟩;have rx:Rep X.K A2 H2 x v:=r.ext x12 R.1.sub;have hm:=List.mem_of_getElem? ea;have y:=dY (A:=A2) (o:=.lst (vs.set n v)) hm hv;exact c _ _ _ _ A2 μ2 q2 (x12.trans y) ⟨fQ R2 ea (rr.set rx n),(R.2.ext x12 R.1.sub).ext y R2.sub⟩
   ·exact q2.elim
  ·rename_i kvs ex;obtain ⟨hk,hl,q2⟩:=q2;obtain ⟨kq,hk⟩:=Option.isSome_iff_exists.mp hk;obtain ⟨a,ea,rfl⟩:=r1.ext x2 R1.sub;have ei:=bF1 (K:=X.K) (A:=A2) (H:=H2) r2 hk;subst ei;obtain ⟨vs,hv,rr⟩:=R2.vad j a kvs ea ex;refine .inr ⟨a,kq,vs,rfl,rfl,hv,by rw [pB rr];exact hl,?_⟩;have rx:Rep X.K A2 H2 x v:=r.ext x12 R.1.sub;have hm:=List.mem_of_getElem? ea;have y:=dY (A:=A2) (o:=.dK (qL vs kq v)) hm hv;exact c _ _ _ _ A2 μ2 q2 (x12.trans y) ⟨sW R2 ea (aC4 hk rx rr),(R.2.ext x12 R.1.sub).ext y R2.sub⟩
  ·exact q2.elim
 ·exact q2.elim
def cS1:DTE:=fun δ h Q=>Q (.c h.length) (h++[Cell.k []])
def bF3 {i:Nat} {x:Str} {pos' pos2:Pos} (hN:X.N.Nodup) (hi:X.N[i]?=some x) (hx:Loc X.env.scope x) (hs:swapsWith (.Dict [] [] pos2) (some (.Name x pos')) pos.line X.env=pure false)
  (hf:X.fn x=true\/X.env.scope.names.lookup x=some .local):DS X (.Assign [.Name x pos'] (.Dict [] [] pos2) pos) (aA8 cS1 (oK i)):=bV (vG hN hi hx tK hs hf) fun D σ H q=>by
 obtain ⟨δ,h,A,μ,E,R,q,L⟩:=q;intro p hp;have hl:μ.length=h.length:=R.1.len;have x:=cC (μ:=μ) (A:=A) (o:=.dK []) hp;exact L.nx _ _ _ _ (p::A) (μ++[p]) q x ⟨vV R.1 hp (repKs_nil.mpr rfl),(R.2.ext x R.1.sub).set i ⟨p,by rw [<- hl];simp,rfl⟩⟩
end DL
namespace DL
open PySem PySem.Spec PyProof.Rows L2 ST
section
variable {X:Cx}
def dJ1 (to:DTE) (t:DTA):DTE:=fun δ h Q=>to δ h fun o h1=>match o with
 | .c j=>(match h1[j]? with
  | some (.l _)=>t δ h1 fun ws h2=>(match ws,h2[j]? with
   | [.d (.int i)],some (.l xs)=>∃ n x,ixN xs.length i=some n/\xs[n]?=some x/\-(2^63)<=i/\i < 2^63/\Q (.d x) (h2.set j (.l (xs.eraseIdx n)))
   | _,_=>False)
  | _=>False)
 | _=>False
theorem mK {K:Frag} {A:List Addr} {H:Hp}:∀ {xs:List PyData} {vs:List V} (n:Nat),Reps K A H xs vs->Reps K A H (xs.eraseIdx n) (vs.eraseIdx n)
 | [],vs,n,r=>by
  rw [Reps] at r;subst r;exact .nil
 | x::xs,vs,0,r=>by
  rw [Reps] at r;obtain ⟨v,vr,rfl,_,r⟩:=r;exact r
 | x::xs,vs,n+1,r=>by
  rw [Reps] at r;obtain ⟨v,vr,rfl,r1,r2⟩:=r;exact .cons r1 (mK n r2)
def cC7 {o e0:Expr} {es:List Expr} {to:DTE} {t:DTA} {apos cpos:Pos} (ho:DE X o to) (ha:DA X (e0::es) t)
  (hbase:autoParam (attributeBase o "pop" X.env (eval o X.env)=eval o X.env) ZR)
  (hfew:((backTo cpos (starEach (e0::es) X.env)).all (fun x=>!x.1)&&(backToKw cpos (keywordEach [] X.env)).all (fun x=>x.1.isSome)
   && decide ((e0::es).length+([]:List Keyword).length+(if ([]:List Keyword).isEmpty then 0 else 1) < 30))=true:=by rfl)
  (hline:autoParam ((apos.endLine==cpos.line)=true) ZR) (hs:autoParam (starEach (e0::es) X.env=(false,eval e0 X.env)::starEach es X.env) ZR) (hplain:autoParam ((backTo cpos (starEach es X.env)).any (·.1)=false) ZR) :
  DE X (.Call (.Attribute o "pop" apos) (e0::es) [] cpos) (dJ1 to t):=aF (aJ6 PySem.F.plainAttrs_list PySem.F.slot_list_pop PySem.F.type_list_pop aJ7 ho ha hbase hfew hline hs hplain) fun σ H Q q=>by
 obtain ⟨δ,h,A,μ,k,R,q,c⟩:=q;refine ⟨δ,h,A,μ,_,R,q,fun o h1 vo H1 A1 μ1 q1 x1 R1 r1=>?_⟩;split at q1
 ·rename_i j;obtain ⟨a,ea,rfl⟩:=r1;split at q1
  rotate_left
  ·exact q1.elim
  rename_i xs1 ex1;obtain ⟨vs1,hv1,_⟩:=R1.val j a xs1 ea ex1;refine ⟨.inl ⟨rfl,_,SqL.of hv1⟩,δ,h1,A1,μ1,_,⟨R1,R.2.ext x1 R.1.sub⟩,q1,fun ws h2 vs H2 A2 μ2 q2 x2 R2 r2=>?_⟩;split at q2
  ·rename_i i xs ex;obtain ⟨n,x,e1,e2,i1,i2,q2⟩:=q2;obtain ⟨v,rfl,rv⟩:=dA r2;have ei:=bL rv;subst ei;have ea2:μ2[j]?=some a:=by
    obtain ⟨ν,e1,_⟩:=x2.pre;rw [e1,List.getElem?_append_left (List.getElem?_eq_some_iff.mp ea).1];exact ea
   obtain ⟨vs,hv,rr⟩:=R2.val j a xs ea2 ex;obtain ⟨y,ey,ry⟩:=rr.get e2;refine ⟨a,vs,i,n,y,rfl,rfl,hv,i1,i2,by rw [rr.length];exact (qI e1).1,ey,?_⟩;have hm:=List.mem_of_getElem? ea2;exact c _ _ _ _ A2 μ2 q2 ((x1.trans x2).trans (dY hm hv)) (fQ R2 ea2 (mK n rr)) (ry.upd (R2.sub a hm))
  ·exact q2.elim
 ·exact q1.elim
end
end DL
namespace L2
open PySem PySem.Spec PyProof.Rows
def aO1 {prog:Program} {w:World} {A:Around} {E:Value->Shared->Prop} {s:Shared} {env:Env} {o:Expr} {name:Str} {apos pos:Pos} {args:List Expr} {Q:Value->Shared->Prop}
  (hbase:attributeBase o name env (eval o env)=eval o env)
  (hfew:((backTo pos (starEach args env)).all (fun x=>!x.1)&&(backToKw pos (keywordEach [] env)).all (fun x=>x.1.isSome)&&decide (args.length+([]:List Keyword).length+(if ([]:List Keyword).isEmpty then 0 else 1) < 30))=true)
  (hline:(apos.endLine==pos.line)=true)
  (h:wpAny (model prog w) A (eval o env) (fun ov s₁=>∀ pl,wpAny (model prog w) A (getMethod ov name pl) (fun fx s₂=>wpAny (model prog w) A (callWith pos fx.1 fx.2 (backTo pos (starEach args env)) (backToKw pos (keywordEach [] env))) Q E s₂) E s₁) E s) :
  wpAny (model prog w) A (eval (.Call (.Attribute o name apos) args [] pos) env) Q E s:=by
 rw [arm_eval_Call,hbase];refine wpAny_bind (wpAny_mono h (fun ov s₁ h₁=>?_) fun _ _ e=>e);refine wpAny_bind (wpAny_standAt ?_);have hform:methodCallForm (args.length+([]:List Keyword).length) (backTo pos (starEach args env)) (backToKw pos (keywordEach [] env))=true:=hfew;have hpos:methodCallPos true o env apos pos=pure pos:=by unfold methodCallPos;simp [hline]
 unfold methodCall;rw [hform];exact wpAny_bind (wpAny_holding (wpAny_mono (h₁ _) (fun fx s₂ h₂=>wpAny_bind (wpAny_of_eq hpos h₂)) fun _ _ x=>x))
section
variable {X:Cx} {CX:CXT} {k:Nat} {f C:Addr} {fd:FuncData} {ps:List Str} {sp:Sp} {dvs:List V} {ds:List Value} {E:XK} {m:Str} {pos apos:Pos} {e o:Expr} {es:List Expr} {ta:TE} {t:TA}
def aO2 (he:PE X o ta) (c:Cls X.K C) (hm:Meth X.K C m f) (F:FnOk X.prog X.w X.K X.mg X.base CX k f fd ps sp) (hr:Room k X.A) (hb:Binds X.K fd ps ds) (hd:Vals dvs ds) (hx:jQ CX X E) (ha:PA X (e::es) t)
  (hbase:attributeBase o m X.env (eval o X.env)=eval o X.env)
  (hfew:((backTo pos (starEach (e::es) X.env)).all (fun x=>!x.1)&&(backToKw pos (keywordEach [] X.env)).all (fun x=>x.1.isSome)&&decide ((e::es).length+([]:List Keyword).length+(if ([]:List Keyword).isEmpty then 0 else 1) < 30))=true)
  (hline:(apos.endLine==pos.line)=true)
  (hst:starEach (e::es) X.env=(false,eval e X.env)::starEach es X.env) (hpl:(backTo pos (starEach es X.env)).any (·.1)=false) :
  PE X (.Call (.Attribute o m apos) (e::es) [] pos) (bK8 C m sp dvs E ta t):=by
 intro pins s σ H Q I h;refine aO1 hbase hfew hline (thn (he pins s σ H _ I h) fun u s1 ⟨x,H1,I1,rx,a,dx,fs,ex,ea,l,q⟩ pl=>?_);subst ex;obtain rfl:u=Value.ref a:=rx;refine vM I1 ea c hm l ?_;refine PySem.W.callWith_K (first:=[.ref a]) (h₀:=X.base) I.ok.mod.kin hm.kp (thn (ha pos pins s1 σ H1 _ I1 q) fun us s2 ⟨vs,H2,I2,r,q2⟩=>⟨I2.kIn,?_⟩) hst hpl;exact aJ1 (us:=.ref a::us) (vs:=.ref a::vs) F hr hb hd hx I2 (.cons rfl r) q2
end
end L2
namespace DL
open PySem PySem.Spec PyProof.Rows L2 ST
noncomputable def jW (f:Str) (w:W):List (Str×W)->List (Str×W)
 | []=>[(f,w)]
 | (g,x)::r=>if g=f then (g,w)::r else (g,x)::jW f w r
section
variable {K:Frag} {A A' μ μ':List Addr} {H H':Hp}
theorem FsOk.len:∀ {fs:List (Str×W)} {vs:List (Str×V)},FsOk K A μ H fs vs->vs.length=fs.length
 | [],_,h=>by have e:_=[]:=h;subst e;rfl
 | p::fs,_,⟨v,vr,e,_,h⟩=>by subst e;rw [List.length_cons,List.length_cons,FsOk.len h]
theorem FsOk.none:∀ {fs:List (Str×W)} {vs:List (Str×V)} {f:Str},FsOk K A μ H fs vs->fs.lookup f=Option.none->vs.lookup f=Option.none
 | [],_,_,h,_=>by have e:_=[]:=h;subst e;rfl
 | (g,x)::fs,_,f,⟨v,vr,e,_,h⟩,l=>by
  subst e
  by_cases hq:(f==g)=true
  ·simp [List.lookup,hq] at l
  ·simp only [List.lookup,hq] at l ⊢;exact FsOk.none h l
theorem FsOk.get:∀ {fs:List (Str×W)} {vs:List (Str×V)} {f:Str} {w:W},FsOk K A μ H fs vs->fs.lookup f=some w->∃ v,vs.lookup f=some v/\RepW K A μ H w v
 | [],_,_,_,_,l=>by cases l
 | (g,x)::fs,_,f,w,⟨v,vr,e,r,h⟩,l=>by
  subst e
  by_cases hq:(f==g)=true
  ·simp only [List.lookup,hq] at l ⊢;cases l;exact ⟨v,rfl,r⟩
  ·simp only [List.lookup,hq] at l ⊢;exact FsOk.get h l
theorem FsOk.put {f:Str} {w:W} {y:V} (ry:RepW K A μ H w y):∀ {fs:List (Str×W)} {vs:List (Str×V)},FsOk K A μ H fs vs->FsOk K A μ H (jW f w fs) (gI f y vs)
 | [],_,h=>by have e:_=[]:=h;subst e;exact ⟨y,[],rfl,ry,rfl⟩
 | (g,x)::fs,_,⟨v,vr,e,r,h⟩=>by
  subst e;unfold jW gI;dsimp only;split
  ·exact ⟨y,vr,rfl,ry,h⟩
  ·exact ⟨v,_,rfl,r,FsOk.put ry h⟩
def FsOk.upd {p:Addr} {o:HO} (hp:p∈A) {fs:List (Str×W)} {vs:List (Str×V)} (h:FsOk K A μ H fs vs):FsOk K A μ (L2.upd H p o) fs vs :=
 h.go (fun b o hb e=>⟨hb,by rw [aM (fun z=>hb (by rw [z];exact hp))];exact e⟩) fun _ _ _ e=>e
def IsOk.at {is:List Nat} {vs:List V}:IsOk μ is vs->∀ {k:Int} {m:Nat},atI is k=some m->∃ a,atI vs k=some (V.ref a)/\μ[m]?=some a:=by
 have len:∀ {is:List Nat} {vs:List V},IsOk μ is vs->vs.length=is.length:=fun {is}=>by
  induction is with
  | nil=>intro vs h;have e:vs=[]:=h;subst e;rfl
  | cons i is ih=>rintro vs ⟨a,vr,e,_,h⟩;subst e;rw [List.length_cons,List.length_cons,ih h]
 have get:∀ {is:List Nat} {vs:List V},IsOk μ is vs->∀ (n m:Nat),is[n]?=some m->∃ a,vs[n]?=some (V.ref a)/\μ[m]?=some a:=fun {is}=>by
  induction is with
  | nil=>intro vs h n m e;simp at e
  | cons i is ih =>
   rintro vs ⟨a,vr,e,r,h⟩ n m em;subst e;cases n with
   | zero=>simp at em;subst em;exact ⟨a,rfl,r⟩
   | succ n=>simp at em;obtain ⟨b,e1,e2⟩:=ih h n m em;exact ⟨b,by simpa using e1,e2⟩
 intro h k m e;unfold atI at e ⊢;rw [len h];cases q:ixN is.length k with
 | none=>rw [q] at e;cases e
 | some n=>rw [q] at e;exact get h n m e
end
def dJ2 (K:Frag) (to:DTE) (f:Str):DTE:=fun δ h Q=>to δ h fun o h1=>match o with
 | .c j=>(match h1[j]? with
  | some (.o C fs)=>Cls K C/\NoAttr K C f/\(match fs.lookup f with
   | some w=>Q w h1
   | none=>False)
  | _=>False)
 | _=>False
def cS2 (K:Frag) (tv to:DTE) (f:Str):DTS:=fun E δ h=>tv δ h fun w h1=>to δ h1 fun o h2=>match o with
 | .c j=>(match h2[j]? with
  | some (.o C fs)=>Cls K C/\NoAttr K C f/\fs.length < 1000/\E.nx δ (h2.set j (.o C (jW f w fs)))
  | _=>False)
 | _=>False
section
variable {X:Cx} {o e value:Expr} {f:Str} {pos pos':Pos} {to tv:DTE}
def cC8 (he:DE X e to) (hb:attributeBase e f X.env (eval e X.env)=eval e X.env):DE X (.Attribute e f pos) (dJ2 X.K to f):=aF (bU0 he hb) fun σ H Q q=>by
 obtain ⟨δ,h,A,μ,k,R,q,c⟩:=q;refine ⟨δ,h,A,μ,_,R,q,fun o h1 v H1 A1 μ1 q1 x1 R1 r1=>?_⟩;try dsimp only at q1
 split at q1
 ·rename_i j;obtain ⟨a,ea,rfl⟩:=r1;split at q1
  ·rename_i C fs ej;obtain ⟨hc,hn,q1⟩:=q1;split at q1
   ·rename_i w ew;obtain ⟨dx,vs,hv,fo⟩:=R1.cel j a _ ea ej;obtain ⟨y,e1,ry⟩:=fo.get ew;exact ⟨a,C,dx,vs,y,rfl,hv,hc,hn,e1,c w h1 y H1 A1 μ1 q1 x1 R1 ry⟩
   ·exact q1.elim
  ·exact q1.elim
 ·exact q1.elim
def cC9 (ho:DE X o to) (hv:DE X value tv) (hs:swapsWith value (some (.Attribute o f pos')) pos.line X.env=pure false):DS X (.Assign [.Attribute o f pos'] value pos) (cS2 X.K tv to f):=bV (bU1 ho hv hs) fun D σ H q=>by
 obtain ⟨δ,h,A,μ,E,R,q,L⟩:=q;refine ⟨δ,h,A,μ,_,R,q,fun w h1 v H1 A1 μ1 q1 x1 R1 r1=>?_⟩;have E1:=R.2.ext x1 R.1.sub;refine ⟨δ,h1,A1,μ1,_,⟨R1,E1⟩,q1,fun o h2 u H2 A2 μ2 q2 x2 R2 r2=>?_⟩;try dsimp only at q2
 split at q2
 ·rename_i j;obtain ⟨a,ea,rfl⟩:=r2;split at q2
  ·rename_i C fs ej;obtain ⟨hc,hn,hl,q2⟩:=q2;obtain ⟨dx,vs,hv,fo⟩:=R2.cel j a _ ea ej;have hA:a∈A2:=R2.sub a (List.mem_of_getElem? ea);refine ⟨a,C,dx,vs,rfl,hv,hc,hn,by rw [fo.len];exact hl,?_⟩;refine L.nx _ _ _ _ A2 μ2 q2 (x1.trans (x2.trans (dY (List.mem_of_getElem? ea) hv))) ⟨gN R2 ea ⟨dx,_,aS,?_⟩,(E1.ext x2 R1.sub).upd hA⟩;exact FsOk.put ((r1.ext x2 R1.sub).upd hA) (fo.upd hA)
  ·exact q2.elim
 ·exact q2.elim
end
abbrev mL:=List W->aA->DK->Prop
noncomputable def dH (K:Frag) (d:mL):Sp:=fun vs H Q _=>∃ (ws:List W) (h:aA) (A μ:List Addr) (k:DK),HeapRep K A μ h H/\RepWs K A μ H ws vs/\d ws h k /\
 ∀ w h' v H' A' μ',k w h'->Ext A A' μ μ' H H'->HeapRep K A' μ' h' H'->RepW K A' μ' H' w v->Q v H'
structure DFnW (P:Program) (w:World) (K:Frag) (mg:Str->Option Value) (base:Heap) (k:Nat) (x:Str) (d:mL):Prop where
 ok:∃ (f:Addr) (fd:FuncData) (ps:List Str),FnOk P w K mg base CX0 k f fd ps (dH K d)/\mg x=some (.ref f)/\PySem.W.keepIn K (.ref f)=true/\Binds K fd ps []
def aO3 (d:mL) (t:DTA):DTE:=fun δ h Q=>t δ h fun ws h1=>d ws h1 Q
def aO4 {K:Frag} {d:mL} {t:DTA} {σ:L2.St} {H:Hp} {Q:VK} (q:up K (aO3 d t) σ H Q):aJ0 (dH K d) [] E0 (upA K t) σ H Q:=by
 obtain ⟨δ,h,A,μ,k,R,q,c⟩:=q;refine ⟨δ,h,A,μ,_,R,q,fun ws h1 vs H1 A1 μ1 q1 x1 R1 r1=>?_⟩;show dH K d (vs++[]) H1 Q E0;rw [List.append_nil];exact ⟨ws,h1,A1,μ1,_,R1,r1,q1,fun w h2 v H2 A2 μ2 q2 x2 R2 r2=>c w h2 v H2 A2 μ2 q2 (x1.trans x2) R2 r2⟩
def bO4 (C:Addr) (d:mL) (t:DTA):DTE:=fun δ h Q=>t δ h fun ws h1=>d (.c h1.length::ws) (h1++[.o C []]) fun w h2=>w=.d .none/\Q (.c h1.length) h2
def bF4 {K:Frag} {C:Addr} {d:mL} {t:DTA} {σ:L2.St} {H:Hp} {Q:VK} (q:up K (bO4 C d t) σ H Q):bK9 C (dH K d) [] E0 (upA K t) σ H Q:=by
 obtain ⟨δ,h,A,μ,k,R,q,c⟩:=q;refine ⟨δ,h,A,μ,_,R,q,fun ws h1 vs H1 A1 μ1 q1 x1 R1 r1=>?_⟩;intro x dx hx hdx ne;rw [List.append_nil];have hx':upd H1 dx (.own x) x=none:=by rw [aM ne.symm];exact hx
 have X1:Ext A1 A1 μ1 μ1 H1 (upd H1 dx (.own x)):=bD hdx;have X2:Ext A1 (x::A1) μ1 (μ1++[x]) (upd H1 dx (.own x)) (upd (upd H1 dx (.own x)) x (.ins C dx [])):=cC hx';have R2:HeapRep K (x::A1) (μ1++[x]) (h1++[.o C []]) (upd (upd H1 dx (.own x)) x (.ins C dx [])):=iJ (R1.fresh hdx) hx' ⟨dx,[],aS,rfl⟩;have hμ:(μ1++[x])[h1.length]?=some x:=by rw [<- R1.len];simp
 refine ⟨.c h1.length::ws,h1++[.o C []],x::A1,μ1++[x],_,R2,⟨_,_,rfl,⟨x,hμ,rfl⟩,r1.ext (X1.trans X2) R1.sub⟩,q1,fun w h2 v H2 A2 μ2 q2 x2 R3 r3=>?_⟩;obtain ⟨rfl,q3⟩:=q2;have e:v=.non:=by have z:Rep K A2 H2 .none v:=r3;rw [Rep] at z;exact z
 exact ⟨e,c _ h2 _ H2 A2 μ2 q3 (x1.trans ((X1.trans X2).trans x2)) R3 ⟨x,x2.look _ _ hμ,rfl⟩⟩
def bO5 (C:Addr) (m:Str) (d:mL) (to:DTE) (t:DTA):DTE:=fun δ h Q=>to δ h fun o h1=>match o with
 | .c j=>(match h1[j]? with
  | some (.o C' fs)=>C'=C/\fs.lookup m=none/\t δ h1 fun ws h2=>d (.c j::ws) h2 Q
  | _=>False)
 | _=>False
def bF5 {K:Frag} {C:Addr} {m:Str} {d:mL} {to:DTE} {t:DTA} {σ:L2.St} {H:Hp} {Q:VK} (q:up K (bO5 C m d to t) σ H Q):bK8 C m (dH K d) [] E0 (up K to) (upA K t) σ H Q:=by
 obtain ⟨δ,h,A,μ,k,R,q,c⟩:=q;refine ⟨δ,h,A,μ,_,R,q,fun o h1 v H1 A1 μ1 q1 x1 R1 r1=>?_⟩;try dsimp only at q1
 split at q1
 ·rename_i j;obtain ⟨a,ea,rfl⟩:=r1;split at q1
  ·rename_i C' fs ej;obtain ⟨rfl,hl,q1⟩:=q1;obtain ⟨dx,vs,hv,fo⟩:=R1.cel j a _ ea ej;refine ⟨a,dx,vs,rfl,hv,fo.none hl,δ,h1,A1,μ1,_,⟨R1,R.2.ext x1 R.1.sub⟩,q1,fun ws h2 us H2 A2 μ2 q2 x2 R2 r2=>?_⟩;show dH K d (V.ref a::(us++[])) H2 Q E0;rw [List.append_nil];exact ⟨.c j::ws,h2,A2,μ2,_,R2,⟨_,_,rfl,⟨a,x2.look _ _ ea,rfl⟩,r2⟩,q2,fun w h3 v H3 A3 μ3 q3 x3 R3 r3=>c w h3 v H3 A3 μ3 q3 (x1.trans (x2.trans x3)) R3 r3⟩
  ·exact q1.elim
 ·exact q1.elim
section
variable {X:Cx} {x m:Str} {p pos apos:Pos} {e o:Expr} {es:List Expr} {to:DTE} {t:DTA} {d:mL} {k:Nat} {C f:Addr} {fd:FuncData} {ps:List Str}
def aO5 (F:DFnW X.prog X.w X.K X.mg X.base k x d) (hr:Room k X.A) (ha:DA X (e::es) t) (hg:autoParam (Gl X x) ZR) (hdb:autoParam ((x==("__debug__":Str))=false) ZD)
  (he:autoParam (starEach (e::es) X.env=(false,eval e X.env)::starEach es X.env) ZR) (hpl:autoParam ((backTo pos (starEach es X.env)).any (·.1)=false) ZR):DE X (.Call (.Name x p) (e::es) [] pos) (aO3 d t):=by
 obtain ⟨f,fd,ps,h1,h2,h3,h4⟩:=F.ok;exact aF (xN h1 hr hg h2 h3 h4 .nil xR ha hdb he hpl) fun _ _ _ q=>aO4 q
def bF6 (M:Mk X.K C f) (F:FnOk X.prog X.w X.K X.mg X.base CX0 k f fd ps (dH X.K d)) (hr:Room (k+1) X.A) (hm:X.mg x=some (.ref C)) (hb:Binds X.K fd ps []) (ha:DA X (e::es) t) (hg:autoParam (Gl X x) ZR) (hdb:autoParam ((x==("__debug__":Str))=false) ZD)
  (he:autoParam (starEach (e::es) X.env=(false,eval e X.env)::starEach es X.env) ZR) (hpl:autoParam ((backTo pos (starEach es X.env)).any (·.1)=false) ZR):DE X (.Call (.Name x p) (e::es) [] pos) (bO4 C d t) :=
 aF (aX9 M F hr hg hm hb .nil xR ha hdb he hpl) fun _ _ _ q=>bF4 q
def bF7 (c:Cls X.K C) (hm:Meth X.K C m f) (F:FnOk X.prog X.w X.K X.mg X.base CX0 k f fd ps (dH X.K d)) (hr:Room k X.A) (hb:Binds X.K fd ps []) (ho:DE X o to) (ha:DA X (e::es) t)
  (hbase:attributeBase o m X.env (eval o X.env)=eval o X.env)
  (hfew:((backTo pos (starEach (e::es) X.env)).all (fun x=>!x.1)&&(backToKw pos (keywordEach [] X.env)).all (fun x=>x.1.isSome)&&decide ((e::es).length+([]:List Keyword).length+(if ([]:List Keyword).isEmpty then 0 else 1) < 30))=true)
  (hline:(apos.endLine==pos.line)=true)
  (hst:starEach (e::es) X.env=(false,eval e X.env)::starEach es X.env) (hpl:(backTo pos (starEach es X.env)).any (·.1)=false):DE X (.Call (.Attribute o m apos) (e::es) [] pos) (bO5 C m d to t) :=
 aF (aO2 ho c hm F hr hb .nil xR ha hbase hfew hline hst hpl) fun _ _ _ q=>bF5 q
end
noncomputable def bF8:W->W->aA->DK->Prop:=fun o i h Q=>match o,i with
 | .c j,.d (.int k)=>(match h[j]? with
  | some (.r is)=>(match atI is k with
   | some m=>Q (.c m) h
   | none=>False)
  | _=>False)
 | _,_=>False
noncomputable def cS3:W->W->aA->DK->Prop:=fun o i h Q=>dIx o i h Q\/bF8 o i h Q
section
variable {X:Cx}
def cS4:IxR X (upR X.K cS3):=by
 intro value slice pins s σ H x y v u Q I rx ry h hs;obtain ⟨a,b,h,A,μ,k,R,ra,rb,q,c⟩:=h;rcases q with q | q
 ·exact dG7 value slice pins s σ H x y v u Q I rx ry ⟨a,b,h,A,μ,k,R,ra,rb,q,c⟩ hs
 ·unfold bF8 at q;split at q
  ·rename_i j i;obtain ⟨p,ep,rfl⟩:=ra;have eb:=bL rb;subst eb;split at q
   ·rename_i is ej;obtain ⟨vs,hv,io⟩:=R.cel j p _ ep ej;split at q
    ·rename_i m em;obtain ⟨b,e1,e2⟩:=io.at em;exact xQ value slice pins s σ H _ _ v u Q I rx ry ⟨p,vs,i,.ref b,rfl,rfl,SqL.of hv,e1,c _ _ _ _ _ _ q .refl R ⟨b,e2,rfl⟩⟩ hs
    ·exact q.elim
   ·exact q.elim
  ·exact q.elim
def cD0 {a b:Expr} {pos:Pos} {ta tb:DTE} (ha:DE X a ta) (hb:DE X b tb) (hs:iT b:=by intro _ _;rfl):DE X (.Subscript a b pos) (dOp cS3 ta tb):=aF (aJ4 cS4 ha hb hs) fun _ _ _ q=>sX q
end
noncomputable def tN (g:DTG) (tt:DTT) (te:DTE) (c:Option Nat) (all:List PyData):List PyData->DSt->aA->List Nat->(List Nat->aA->Prop)->Prop
 | [],_,h,ac,Q=>cond c all h/\Q ac h
 | x::r,δ,h,ac,Q=>cond c all h/\g (.d x) δ h fun δ2 h2=>tt δ2 h2 fun b h3 =>
  if b=true then te δ2 h3 fun w h4=>(match w with
   | .c j=>tN g tt te c all r δ2 h4 (ac++[j]) Q
   | .d _=>False
   | .v _=>False)
  else tN g tt te c all r δ2 h3 ac Q
def aO6 (ixs:List (Option Nat)) (ti:DTI) (g:DTG) (tt:DTT) (te:DTE):DTE:=fun δ h Q=>ti δ h fun xs c h1=>tN g tt te c xs xs (aX ixs δ) h1 [] fun is h2=>Q (.c h2.length) (h2++[.r is])
theorem IsOk.snoc {μ:List Addr} {j:Nat} {b:Addr} (e:μ[j]?=some b):∀ {is:List Nat} {vs:List V},IsOk μ is vs->IsOk μ (is++[j]) (vs++[.ref b])
 | [],_,h=>by have e0:_=[]:=h;subst e0;exact ⟨b,[],rfl,e,rfl⟩
 | i::is,_,⟨a,vr,e1,r,h⟩=>by subst e1;exact ⟨a,_,rfl,r,IsOk.snoc e h⟩
section
variable {K:Frag} {A A' μ μ':List Addr} {H H':Hp} {h h':aA}
def aD1 {p:Addr} {is:List Nat} {vs:List V} (R:HeapRep K A μ h H) (h1:H p=some (.lst vs)) (h2:p∈A) (h3:p∉μ) (r:IsOk μ is vs):HeapRep K A (μ++[p]) (h++[(.r is)]) H:=by
 refine ⟨by rw [List.length_append,List.length_append,R.len];rfl,?_,fun a z=>?_,R.trk,fun i a ys e1 e2=>?_⟩
 ·rw [List.nodup_append];refine ⟨R.nd,(by simp),fun a ha b hb=>?_⟩;rw [List.mem_singleton.mp hb];rintro rfl;exact h3 ha
 ·rcases List.mem_append.mp z with z | z
  ·exact R.sub a z
  ·rw [List.mem_singleton.mp z];exact h2
 ·by_cases hi:i < μ.length
  ·rw [List.getElem?_append_left hi] at e1;rw [List.getElem?_append_left (by rw [<- R.len];exact hi)] at e2;exact (R.cel i a ys e1 e2).anti (fun _ z=>z) fun j _ b eb=>by rw [List.getElem?_append_left (List.getElem?_eq_some_iff.mp eb).1];exact eb
  ·have hle:μ.length<=i:=Nat.le_of_not_lt hi;rw [List.getElem?_append_right hle] at e1;rw [List.getElem?_append_right (by rw [<- R.len];exact hle),<- R.len] at e2;have hz:i - μ.length=0:=by
    have:=(List.getElem?_eq_some_iff.mp e1).1;simp at this;omega
   rw [hz] at e1 e2;simp at e1 e2;subst e1 e2;exact ⟨vs,h1,r.go fun j _ a e=>by rw [List.getElem?_append_left (List.getElem?_eq_some_iff.mp e).1];exact e⟩
end
section
variable {X:Cx} {tg iter elt:Expr} {ifs:List Expr} {sc S:Scope} {N':List Str} {ixs:List (Option Nat)} {body:List Stmt} {ti:DTI} {g:DTG} {tb:DTS} {tt:DTT} {te:DTE} {pos:Pos}
def aO7 {σ:L2.St} {H:Hp} {Q:VK} (q:up X.K (aO6 ixs ti g tt te) σ H Q):xT ixs (upI X.K ti) (upG X.K g) (upT X.K tt) (up X.K te) σ H Q:=by
 obtain ⟨δ,h,A,μ,k,R,q,c⟩:=q;refine ⟨δ,h,A,μ,_,R,q,fun xs cc h1 J H2 A1 μ1 q1 x1 R1 hz hcd it=>?_⟩;intro acc hacc;have nA:=R1.notA hacc;have E1:=oM (ixs:=ixs) (R.2.ext x1 R.1.sub);refine ⟨fun i m ys σ' H'=>∃ δ' h' A' μ' ac,m=xs.length - i/\i<=xs.length/\H' acc=some (.lst ys)/\acc∈A'/\acc∉μ'/\Ext A1 A' μ1 μ' H2 H'/\Ab X.K A' μ' δ' h' σ' H'/\IsOk μ' ac ys/\ys.length<=i/\tN g tt te cc xs (xs.drop i) δ' h' ac fun is h2=>k (.c h2.length) (h2++[.r is]),
  ⟨_,aX ixs δ,h1,acc::A1,μ1,[],rfl,Nat.zero_le _,aS,List.mem_cons_self,fun z=>nA (R1.sub _ z),eL hacc,⟨kI R1 hacc,E1.ext (eL hacc) R1.sub⟩,rfl,Nat.le_refl _,by simpa using q1⟩,?_⟩
 rintro i m ys σ' H' ⟨δ',h',A',μ',ac,rfl,hi,a1,a2,a3,y,R',rr,hyl,q'⟩
 by_cases hlt:i < xs.length
 ·rw [List.drop_eq_getElem_cons hlt] at q';obtain ⟨hcond,q'⟩:=q';obtain ⟨it1,_⟩:=it A' μ' H' h' y R'.1 hcond;obtain ⟨go,yl⟩:=it1 i xs[i] (by simp [hlt]);refine .inr ⟨go,fun v H3 hy=>?_⟩;obtain ⟨y2,R2,r2⟩:=yl v H3 hy;refine ⟨.d xs[i],δ',h',A',μ',_,⟨R2,R'.2.ext y2 R'.1.sub⟩,r2,q',fun δ4 h4 σ4 H4 A4 μ4 q4 x4 R4=>?_⟩;refine ⟨δ4,h4,A4,μ4,_,R4,q4,fun b h5 H5 A5 μ5 q5 x5 R5=>?_⟩;have z5:=(y2.trans x4).trans x5;obtain ⟨b1,b2,b3⟩:=iZ z5 a1 a2 a3;dsimp only at q5 ⊢;cases b with
  | false =>
   rw [if_neg Bool.false_ne_true] at q5;rw [if_neg Bool.false_ne_true];exact ⟨xs.length - (i+1),by omega,δ4,h5,A5,μ5,ac,rfl,hlt,b1,b2,b3,y.trans z5,⟨R5,R4.2.ext x5 R4.1.sub⟩,rr.go (fun j _ a=>z5.look j a),by omega,q5⟩
  | true =>
   rw [if_pos rfl] at q5;rw [if_pos rfl];refine ⟨δ4,h5,A5,μ5,_,⟨R5,R4.2.ext x5 R4.1.sub⟩,q5,fun w h6 v6 H6 A6 μ6 q6 x6 R6 r6=>?_⟩;have z6:=z5.trans x6;obtain ⟨c1,c2,c3⟩:=iZ z6 a1 a2 a3;cases w with
   | d x=>exact q6.elim
   | v u=>exact q6.elim
   | c j =>
    obtain ⟨bj,ebj,rfl⟩:=r6;have hl6:ys.length < sizeLine:=by omega
    refine ⟨c1,hl6,xs.length - (i+1),by omega,δ4,h6,A6,μ6,ac++[j],rfl,hlt,aS,c2,c3,(y.trans z6).aside hacc,⟨lW R6 c2 c3,((R4.2.ext x5 R4.1.sub).ext x6 R5.sub).upd c2⟩,?_,?_,q6⟩
    ·exact (rr.go (fun j _ a=>z6.look j a)).snoc ebj
    ·rw [List.length_append,List.length_singleton];omega
 ·have e:i=xs.length:=by omega
  subst e;rw [List.drop_length] at q';obtain ⟨hcond,q'⟩:=q';obtain ⟨_,it2⟩:=it A' μ' H' h' y R'.1 hcond;have x2:=x1.trans y;obtain ⟨ν,e1,_⟩:=x2.pre;have hn:μ'.length=h'.length:=R'.1.len;refine .inl ⟨it2 _ (Nat.le_refl _),a1,c _ _ _ H' A' (μ'++[acc]) q' (x2.addc (x1.back hacc)) ?_ ⟨acc,by rw [<- hn];simp,rfl⟩⟩;exact aD1 R'.1 a1 a2 a3 rr
def aO8 {N:List Str} (hxe:X.xe=fun _ _=>False) (hc:X.calm=true) (hS:X.env.scope=S) (hXN:X.N=N) (SC:CompSc N N' ixs S sc) (hi:DI X tg iter ti)
  (hg:∀ cl C s H fp,DG (blk X N' sc cl C s H fp) tg g) (ht:∀ cl C s H fp,DIf (blk X N' sc cl C s H fp) ifs tt) (he:∀ cl C s H fp,DE (blk X N' sc cl C s H fp) elt te)
  (hs:autoParam (∀ x,foldedSetIterable iter X.env x=pure x) ZI):DE X (.ListComp elt [⟨tg,iter,ifs,0⟩] sc pos) (aO6 ixs ti g tt te) :=
 aF (xU (N':=N') (ixs:=ixs) (g:=upG X.K g) (tt:=upT X.K tt) (te:=up X.K te) hxe hc hS (by rw [hXN];exact SC) hi hg ht he hs) fun _ _ _ q=>aO7 q
end
noncomputable def aO9 (k:DK):DEnds where
 nx:=fun _ h=>k (.d .none) h
 rt:=k
section
variable {P:Program} {w:World} {K:Frag} {mg:Str->Option Value} {base:Heap}
def dJ3 {x qual:Str} {st:Stmt} {f:Addr} {fd:FuncData} {N ps:List Str} {k:Nat} {d:mL} (F:Fun K x qual st f fd) (S:FnScope N ps (aH st)) (len:∀ ws h k,d ws h k->ws.length=ps.length)
  (hbody:∀ (cdv:Value) (A:Around) (outer:List Env) (s:Shared) (H:Hp) (E:XK),fd.code=cdv->Room k (A.deeper (envOfC qual (aH st) s.heap.objs.size f cdv)) ->
   ∃ t,DSs (qH CX0 P w K mg base N qual (aH st) f cdv A outer s H E).nox (bJ st) t/\∀ ws h kk,d ws h kk->t (aO9 kk) (fS N ws) h):FnOk P w K mg base CX0 (k+1) f fd ps (dH K d):=by
 refine cQ6 F S (fun vs H Q E ⟨ws,h,A,μ,kk,R,r,q,c⟩=>by rw [hJ r];exact len _ _ _ q) fun cdv A outer s H vs Q E hcd hr hsp=>?_;obtain ⟨ws,h,B,μ,kk,R,r,q,c⟩:=hsp;obtain ⟨t,ht,hq⟩:=hbody cdv A outer s H E hcd hr;refine ⟨_,ht,fS N ws,h,B,μ,aO9 kk,⟨R,oO r⟩,hq ws h kk q,⟨fun δ' h' σ' H' A' μ' q' x' R'=>?_,fun δ' h' σ' H' A' μ' q' x' R'=>q'.elim,fun δ' h' σ' H' A' μ' q' x' R'=>q'.elim,fun z h' v H' A' μ' q' x' R' r'=>?_⟩⟩
 ·exact c _ h' _ H' A' μ' q' x' R'.1 (show Rep K A' H' .none .non by rw [Rep])
 ·exact c z h' v H' A' μ' q' x' R' r'
end
end DL
namespace ST
open PySem PySem.Spec PyProof.Rows
section
variable {prog:Program} {w:World} {A:Around} {E:Value->Shared->Prop} {s:Shared} {R:Result->Shared->Prop}
def qW {l:Addr} {items:Array Value} {ns:List Int} {Q:Value->Shared->Prop} (hh:A.handled=none) (hl:s.heap.IsTuple l items) (hi:IntsAre items.toList ns) (hb:items.size+1 < scanBound)
  (h:∀ h' tk,SetI prog w h' s.heap.objs.size (dd ns)->(∀ b o,s.heap.get? b=some o->h'.get? b=some o)->Q (.ref s.heap.objs.size) { s with heap:=h',toks:=tk }) :
  wpAny (model prog w) A (call (.type "set") [.ref l]) Q E s:=by
 have hnz:ns.length=items.size:=by have:=IntsAre.length hi;simpa using this.symm
 obtain ⟨c,tl,mro⟩:=PySem.F.called_set.mro;have made:=PySem.F.called_set.made;have sub:=PySem.F.called_set.sub;refine wpAny_call (codeAny_of_tree (wpAny_pure ⟨Code.quiet_builtin _ (by decide +kernel),codeAny_builtin PySem.F.entry_type_call ?_⟩));rw [Around.under_plain (weight_type_call_type "set" [.ref l] []) rfl];have h1:=PySem.F.called_set.notType;have h2:=PySem.F.called_set.canCreate;have h3:=PySem.F.typeCall_set_1 (.ref l)
 repeat (any_goals (first | assumption | wp_step))
 refine codeAny_mono (aN7 (.ref l) (E:=E) (Q₁:=fun obj s₁=>obj=.ref s.heap.objs.size/\s₁={ s with heap:=s.heap.push (mJ w) }) ⟨rfl,rfl⟩) fun r s₁ hr=>?_;cases r with
 | error e=>exact hr
 | ok fl =>
  cases fl with
  | ret obj =>
   obtain ⟨rfl,rfl⟩:=hr;have gS:(s.heap.push (mJ w)).get? s.heap.objs.size=some (mJ w):=Heap.get?_push_size _ rfl;have hT:Shared.TypeIs { s with heap:=s.heap.push (mJ w) } (.ref s.heap.objs.size) "set":=⟨_,gS,rfl⟩;have look:=PySem.F.called_set.init.lookup;have bnd:=PySem.F.called_set.init.bind (.ref s.heap.objs.size)
   repeat (any_goals (first | assumption | wp_step))
   refine codeAny_mono (codeAny_call_builtin (R:=wants (fun r s₂=>r=.none/\∃ h' tk,s₂={ s with heap:=h',toks:=tk }/\SetI prog w h' s.heap.objs.size (dd ns)/\(∀ b o,s.heap.get? b=some o->h'.get? b=some o)) E)
    PySem.F.called_set.init.plain PySem.F.entry_set_init (check_set_init_1 hT ?_)) fun r₂ s₂ hr₂=>?_
   ·obtain ⟨ol,hol,hcl,nl,hdl⟩:=hl;obtain ⟨oc,od,odt,osl⟩:=ol;dsimp only at hcl hdl;subst hcl;subst hdl;have hol2:(s.heap.push (mJ w)).get? l=some { cls:=.type "tuple",dict:=od,data:=.seq items nl,slots:=osl }:=Heap.get?_push_of_some _ hol;have f1:=PySem.F.sub_tuple_set;have f2:=PySem.F.sub_tuple_frozenset;have f3:(Value.type "tuple"==Value.type "dict")=false:=by decide
    have il:(s.heap.push (mJ w)).IsTuple l items:=⟨_,hol2,rfl,nl,rfl⟩;unfold Builtin.«set.__init__» noKeywords Builtin.Frozenset.updateFrom;generalize hPI:pyIter=PI
    wp_walk
    subst hPI;refine wpAny_pyIter_tuple il (wpAny_bind (wpAny_runValue ?_));have lt:l < s.heap.objs.size:=Heap.lt_size hol;have sz:(s.heap.push (mJ w)).objs.size=s.heap.objs.size+1:=by rw [Heap.size_push]
    have hne:l≠(s.heap.push (mJ w)).objs.size:=by rw [sz];exact Nat.ne_of_lt (Nat.lt_succ_of_lt lt)
    have hSf:s.heap.objs.size∉[(s.heap.push (mJ w)).objs.size,l]:=by
     rw [sz];simp only [List.mem_cons,List.not_mem_nil,or_false,not_or];exact ⟨Nat.ne_of_lt (Nat.lt_succ_self _),Nat.ne_of_gt lt⟩
    refine aN6 (Walks.tuple (A:=A.in1.in1.in1) (by simp [hh]) _ l hne items) s.heap.objs.size hSf (fun i=>ns.getD i 0) (fun i v hv=>IntsAre.int_at hi i v (by rw [Array.getElem?_toList];exact hv)) hb (items.size - 0) 0 _ rfl (Nat.zero_le _)
     ⟨⟨_,Heap.get?_push_size _ rfl,rfl,rfl⟩,il.push _⟩ ⟨_,_,_,_,Heap.get?_push_of_some _ gS,aC9⟩ fun h' tk si kp=>?_
    rw [<- hnz,aN8] at si;refine wpAny_pure (wpAny_pure ⟨rfl,h',tk,rfl,si,fun b o e=>?_⟩);have bl:b < s.heap.objs.size:=Heap.lt_size e;refine kp b o (Nat.ne_of_lt bl) ?_ (Heap.get?_push_of_some _ (Heap.get?_push_of_some _ e));simp only [List.mem_singleton];rw [sz];exact Nat.ne_of_lt (Nat.lt_succ_of_lt bl)
   ·cases r₂ with
    | error e=>exact hr₂
    | ok fl₂ =>
     cases fl₂ with
     | ret r =>
      obtain ⟨rfl,h',tk,rfl,si,kp⟩:=hr₂
      repeat (any_goals (first | assumption | wp_step))
      exact h _ _ si kp
     | _=>exact hr₂.elim
  | _=>exact hr.elim
end
end ST
namespace L2
open PySem PySem.Spec PyProof.Rows ST
section
variable {X:Cx}
def tLS (K:Frag) (t:TA):TE:=fun σ H Q=>t σ H fun vs H1=>∃ (a:Addr) (ns:List Int),vs=[.ref a]/\SqT K H1 a (ns.map V.int)/\ns.length<=62/\Q (.int (dd ns).length) H1
def bF9 {e:Expr} {t:TA} {p p2 pos pos2:Pos} (hc:X.calm=true) (hg:Gl X "len") (hm:X.mg "len"=none) (hg2:Gl X "set") (hm2:X.mg "set"=none) (ha:PA X [e] t) (hs:starEach [e] X.env=[(false,eval e X.env)]) :
  PE X (.Call (.Name "len" p) [.Call (.Name "set" p2) [e] [] pos2] [] pos) (tLS X.K t):=by
 intro pins s σ H Q I h;refine wpAny_Call_Name_kw (eE (u:=.builtin "len") I hg hm (by decide +kernel) ?_ (by decide) (by decide));refine PyProof.Rows.callWith_builtin1 (yA (by rfl) ?_) rfl rfl;refine wpAny_Call_Name_kw (eE (u:=.type "set") I hg2 hm2 (by decide +kernel) ?_ (by decide) (by decide));refine PyProof.Rows.callWith_type1 (thn (ha pos2 pins s σ H _ I h) fun us s1 ⟨vs,H1,I1,r1,a,ns,e1,sq,hn,q⟩=>?_) hs rfl;subst e1;obtain ⟨u,rfl,ru⟩:=kE r1;cases ru;obtain ⟨its,rv,pl,hz⟩:=I1.tuple sq;have hl:=rv.length;rw [List.length_map] at hl;have sb:scanBound=4096:=rfl;refine qW (I.ok.hd hc) (show s1.heap.IsTuple a its.toArray from pl) (by simpa using bE7 rv) (by simp;omega) fun h2 tk2 si k2=>?_;obtain ⟨o,es,ep,tt,ho,pt⟩:=si;have hsz:es.size=(dd ns).length:=by
  have:=pt.ks.length_eq
  simpa using this
 have hd:=cC3 ns;refine call_len_set ho pt.ex pt.dat pt.fit (by omega) ?_;rw [hsz];exact ⟨.int (dd ns).length,H1,I1.kept (t':=_) k2,⟨_,rfl⟩,q⟩
def aD2:cQ X (.type "int") (fun xs H Q=>∃ b:Bool,xs=[.bl b]/\Q (.int (if b then 1 else 0)) H):=by
 intro pins s σ H xs us Q I r h;obtain ⟨b,rfl,q⟩:=h;obtain ⟨u,rfl,ru⟩:=kE r;cases (show u=Value.bool b from ru);exact call_int_bool ⟨.int (if b then 1 else 0),H,I.tok _,⟨_,rfl⟩,q⟩
def tLR (t:TA):TE:=fun σ H Q=>t σ H fun vs H1=>∃ j:Int,vs=[.int j]/\(-(2^62)<=j/\j < 2^62/\j<=16000000)/\∀ p,H1 p=none->Q (.ref p) (upd H1 p (.lst ((List.range j.toNat).map fun (k:Nat)=>V.int k)))
def aD3 {e:Expr} {t:TA} {p p2 pos pos2:Pos} (hc:X.calm=true) (hg:Gl X "list") (hm:X.mg "list"=none) (hg2:Gl X "range") (hm2:X.mg "range"=none) (ha:PA X [e] t)
  (hs:starEach [e] X.env=[(false,eval e X.env)]) :
  PE X (.Call (.Name "list" p) [.Call (.Name "range" p2) [e] [] pos2] [] pos) (tLR t):=by
 intro pins s σ H Q I h;refine wpAny_Call_Name_kw (eE (u:=.type "list") I hg hm (by decide +kernel) ?_ (by decide) (by decide));refine PyProof.Rows.callWith_type1 (yA (by rfl) ?_) rfl rfl;refine wpAny_Call_Name_kw (eE (u:=.type "range") I hg2 hm2 boot_range ?_ (by decide) (by decide));refine PyProof.Rows.callWith_type1 (thn (ha pos2 pins s σ H _ I h) fun us s1 ⟨vs,H1,I1,r1,j,e1,⟨b3,b4,b5⟩,q⟩=>?_) hs rfl;subst e1;obtain ⟨u,rfl,ru⟩:=kE r1;obtain ⟨t2,rfl⟩:=ru;refine call_range_1 ?_;refine call_list_range (n:=j.toNat) (I.ok.hd hc) (IsRange.new ..) (small_one (by decide) (by decide) b3 b4) (by rw [rangeSize_one];split<;>omega) (by omega) fun h' tk acc c' k hS hacc=>?_;rw [Heap.size_push] at hS ⊢;have k1:∀ b o,s1.heap.get? b=some o->h'.get? b=some o:=fun b o e=>k b o (Heap.get?_push_of_some _ e);have sz:s1.heap.objs.size<=s1.heap.objs.size+1:=Nat.le_succ _;refine ⟨.ref (s1.heap.objs.size+1),_,I1.laid (t':=tk) k1 sz ?_,rfl,q _ (I1.hok.fresh sz)⟩;refine ⟨by rw [List.length_map,List.length_range,sizeLine_eq];omega,acc.toList,c',?_,by rw [Array.toArray_toList];exact hS⟩;have gen:∀ (l:List Value) (m:List V),l.length=m.length->(∀ (k:Nat) v,l[k]?=some v->∃ x,m[k]?=some x/\RelV x v)->Vals m l:=by
  intro l;induction l with
  | nil=>intro m hm _;rw [List.length_eq_zero_iff.mp hm.symm];exact .nil
  | cons v l ih =>
   intro m hm hv;cases m with
   | nil=>simp at hm
   | cons x m =>
    obtain ⟨x',e1,e2⟩:=hv 0 v rfl;simp at e1;subst e1;exact .cons e2 (ih m (by simpa using hm) fun k v e=>hv (k+1) v (by simpa using e))
 refine gen _ _ (by simp [hacc.1]) fun k v e=>?_;rw [Array.getElem?_toList] at e;obtain ⟨tk,rfl⟩:=hacc.2 k v e;have hk:k < j.toNat:=by have:=(Array.getElem?_eq_some_iff.mp e).1;rw [hacc.1] at this;exact this
 exact ⟨V.int k,by simp [hk],tk,by simp⟩
end
end L2
namespace DL
open PySem PySem.Spec PyProof.Rows L2 ST
section
variable {X:Cx}
def cS5 (t:DTA):DTE:=fun δ h Q=>t δ h fun ws h1=>∃ xs ns,ws=[.d (.tuple xs)]/\iE xs=some ns/\ns.length<=62/\Q (.d (.int (dd ns).length)) h1
def bG0 {e:Expr} {t:DTA} {p p2 pos pos2:Pos} (hc:X.calm=true) (hg:Gl X "len") (hm:X.mg "len"=none) (hg2:Gl X "set") (hm2:X.mg "set"=none) (ha:DA X [e] t) (hs:starEach [e] X.env=[(false,eval e X.env)]) :
  DE X (.Call (.Name "len" p) [.Call (.Name "set" p2) [e] [] pos2] [] pos) (cS5 t):=aF (bF9 hc hg hm hg2 hm2 ha hs) fun σ H Q q=>by
 obtain ⟨δ,h,A,μ,k,R,q,c⟩:=q;refine ⟨δ,h,A,μ,_,R,q,fun ws h1 vs H1 A1 μ1 q1 x1 R1 r1=>?_⟩;obtain ⟨xs,ns,rfl,en,hl,q1⟩:=q1;obtain ⟨v,rfl,rv⟩:=dA r1;obtain ⟨a,vs,rfl,sq,rs⟩:=bE (h:=h1) rv rfl;have ev:=oY en rs;subst ev;exact ⟨a,ns,rfl,sq.sq,hl,c _ h1 _ H1 A1 μ1 q1 x1 R1 (show Rep X.K A1 H1 (.int _) _ by rw [Rep])⟩
noncomputable def wC:List W->aA->Option (W×aA)
 | [.d (.bool b)],h=>some (.d (.int (if b then 1 else 0)),h)
 | _,_=>none
def aD4:cQ X (.type "int") (upC X.K (OfX wC)):=by
 intro pins s σ H xs us Q I r h;obtain ⟨ws,h,A,μ,k,R,rw',⟨rr,h',e,q⟩,c⟩:=h;unfold wC at e;split at e
 ·rename_i h0 b;cases e;obtain ⟨v,rfl,rv⟩:=dA rw';have ev:v=.bl b:=by have z:Rep X.K A H (.bool b) v:=rv;rw [Rep] at z;exact z
  subst ev;exact aD2 pins s σ H _ us Q I r ⟨b,rfl,c _ _ _ _ _ _ q .refl R (show Rep X.K A H (.int _) _ by rw [Rep])⟩
 ·cases e
def dJ4 (t:DTA):DTF:=fun δ h Q=>t δ h fun ws h1=>∃ j:Int,ws=[.d (.int j)]/\(-(2^62)<=j/\j < 2^62/\j<=16000000)/\Q (rng 0 j.toNat) h1
def aD5 {e:Expr} {t:DTA} {p p2 pos pos2:Pos} (hc:X.calm=true) (hg:Gl X "list") (hm:X.mg "list"=none) (hg2:Gl X "range") (hm2:X.mg "range"=none) (ha:DA X [e] t)
  (hs:starEach [e] X.env=[(false,eval e X.env)]):DF X (.Call (.Name "list" p) [.Call (.Name "range" p2) [e] [] pos2] [] pos) (dJ4 t):=aF (aD3 hc hg hm hg2 hm2 ha hs) fun σ H Q q=>by
 obtain ⟨δ,h,A,μ,k,R,q,c⟩:=q;refine ⟨δ,h,A,μ,_,R,q,fun ws h1 vs H1 A1 μ1 q1 x1 R1 r1=>?_⟩;obtain ⟨j,rfl,hb,q1⟩:=q1;obtain ⟨v,rfl,rv⟩:=dA r1;have e1:Rep X.K A1 H1 (.int j) v:=rv;rw [Rep] at e1;subst e1;obtain ⟨ν,e2,_⟩:=x1.pre;have rr:=aN9 (K:=X.K) (A:=A1) (H:=H1) 0 j.toNat;simp only [Int.zero_add] at rr;exact ⟨j,rfl,hb,fun b hf=>c _ h1 _ _ _ μ1 q1 (x1.trans (cC hf)) ⟨ν,e2⟩ (x1.back hf) (cY R1 hf rr)⟩
def dJ5 (to:DTE) (tf:DTF):DTE:=fun δ h Q=>to δ h fun o h1=>match o with
 | .c j=>(match h1[j]? with
  | some (.l _)=>tf δ h1 fun ys h2=>(match h2[j]? with
   | some (.l xs)=>xs.length+ys.length<=sizeLine/\Q (.d .none) (h2.set j (.l (xs++ys)))
   | _=>False)
  | _=>False)
 | _=>False
def cD1 {o e0:Expr} {to:DTE} {tf:DTF} {apos cpos:Pos} (ho:DE X o to) (ha:DF X e0 tf)
  (hbase:attributeBase o "extend" X.env (eval o X.env)=eval o X.env)
  (hfew:((backTo cpos (starEach [e0] X.env)).all (fun x=>!x.1)&&(backToKw cpos (keywordEach [] X.env)).all (fun x=>x.1.isSome)&&decide ([e0].length+([]:List Keyword).length+(if ([]:List Keyword).isEmpty then 0 else 1) < 30))=true)
  (hline:(apos.endLine==cpos.line)=true) (hs:starEach [e0] X.env=(false,eval e0 X.env)::starEach [] X.env) :
  DE X (.Call (.Attribute o "extend" apos) [e0] [] cpos) (dJ5 to tf):=aF (aJ6 PySem.F.plainAttrs_list PySem.F.slot_list_extend PySem.F.type_list_extend zX ho (eT ha lS hs) hbase hfew hline hs rfl) fun σ H Q q=>by
 obtain ⟨δ,h,A,μ,k,R,q,c⟩:=q;refine ⟨δ,h,A,μ,_,R,q,fun o h1 vo H1 A1 μ1 q1 x1 R1 r1=>?_⟩;try dsimp only at q1
 split at q1
 ·rename_i j;obtain ⟨a,ea,rfl⟩:=r1;split at q1
  ·rename_i xs1 ex1;obtain ⟨vs1,hv1,_⟩:=R1.val j a xs1 ea ex1;refine ⟨.inl ⟨rfl,_,SqL.of hv1⟩,?_⟩;refine ⟨δ,h1,A1,μ1,_,⟨R1,R.2.ext x1 R.1.sub⟩,q1,fun ys h2 p H2 A2 μ2 q2 x2 hm hp R2=>?_⟩;split at q2
   ·rename_i xs ex;have ea2:μ2[j]?=some a:=by
     obtain ⟨ν,e1⟩:=hm;rw [e1,List.getElem?_append_left (List.getElem?_eq_some_iff.mp ea).1];exact ea
    have hl2:μ2.length=h2.length:=by simpa using R2.1.len
    obtain ⟨vy,hvy,ry⟩:=R2.1.val μ2.length p ys (by simp) (by rw [hl2];simp);obtain ⟨F1,_⟩:=gO R2.1 R2.2;have xf:=iK R1 hp x2 hm;obtain ⟨vx,hvx,rx⟩:=F1.val j a xs ea2 ex;obtain ⟨hz,q2⟩:=q2;have an:∀ b∈A2.filter (fun b=>decide (b≠p)),b∈A2:=fun b z=>(List.mem_filter.mp z).1;have ry':=ry.anti an;refine ⟨a,p,vx,vy,rfl,rfl,hvx,hvy,by rw [rx.length,ry.length];exact hz,?_⟩;have hA:a∈A2.filter (fun b=>decide (b≠p)):=F1.sub a (List.mem_of_getElem? ea2);refine c (.d .none) _ .non (upd H2 a (.lst (vx++vy))) (A2.filter fun b=>decide (b≠p)) μ2 q2 (x1.trans (xf.trans (dY (List.mem_of_getElem? ea2) hvx))) (fQ F1 ea2 (ry'.append rx)) ?_;show Rep X.K (A2.filter fun b=>decide (b≠p)) (upd H2 a (.lst (vx++vy))) .none .non;rw [Rep]
   ·exact q2.elim
  ·exact q1.elim
 ·exact q1.elim
end
end DL
namespace DL
open PySem PySem.Spec PyProof.Rows L2
def wD (T T':String):Prop:=∀ (K:Frag) (d:PyData),PySem.W.kitAny K (.type (fF d)) [.type T,.type T']=some (isi d T||isi d T')
def cD2:wD "list" "tuple":=fun K d=>by cases d<;>kernel_rfl
section
variable {X:Cx} {e:Expr} {te:DTE} {p p2 p3 p4 pos:Pos}
def aD6 {pins:List (Addr×Obj)} {σ:L2.St} {H:Hp} {s:Shared} {A μ:List Addr} {h:aA} {w:W} {d:PyData} {v:V} {u:Value} {tp:Addr} {T T':String} {Q:Value->Shared->Prop} {Ar:Around} {E:Value->Shared->Prop}
  (I:Inv X pins σ H s) (R:HeapRep X.K A μ h H) (r:RepW X.K A μ H w v) (e:ref h w=some d) (rv:RelV v u) (ht:H tp=some (.tup [.ty T,.ty T'])) (hk:wD T T') (q:∀ tk,Q (.bool (isi d T||isi d T')) { s with toks:=tk }) :
  wpAny (model X.prog X.w) Ar (call (.builtin "isinstance") [u,.ref tp]) Q E s:=by
 obtain ⟨_,us,ru,o,ho,hc,⟨n,hd⟩,hn⟩:=(show ObjOk X.prog X.w H s.heap tp (.tup [.ty T,.ty T']) from I.hok tp _ ht);have eu:us=[.type T,.type T']:=by
  cases ru with
  | cons r1 r2=>cases r2 with
   | cons r3 r4=>cases r4;cases r1;cases r3;rfl
 subst eu;obtain ⟨cls,dct,dat,sl⟩:=o;dsimp only at hc hd hn;subst hc;subst hd;subst hn;have ek:=hk X.K d;cases d with
 | none =>
  have z:=aZ R r e;rw [See] at z;subst z;cases rv;exact PySem.W.kia_tup PySem.W.kitx_none I.kIn True.intro ho ek (fun z=>nomatch z) q
 | bool b =>
  have z:=aZ R r e;rw [See] at z;subst z;cases rv;exact PySem.W.kia_tup PySem.W.kitx_bool I.kIn True.intro ho ek (fun z=>nomatch z) q
 | int b =>
  have z:=aZ R r e;rw [See] at z;subst z;obtain ⟨t,rfl⟩:=rv;exact PySem.W.kia_tup PySem.W.kitx_int I.kIn True.intro ho ek (fun z=>nomatch z) q
 | str b =>
  have z:=aZ R r e;rw [See] at z;subst z;obtain ⟨t,rfl⟩:=rv;exact PySem.W.kia_tup PySem.W.kitx_str I.kIn True.intro ho ek (fun z=>nomatch z) q
 | list xs =>
  obtain ⟨p,vs,rfl,sq,_⟩:=cD R r e;cases rv;obtain ⟨its,_,⟨o,n,ho',hc,_⟩,_⟩:=I.list sq;exact PySem.W.kia_tup PySem.W.kitx_list I.kIn ⟨o,ho',hc⟩ ho ek (fun z=>nomatch z) q
 | tuple xs =>
  obtain ⟨p,vs,rfl,sq,_⟩:=bE r e;cases rv;obtain ⟨its,_,⟨o,ho',hc,_⟩,_⟩:=I.tuple sq.sq;exact PySem.W.kia_tup PySem.W.kitx_tuple I.kIn ⟨o,ho',hc⟩ ho ek (fun z=>nomatch z) q
 | dict kvs =>
  cases w with
  | v u=>cases e
  | c i =>
   obtain ⟨p,ep,rfl⟩:=r;dsimp only [DL.ref] at e;cases q0:h[i]? with
   | none=>rw [q0] at e;cases e
   | some cc =>
    cases cc with
    | t _ _ _=>rw [q0] at e;cases e
    | o _ _=>rw [q0] at e;cases e
    | r _=>rw [q0] at e;cases e
    | l ys=>rw [q0] at e;cases e
    | k ys =>
     obtain ⟨rr,hp,_⟩:=R.vad i p ys ep q0;cases rv;obtain ⟨_,_,vs,_,o,es,ep',h1,h2,_⟩:=iV I.hok (.inl hp);exact PySem.W.kia_tup PySem.W.kitx_dict I.kIn ⟨o,h1,h2.1⟩ ho ek (fun z=>nomatch z) q
  | d y =>
   cases e;have z:Rep X.K A H (.dict kvs) v:=r;rw [Rep] at z;obtain ⟨p,kv',rfl,⟨_,hp⟩,_⟩:=z;cases rv;obtain ⟨_,_,vs,_,o,es,ep,h1,h2,_⟩:=iV I.hok hp;exact PySem.W.kia_tup PySem.W.kitx_dict I.kIn ⟨o,h1,h2.1⟩ ho ek (fun z=>nomatch z) q
def cS6 (T T':String) (te:DTE):DTE:=fun δ h Q=>te δ h fun w h1=>match ref h1 w with
 | some d=>Q (.d (.bool (isi d T||isi d T'))) h1
 | none=>False
def bG1 {k} {T T':Str} {Ts Ts':String} (hk:wD Ts Ts') (hm:X.mg "isinstance"=none) (hT:X.mg T=none) (hT':X.mg T'=none) (he:DE X e te) (hv:bootBuiltins T=some (.type Ts)) (hv':bootBuiltins T'=some (.type Ts')) (hg:Gl X "isinstance") (hgT:Gl X T) (hgT':Gl X T') (hTn:T≠"__name__") (hTd:(T==("__debug__":Str))=false) (hTn':T'≠"__name__") (hTd':(T'==("__debug__":Str))=false)
  (hs:starEach (e::[.Tuple [.Name T p2,.Name T' p3] k p4]) X.env=(false,eval e X.env)::starEach [.Tuple [.Name T p2,.Name T' p3] k p4] X.env)
  (hpl:(backTo pos (starEach ([.Tuple [.Name T p2,.Name T' p3] k p4]:List Expr) X.env)).any (·.1)=false):DE X (.Call (.Name "isinstance" p) [e,.Tuple [.Name T p2,.Name T' p3] k p4] [] pos) (cS6 Ts Ts' te):=by
 have h1:PE X (.Name T p2) (tC (.ty Ts)):=qE hgT hT hv rfl hTn hTd;have h2:PE X (.Name T' p3) (tC (.ty Ts')):=qE hgT' hT' hv' rfl hTn' hTd';have ht:PE X (.Tuple [.Name T p2,.Name T' p3] k p4) (bU2 (iS (tC (.ty Ts)) (iS (tC (.ty Ts')) aI8))):=aI9 (eT h1 (eT h2 lS rfl) rfl);have ha:PA X [e,.Tuple [.Name T p2,.Name T' p3] k p4] (iS (up X.K te) (iS (bU2 (iS (tC (.ty Ts)) (iS (tC (.ty Ts')) aI8))) aI8)):=eT he (eT ht lS rfl) hs;have hc:cQ X (.builtin "isinstance") (fun xs H Q=>∃ x h A μ w d tp,xs=[x,.ref tp]/\H tp=some (.tup [.ty Ts,.ty Ts'])/\HeapRep X.K A μ h H/\RepW X.K A μ H w x/\ref h w=some d/\Q (.bl (isi d Ts||isi d Ts')) H):=by
  intro pins s σ H xs us Q I r h;obtain ⟨x,h,A,μ,w,d,tp,rfl,htp,R,rx,e,q⟩:=h;cases r with
  | cons r1 r2 =>
   cases r2 with
   | cons r3 r4 =>
    cases r4;cases r3;exact aD6 I R rx e r1 htp hk fun tk=>⟨.bl _,H,I.tok tk,rfl,q⟩
 refine aF (lT hc hg hm (by rfl) ha (by decide) (by decide) hs hpl) fun σ H Q q=>?_;obtain ⟨δ,h,A,μ,kk,R,q,c⟩:=q;refine ⟨δ,h,A,μ,_,R,q,fun w h1 v H1 A1 μ1 q1 x1 R1 r1=>?_⟩;refine ⟨(by decide:(2:Nat)<=sizeLine),fun tp hp=>?_⟩;split at q1
 ·rename_i d ed;have x2:=x1.trans (bD (o:=.tup [.ty Ts,.ty Ts']) hp);exact ⟨v,h1,A1,μ1,w,d,tp,rfl,by simp [upd],R1.fresh hp,r1.ext (bD hp) R1.sub,ed,c _ h1 _ _ A1 μ1 q1 x2 (R1.fresh hp) bB⟩
 ·exact q1.elim
end
end DL
namespace CI
open PySem PySem.Spec PyProof.Rows L2 DL ST
abbrev XR (α:Type):=DSt->aA->Option (α×aA)
set_option genInjectivity true in
inductive Fl where
 | nx (δ:DSt) | rt (w:W) | bk (δ:DSt) | ct (δ:DSt)
abbrev XS:=DSt->aA->Option (Fl×aA)
abbrev XG:=W->DSt->aA->Option (DSt×aA)
abbrev XF:=List W->aA->Option (PyData×aA)
abbrev XFW:=List W->aA->Option (W×aA)
structure ObS where
 fnW:Str->Option XFW
 cls:Str->Option (Addr×XFW)
 om:Str->Option (Addr×XFW)
 fo:Addr->Str->Bool
noncomputable def xno {α:Type}:XR α:=fun _ _=>none
noncomputable def aC {α:Type} (a:α):XR α:=fun _ h=>some (a,h)
noncomputable def xb {α β:Type} (x:XR α) (f:α->XR β):XR β:=fun δ h=>(x δ h).bind fun p=>f p.1 δ p.2
structure Sta where
 bl:List Str
 gc:Str->Option PyData
 tk:Str->Option (Str->Option Int)
 fn:Str->Option XF
 ac:Str->List Nat
 cv:List Str
 N:List Str
 S:Scope
 top:Bool
 fuel:Nat
 ob:ObS
structure Evs where
 E:Sta->Expr->XR W
 T:Sta->Expr->XR Bool
 F:Sta->Expr->XR (List PyData)
 G:Sta->Expr->XG
 S:Sta->Stmt->XS
noncomputable def Evs.no:Evs:=⟨fun _ _=>xno,fun _ _=>xno,fun _ _=>xno,fun _ _ _ _ _=>none,fun _ _ _ _=>none⟩
noncomputable def fA (x:Str):Bool:=!(x==("__debug__":Str))&&(!(x==("__classdict__":Str))&&!(x==("__name__":Str)))
noncomputable def cD3 (S:Scope) (x:Str):Bool:=match S.names.lookup x with
 | some .local=>true
 | some .cell=>true
 | some .free=>true
 | _=>false
noncomputable def wE (S:Scope) (x:Str):Bool:=match S.names.lookup x with
 | some .local=>true
 | some .cell=>true
 | _=>false
noncomputable def eQ (S:Scope) (x:Str):Bool:=match S.names.lookup x with
 | some .local=>true
 | _=>false
noncomputable def glB (S:Scope) (x:Str):Bool:=match S.names.lookup x with
 | some .globalImplicit=>true
 | _=>false
noncomputable def slot (st:Sta) (x:Str):Option Nat:=st.N.findIdx? (·==x)
noncomputable def aB (i:Nat):XR W:=fun δ h=>match δ[i]? with
 | some (some w)=>some (w,h)
 | _=>none
noncomputable def kW (st:Sta) (x:Str):Bool:=fA x&&glB st.S x
noncomputable def aP0 (st:Sta) (x:Str):XR W:=if fA x=true then
  (match slot st x with
   | some i=>if cD3 st.S x=true then aB i else xno
   | none=>(match st.gc x with
    | some d=>if glB st.S x=true then aC (.d d) else xno
    | none=>xno))
 else xno
noncomputable def aP1:Const->XR W
 | .none=>aC (.d .none)
 | .bool b=>aC (.d (.bool b))
 | .int i=>aC (.d (.int i))
 | .str x=>if PyData.strOk x=true then aC (.d (.str x)) else xno
 | _=>xno
mutual
noncomputable def aN:Nat->PyData->Bool
 | _,.none=>true
 | _,.bool _=>true
 | _,.int _=>true
 | _,.str _=>true
 | n+1,.list xs=>plainsB n xs
 | n+1,.tuple xs=>plainsB n xs
 | _,_=>false
noncomputable def plainsB:Nat->List PyData->Bool
 | _,[]=>true
 | n,x::xs=>aN n x&&plainsB n xs
end
noncomputable def gF (i j:Int):Bool:=(decide (-(2^64) < i)&&decide (i < 2^64))||(decide (-(2^64) < j)&&decide (j < 2^64))
noncomputable def aT (j:Int):Bool:=decide (0 < j)&&(decide (j < 1073741824)||decide (j.natAbs.log2 < 8000))
noncomputable def tO (i j:Int):Bool:=decide (0<=j)&&(decide (j<=1000000)&&decide (i.natAbs < 2^64))
noncomputable def cD4 (u w:W) (h:aA):Option (W×aA):=match u,w with
 | .d (.int i),.d (.int j)=>some (.d (.int (i+j)),h)
 | .d (.tuple xs),.d (.tuple ys)=>if xs.length+ys.length<=sizeLine then some (.d (.tuple (xs++ys)),h) else none
 | _,_=>(match ref h u,ref h w with
  | some (.list xs),some (.list ys)=>if xs.length+ys.length<=sizeLine then some (.d (.list (xs++ys)),h) else none
  | _,_=>none)
noncomputable def cD5 (u w:W) (h:aA):Option (W×aA):=match u,w with
 | .d (.int i),.d (.int j)=>if gF i j=true then some (.d (.int (i*j)),h) else none
 | _,_=>none
noncomputable def fB (op:Operator) (u w:W) (h:aA):Option (W×aA):=match op with
 | .Add=>cD4 u w h
 | .Mult=>cD5 u w h
 | _=>(match u,w with
  | .d (.int i),.d (.int j)=>(match op with
   | .Sub=>some (.d (.int (i - j)),h)
   | .FloorDiv=>if aT j=true then some (.d (.int (i / j)),h) else none
   | .Mod=>if 0 < j then some (.d (.int (i%j)),h) else none
   | .Pow=>if tO i j=true then some (.d (.int (i^j.toNat)),h) else none
   | .RShift=>if 0<=j then some (.d (.int (i / 2^j.toNat)),h) else none
   | .BitAnd=>some (.d (.int (Builtin.bitAnd i j)),h)
   | _=>none)
  | _,_=>none)
noncomputable def aP2:CmpOp->Option (Int->Int->Bool)
 | .Lt=>some fun i j=>decide (i < j)
 | .LtE=>some fun i j=>decide (i<=j)
 | .Gt=>some fun i j=>decide (j < i)
 | .GtE=>some fun i j=>decide (j<=i)
 | _=>none
noncomputable def xEq (u w:W) (h:aA):Option Bool:=match ref h u,ref h w with
 | some a,some b=>if (aN 64 a&&aN 64 b)=true then some (PyData.eqv a b) else none
 | _,_=>none
noncomputable def xIs (u w:W):Option Bool:=match u,w with
 | .d a,.d b=>DL.isSame a b
 | _,_=>none
noncomputable def xIn (u w:W) (h:aA):Option Bool:=match ref h u,ref h w with
 | some d,some (.list xs)=>if (aN 64 (.list xs)&&aN 64 d)=true then some (xs.any fun z=>PyData.eqv z d) else none
 | some d,some (.tuple xs)=>if (aN 64 (.tuple xs)&&aN 64 d)=true then some (xs.any fun z=>PyData.eqv z d) else none
 | some d,some (.dict kvs)=>(match bA d with
  | some k=>some (kvs.any fun p=>decide (bA p.1=some k))
  | none=>none)
 | _,_=>none
noncomputable def cL (op:CmpOp) (u w:W) (h:aA):Option (Bool×aA):=match op with
 | .Eq=>(xEq u w h).map fun b=>(b,h)
 | .NotEq=>(xEq u w h).map fun b=>(!b,h)
 | .Is=>(xIs u w).map fun b=>(b,h)
 | .IsNot=>(xIs u w).map fun b=>(!b,h)
 | .In=>(xIn u w h).map fun b=>(b,h)
 | .NotIn=>(xIn u w h).map fun b=>(!b,h)
 | _=>(match u,w with
  | .d (.int i),.d (.int j)=>(aP2 op).map fun p=>(p i j,h)
  | _,_=>none)
noncomputable def asW (p:Bool×aA):W×aA:=(.d (.bool p.1),p.2)
noncomputable def xIr (u:W) (k:Int) (h:aA):Option (W×aA):=match u with
 | .c j=>(match h[j]? with
  | some (.r is)=>(atI is k).map fun m=>(.c m,h)
  | _=>none)
 | _=>none
noncomputable def xIx (u w:W) (h:aA):Option (W×aA):=match ref h u,w with
 | some (.list xs),.d (.int i)=>(atI xs i).map fun v=>(.d v,h)
 | some (.tuple xs),.d (.int i)=>(atI xs i).map fun v=>(.d v,h)
 | some (.dict kvs),.d d=>(match bA d with
  | some k=>(kvs.find? fun p=>decide (bA p.1=some k)).map fun p=>(.d p.2,h)
  | none=>none)
 | none,.d (.int k)=>xIr u k h
 | _,_=>none
noncomputable def xSl (u:W) (lo hi:Option Int) (h:aA):Option (W×aA):=match u with
 | .d (.tuple xs)=>some (.d (.tuple (cut xs lo hi)),h)
 | _=>(match ref h u with
  | some (.list xs)=>some (.d (.list (cut xs lo hi)),h)
  | _=>none)
noncomputable def bU:List W->aA->Option (W×aA)
 | [w],h=>(match ref h w with
  | some (.list xs)=>some (.d (.int xs.length),h)
  | some (.tuple xs)=>some (.d (.int xs.length),h)
  | _=>none)
 | _,_=>none
noncomputable def cJ:List W->aA->Option (W×aA)
 | [w],h=>(match ref h w with
  | some (.list xs)=>some (.d (.tuple xs),h)
  | some (.tuple xs)=>some (.d (.tuple xs),h)
  | _=>none)
 | _,_=>none
noncomputable def jC:List W->aA->Option (W×aA)
 | [w],h=>(match ref h w with
  | some (.list xs)=>(dP xs).map fun bs=>(.d (.bool (bs.all id)),h)
  | _=>none)
 | _,_=>none
noncomputable def cD6 (x:Str):Option (List W->aA->Option (W×aA)) :=
 if x="len" then some bU else if x="tuple" then some cJ else if x="all" then some jC else if x="int" then some wC else none
noncomputable def cD7 (T:Str):Option String :=
 if T="int" then some "int" else if T="bool" then some "bool" else if T="str" then some "str" else if T="tuple" then some "tuple" else if T="list" then some "list" else none
mutual
noncomputable def peq:PyData->PyData->Bool
 | .none,.none=>true
 | .bool a,.bool b=>a==b
 | .int a,.int b=>a==b
 | .str a,.str b=>a==b
 | .list a,.list b=>peqs a b
 | .tuple a,.tuple b=>peqs a b
 | _,_=>false
noncomputable def peqs:List PyData->List PyData->Bool
 | [],[]=>true
 | x::a,y::b=>peq x y&&peqs a b
 | _,_=>false
end
noncomputable def condB:Option Nat->List PyData->aA->Bool
 | none,_,_=>true
 | some i,xs,h=>(match h[i]? with
  | some (.l ys)=>peqs ys xs
  | _=>false)
noncomputable def bC (g:XG) (tb:XS) (c:Option Nat) (all:List PyData):List PyData->DSt->aA->Option (Fl×aA)
 | [],δ,h=>if condB c all h=true then some (.nx δ,h) else none
 | x::r,δ,h=>if condB c all h=true then
   (g (.d x) δ h).bind fun p=>(tb p.1 p.2).bind fun q=>(match q.1 with
    | .nx δ'=>bC g tb c all r δ' q.2
    | .ct δ'=>bC g tb c all r δ' q.2
    | .bk δ'=>some (.nx δ',q.2)
    | .rt w=>some (.rt w,q.2))
  else none
noncomputable def aO (g:XG) (tt:XR Bool) (te:XR W) (c:Option Nat) (all:List PyData):List PyData->DSt->aA->List PyData->Option (List PyData×aA)
 | [],_,h,ac=>if condB c all h=true then some (ac,h) else none
 | x::r,δ,h,ac=>if condB c all h=true then
   (g (.d x) δ h).bind fun p=>(tt p.1 p.2).bind fun q=>if q.1=true then
     (te p.1 q.2).bind fun y=>(match y.1 with
      | .d z=>aO g tt te c all r p.1 y.2 (ac++[z])
      | _=>none)
    else aO g tt te c all r p.1 q.2 ac
  else none
noncomputable def aJ:Expr->Bool
 | .Starred _ _=>false
 | _=>true
noncomputable def bZ (x:XR (List PyData)):XR W:=fun δ h=>(x δ h).bind fun p=>some (.c p.2.length,p.2++[.l p.1])
noncomputable def aK (x:XR (List PyData)):XR W:=fun δ h=>(x δ h).bind fun p=>some (.d (.list p.1),p.2)
noncomputable def pC (f:Str->Option Int) (x:XR W):XR Bool:=xb x fun w=>(match w with
 | .d (.str s)=>aC (!(f s).isSome)
 | .d .none=>aC true
 | _=>xno)
noncomputable def xC1 (op:CmpOp) (x y:XR W):XR Bool:=xb x fun u=>xb y fun w=>fun _ h=>cL op u w h
noncomputable def xC2 (op op':CmpOp) (x y z:XR W):XR Bool:=xb x fun u=>xb y fun w=>fun δ h=>(cL op u w h).bind fun p=>if p.1=true then (z δ p.2).bind fun q=>cL op' w q.1 q.2 else some (false,p.2)
noncomputable def xC3 (op op' op'':CmpOp) (x y z t:XR W):XR Bool:=xb x fun u=>xb y fun w=>fun δ h=>(cL op u w h).bind fun p =>
 if p.1=true then (z δ p.2).bind fun q=>(cL op' w q.1 q.2).bind fun p'=>if p'.1=true then (t δ p'.2).bind fun q'=>cL op'' q.1 q'.1 q'.2 else some (false,p'.2) else some (false,p.2)
noncomputable def cE (x:XR Bool):XR W:=fun δ h=>(x δ h).map asW
noncomputable def qX:List XG->List PyData->DSt->aA->Option (DSt×aA)
 | [],[],δ,h=>some (δ,h)
 | g::gs,x::xs,δ,h=>(g (.d x) δ h).bind fun p=>qX gs xs p.1 p.2
 | _,_,_,_=>none
noncomputable def dQ (gs:List XG):XG:=fun w δ h=>(match w with
 | .d (.tuple xs)=>qX gs xs δ h
 | _=>none)
section
variable (v:Evs) (st:Sta)
noncomputable def cR:List Expr->XR (List W)
 | []=>aC []
 | e::es=>if aJ e=true then xb (v.E st e) fun w=>xb (cR es) fun ws=>aC (w::ws) else xno
noncomputable def dJ6:Expr->Bool
 | .Name _ _=>true
 | _=>false
noncomputable def aD7:Option Expr->XR (Option Int)
 | none=>aC none
 | some e=>xb (v.E st e) fun w=>(match w with
  | .d (.int i)=>aC (some i)
  | _=>xno)
noncomputable def aP3:List Expr->XR W
 | []=>xno
 | [a]=>v.E st a
 | a::b::r=>xb (v.E st a) fun w=>(match w with
  | .d (.bool true)=>aP3 (b::r)
  | .d (.bool false)=>aC (.d (.bool false))
  | _=>xno)
noncomputable def cD8:List Expr->XR W
 | []=>xno
 | [a]=>v.E st a
 | a::b::r=>xb (v.E st a) fun w=>(match w with
  | .d (.bool true)=>aC (.d (.bool true))
  | .d (.bool false)=>cD8 (b::r)
  | _=>xno)
noncomputable def aP4:List Expr->XR Bool
 | []=>xno
 | [a]=>v.T st a
 | a::b::r=>xb (v.T st a) fun c=>if c=true then aP4 (b::r) else aC false
noncomputable def cD9:List Expr->XR Bool
 | []=>xno
 | [a]=>v.T st a
 | a::b::r=>xb (v.T st a) fun c=>if c=true then aC true else cD9 (b::r)
noncomputable def kM:Expr->Option (Str->Option Int)
 | .Name x _=>if kW st x&&(slot st x).isNone then st.tk x else none
 | _=>none
noncomputable def jD (a:Expr) (ops:List CmpOp) (cs:List Expr):XR Bool:=match ops,cs with
 | [op],[b]=>(match kM st b with
  | some f=>if op=.NotIn then pC f (v.E st a) else xno
  | none=>if behindInMarks op b=true then xno else xC1 op (v.E st a) (v.E st b))
 | [op,op'],[b,c]=>if lastMarks [op,op'] [b,c]=true then xno else xC2 op op' (v.E st a) (v.E st b) (v.E st c)
 | _,_=>xno
noncomputable def jX (a:Expr) (ops:List CmpOp) (cs:List Expr):XR Bool:=match ops,cs with
 | [op,op',op''],[b,c,d]=>if lastMarks [op,op',op''] [b,c,d]=true then xno else xC3 op op' op'' (v.E st a) (v.E st b) (v.E st c) (v.E st d)
 | _,_=>jD v st a ops cs
noncomputable def fV (i j:Int):Bool:=decide (j - i<=16000000)&&(decide (-(2^62)<=i)&&(decide (i < 2^62)&&(decide (-(2^62)<=j)&&decide (j < 2^62))))
noncomputable def bN (x:XR W):XR (List PyData×Option Nat):=xb x fun w=>fun _ h=>(match w with
 | .d (.list xs)=>some ((xs,none),h)
 | .d (.tuple xs)=>some ((xs,none),h)
 | .c i=>(match h[i]? with
  | some (.l xs)=>some ((xs,some i),h)
  | _=>none)
 | _=>none)
noncomputable def kN:Expr->Bool
 | .Set _ _ _=>true
 | _=>false
noncomputable def tP:Expr->Bool
 | .Tuple _ _ _=>true
 | _=>false
noncomputable def pD (tg e:Expr):XR (List PyData×Option Nat):=match e with
 | .Call (.Name x _) [a] [] _=>if x="range" then (if kW st x&&(slot st x).isNone&&st.bl.contains x&&aJ a then xb (v.E st a) fun w=>fun _ h=>(match w with
   | .d (.int j)=>if fV 0 j=true then some ((rng 0 j.toNat,none),h) else none
   | _=>none) else xno)
  else if x="enumerate" then (if kW st x&&(slot st x).isNone&&st.bl.contains x&&aJ a&&tP tg then xb (v.E st a) fun u=>fun _ h=>(match fU u with
   | some xs=>some ((fJ xs,none),h)
   | none=>none) else xno)
  else bN (v.E st e)
 | .Call (.Name x _) [a,b] [] _=>if x="range" then (if kW st x&&(slot st x).isNone&&st.bl.contains x&&aJ a&&aJ b then xb (v.E st a) fun u=>xb (v.E st b) fun w=>fun _ h=>(match u,w with
   | .d (.int i),.d (.int j)=>if fV i j=true then some ((rng i (j - i).toNat,none),h) else none
   | _,_=>none) else xno)
  else if x="zip" then (if kW st x&&(slot st x).isNone&&st.bl.contains x&&aJ a&&aJ b&&tP tg then xb (v.E st a) fun u=>xb (v.E st b) fun w=>fun _ h=>(match fU u,fU w with
   | some xs,some ys=>some ((mH xs ys,none),h)
   | _,_=>none) else xno)
  else bN (v.E st e)
 | _=>if kN e=true then xno else bN (v.E st e)
noncomputable def wF (sc:Scope):List Str:=(sc.names.filter fun p=>(p.2==.local||p.2==.free)&&!(p.1==(".0":Str))).map (·.1)
noncomputable def pE (N:List Str) (sc:Scope):List (Option Nat):=(wF sc).map fun x=>if sc.names.lookup x=some .free then N.findIdx? (·==x) else none
noncomputable def cE0 (sc S:Scope):Scope:={ sc with names:=sc.names.map fun (n,k)=>if (k==.free&&S.kind==.function&&S.names.lookup n==some .cell) then (n,.cell) else (n,k) }
noncomputable def tQ (N:List Str) (sc S:Scope):Bool :=
 decide (sc.kind=.function)&&((sc.names.all fun y=>!(y.2==.cell))&&((sc.names.all fun y=>!(y.2==.local)||(sc.names.lookup y.1==some .local)) &&
  ((sc.names.all fun y=>!(y.2==.free)||(S.names.lookup y.1==some .cell||S.names.lookup y.1==some .free))&&(decide (wF sc).Nodup &&
   (((pE N sc).zip (wF sc)).all fun p=>match p.1 with
    | none=>true
    | some i=>decide (N[i]?=some p.2)&&decide (sc.names.lookup p.2=some NameKind.free))))))
noncomputable def Sta.blk (sc:Scope):Sta:={ st with N:=wF sc,S:=cE0 sc st.S,top:=false }
noncomputable def cE1:List Expr->XR Bool
 | []=>aC true
 | [c]=>v.T st c
 | _=>xno
noncomputable def pG (elt tg iter:Expr) (ifs:List Expr) (sc:Scope):XR (List PyData) :=
 if tQ st.N sc st.S&&!kN iter then xb (pD v st tg iter) fun p=>fun δ h=>aO (v.G (st.blk sc) tg) (cE1 v (st.blk sc) ifs) (v.E (st.blk sc) elt) p.2 p.1 p.1 (aX (pE st.N sc) δ) h [] else xno
noncomputable def xPl (x:XR (List W)):XR (List PyData):=xb x fun ws=>fun _ h=>(match cZ ws with
 | some xs=>if xs.length<=sizeLine then some (xs,h) else none
 | none=>none)
noncomputable def rgA:List Expr->Option Expr
 | [.Call (.Name y _) [b] [] _]=>if y="range" then some b else none
 | _=>none
noncomputable def okC (x:Str):Bool:=kW st x&&(slot st x).isNone&&st.bl.contains x
noncomputable def dI (e:Expr):XR (List PyData):=match e with
 | .List es _=>xPl (cR v st es)
 | .ListComp elt [⟨tg,iter,ifs,a⟩] sc _=>if a=0 then pG v st elt tg iter ifs sc else xno
 | .Subscript a (.Slice lo hi none _) _=>xb (v.E st a) fun x=>xb (aD7 v st lo) fun l=>xb (aD7 v st hi) fun u=>fun _ h=>(match ref h x with
  | some (.list xs)=>some (cut xs l u,h)
  | _=>none)
 | .BinOp a .Add b _=>xb (v.E st a) fun u=>xb (v.E st b) fun w=>fun _ h=>(match ref h u,ref h w with
  | some (.list xs),some (.list ys)=>if xs.length+ys.length<=sizeLine then some (xs++ys,h) else none
  | _,_=>none)
 | .BinOp (.List es p) .Mult b _=>xb (bZ (xPl (cR v st es))) fun u=>xb (v.E st b) fun w=>fun _ h=>(match u,w with
  | .c i,.d (.int k)=>(match h[i]? with
   | some (.l xs)=>if -(2^63)<=k/\k < 2^63/\xs.length*k.toNat<=sizeLine then some ((List.replicate k.toNat xs).flatten,h) else none
   | _=>none)
  | _,_=>none)
 | .Call (.Name x _) (a::es) [] _=>if x="list" then (match rgA (a::es) with
  | some b=>if okC st x&&okC st "range"&&aJ b then xb (cR v st [b]) fun ws=>fun _ h=>(match ws with
   | [.d (.int j)]=>if -(2^62)<=j/\j < 2^62/\j<=16000000 then some (rng 0 j.toNat,h) else none
   | _=>none) else xno
  | none=>if kW st x&&(slot st x).isNone&&st.bl.contains x then xb (cR v st (a::es)) fun ws=>fun _ h=>(match ws with
  | [w]=>(match ref h w with
   | some (.list xs)=>some (xs,h)
   | some (.tuple xs)=>some (xs,h)
   | _=>none)
  | _=>none) else xno) else xno
 | _=>xno
noncomputable def bG2:Expr->Bool
 | .Slice _ _ _ _=>true
 | _=>false
noncomputable def iO:Expr->Bool
 | .Call _ _ _ _=>false
 | _=>true
noncomputable def cE2 (m:Str):Option (W->List W->aA->Option (W×aA)) :=
 if m="append" then some fun o ws h=>(match o,ws with
  | .c j,[.d x]=>(match h[j]? with
   | some (.l xs)=>if xs.length < sizeLine then some (.d .none,h.set j (.l (xs++[x]))) else none
   | _=>none)
  | _,_=>none)
 else none
noncomputable def jE (m:Str) (w:W) (h:aA):Bool:=if m="append" then (match w with
  | .c j=>(match h[j]? with
   | some (.l _)=>true
   | _=>false)
  | _=>false) else true
noncomputable def bO6 (o:Expr) (m:Str) (g:W->List W->aA->Option (W×aA)) (args:List Expr):XR W:=xb (v.E st o) fun w=>fun δ h=>if jE m w h=true then (cR v st args δ h).bind fun p=>g w p.1 p.2 else none
noncomputable def aP5 (j:Nat) (ws:List W) (h:aA):Option (W×aA):=match ws,h[j]? with
 | [.d (.int i)],some (.l xs)=>(ixN xs.length i).bind fun n=>(xs[n]?).bind fun x=>if -(2^63)<=i/\i < 2^63 then some (.d x,h.set j (.l (xs.eraseIdx n))) else none
 | _,_=>none
noncomputable def cS7 (o a:Expr):XR W:=xb (v.E st o) fun w=>fun δ h=>match w with
 | .c j=>(match h[j]? with
  | some (.l _)=>(cR v st [a] δ h).bind fun p=>aP5 j p.1 p.2
  | _=>none)
 | _=>none
noncomputable def cS8 (o a:Expr):XR W:=xb (v.E st o) fun w=>fun δ h=>match w with
 | .c j=>(match h[j]? with
  | some (.l _)=>(v.F st a δ h).bind fun p=>(match p.2[j]? with
   | some (.l xs)=>if xs.length+p.1.length<=sizeLine then some (.d .none,p.2.set j (.l (xs++p.1))) else none
   | _=>none)
  | _=>none)
 | _=>none
noncomputable def aP6:Expr->Bool
 | .Name _ _=>true
 | .Call (.Name _ _) (_::_) [] _=>true
 | _=>false
noncomputable def xMk (C:Addr) (m:XFW) (ws:List W) (h:aA):Option (W×aA):=(m (.c h.length::ws) (h++[.o C []])).bind fun p=>match p.1 with
 | .d .none=>some (.c h.length,p.2)
 | _=>none
noncomputable def xMo (o:Expr) (m:Str) (C:Addr) (g:XFW) (args:List Expr):XR W:=xb (v.E st o) fun w=>fun δ h=>match w with
 | .c j=>(match h[j]? with
  | some (.o C' fs)=>if C'=C/\fs.lookup m=none then (cR v st args δ h).bind fun p=>g (.c j::p.1) p.2 else none
  | _=>none)
 | _=>none
noncomputable def cS9 (o:Expr) (f:Str):XR W:=xb (v.E st o) fun w=>fun _ h=>match w with
 | .c j=>(match h[j]? with
  | some (.o C fs)=>if st.ob.fo C f=true then (fs.lookup f).map fun w=>(w,h) else none
  | _=>none)
 | _=>none
noncomputable def yB (f:Expr) (args:List Expr) (pos:Pos):XR W:=match f with
 | .Name x _=>if kW st x&&(slot st x).isNone then
   (match st.ob.fnW x with
   | some m=>(match args with
     | []=>xno
     | _::_=>xb (cR v st args) fun ws=>fun _ h=>m ws h)
   | none=>match st.ob.cls x with
   | some (C,m)=>(match args with
     | []=>xno
     | _::_=>xb (cR v st args) fun ws=>fun _ h=>xMk C m ws h)
   | none=>match st.fn x with
    | some m=>(match args with
     | []=>xno
     | _::_=>xb (cR v st args) fun ws=>fun _ h=>(m ws h).bind fun p=>some (.d p.1,p.2))
    | none=>if st.bl.contains x then
      (match cD6 x with
       | some g=>(match args with
        | []=>xno
        | _::_=>xb (cR v st args) fun ws=>fun _ h=>g ws h)
       | none=>if x="isinstance" then
         (match args with
          | [e,.Name T _]=>if aJ e&&kW st T&&(slot st T).isNone&&st.bl.contains T then (match cD7 T with
            | some Ts=>xb (v.E st e) fun w=>fun _ h=>(ref h w).bind fun d=>some (.d (.bool (isi d Ts)),h)
            | none=>xno) else xno
          | [e,.Tuple [.Name T _,.Name T' _] _ _]=>if aJ e&&okC st T&&okC st T'&&decide (T="list"/\T'="tuple") then xb (v.E st e) fun w=>fun _ h=>(ref h w).bind fun d=>some (.d (.bool (isi d "list"||isi d "tuple")),h) else xno
          | _=>xno)
        else aK (dI v st (.Call f args [] pos)))
     else xno)
   else xno
 | .Attribute o m apos=>match st.ob.om m with
  | some (C,g)=>(match args with
    | []=>xno
    | _::_=>if aP6 o&&(apos.endLine==pos.line)&&decide (args.length < 29)&&args.all aJ then xMo v st o m C g args else xno)
  | none=>if iO o&&(apos.endLine==pos.line) then
   (match args with
    | []=>xno
    | a::es=>if m="pop" then (match es with
      | []=>if aJ a=true then cS7 v st o a else xno
      | _=>xno)
     else if m="extend" then (match es with
      | []=>if aJ a=true then cS8 v st o a else xno
      | _=>xno)
     else if decide (args.length < 29) then (match cE2 m with
     | some g=>bO6 v st o m g args
     | none=>xno) else xno)
   else xno
 | _=>xno
noncomputable def xLS:List W->aA->Option (W×aA)
 | [.d (.tuple xs)],h=>(match iE xs with
  | some ns=>if ns.length<=62 then some (.d (.int (ST.dd ns).length),h) else none
  | none=>none)
 | _,_=>none
noncomputable def okB (x:Str):Bool:=kW st x&&(slot st x).isNone&&st.bl.contains x&&(st.fn x).isNone
noncomputable def aP7 (f:Expr) (args:List Expr) (pos:Pos):XR W:=match f,args with
 | .Name x _,[.Call (.Name y _) as [] _]=>if x="len"/\y="set" then (match as with
   | [a]=>if okB st x&&okB st y&&aJ a then xb (cR v st [a]) fun ws=>fun _ h=>xLS ws h else xno
   | _=>xno)
  else yB v st f args pos
 | _,_=>yB v st f args pos
noncomputable def jF (e:Expr):XR W:=match e with
 | .Name x _=>aP0 st x
 | .Constant c _ _=>aP1 c
 | .BinOp a op b _=>(match a,op with
  | .List es p,.Mult=>aK (dI v st (.BinOp (.List es p) .Mult b p))
  | _,_=>xb (v.E st a) fun u=>xb (v.E st b) fun w=>fun _ h=>fB op u w h)
 | .Compare a ops cs _=>cE (jX v st a ops cs)
 | .BoolOp .And vs _=>aP3 v st vs
 | .BoolOp .Or vs _=>cD8 v st vs
 | .UnaryOp .Not a _=>xb (v.E st a) fun w=>(match w with
  | .d (.bool b)=>aC (.d (.bool (!b)))
  | _=>xno)
 | .UnaryOp .USub a _=>xb (v.E st a) fun w=>(match w with
  | .d (.int i)=>aC (.d (.int (-i)))
  | _=>xno)
 | .IfExp c a b _=>xb (v.T st c) fun t=>if t=true then v.E st a else v.E st b
 | .Tuple es _ _=>xb (xPl (cR v st es)) fun xs=>aC (.d (.tuple xs))
 | .List es p=>aK (dI v st (.List es p))
 | .ListComp elt gs sc p=>aK (dI v st (.ListComp elt gs sc p))
 | .Subscript a s _=>(match s with
  | .Slice lo hi none _=>xb (v.E st a) fun x=>xb (aD7 v st lo) fun l=>xb (aD7 v st hi) fun u=>fun _ h=>xSl x l u h
  | _=>if bG2 s=true then xno else (match kM st a with
   | some f=>xb (v.E st s) fun w=>(match w with
    | .d (.str z)=>(match f z with
     | some i=>aC (.d (.int i))
     | none=>xno)
    | _=>xno)
   | none=>xb (v.E st a) fun x=>xb (v.E st s) fun y=>fun _ h=>xIx x y h))
 | .Call f args [] p=>aP7 v st f args p
 | .Attribute o f _=>if iO o=true then cS9 v st o f else xno
 | .Dict [] [] _=>aC (.d (.dict []))
 | _=>xno
noncomputable def aP8 (e:Expr):XR Bool:=match e with
 | .UnaryOp .Not a _=>xb (v.T st a) fun b=>aC (!b)
 | .BoolOp .And vs _=>aP4 v st vs
 | .BoolOp .Or vs _=>cD9 v st vs
 | .Compare a ops cs _=>jD v st a ops cs
 | .IfExp _ _ _ _=>xno
 | _=>xb (v.E st e) fun w=>(match w with
  | .d (.bool b)=>aC b
  | _=>xno)
noncomputable def aP9:List Expr->List XG
 | []=>[]
 | e::es=>v.G st e::aP9 es
noncomputable def cT0 (es:List Expr) (xs:List PyData) (δ:DSt) (h:aA):Option (DSt×aA):=qX (aP9 v st es) xs δ h
noncomputable def tR (e:Expr):XG:=match e with
 | .Name x _=>(match slot st x with
  | some i=>if wE st.S x&&(st.top||eQ st.S x) then fun w δ h=>some (δ.set i (some w),h) else fun _ _ _=>none
  | none=>fun _ _ _=>none)
 | .Tuple es _ _=>if es.all aJ=true then dQ (aP9 v st es) else fun _ _ _=>none
 | .Subscript o i _=>if bG2 i=true then fun _ _ _=>none else fun w δ h=>(v.E st o δ h).bind fun p=>(v.E st i δ p.2).bind fun q=>(match p.1,q.1,w with
  | .c j,.d y,.d x=>(match q.2[j]?,y with
   | some (.l xs),.int k=>(ixN xs.length k).map fun n=>(δ,q.2.set j (.l (xs.set n x)))
   | some (.k kvs),_=>if (bA y).isSome=true/\kvs.length < sizeLine then some (δ,q.2.set j (.k (mF kvs y x))) else none
   | _,_=>none)
  | _,_,_=>none)
 | _=>fun _ _ _=>none
noncomputable def dD (g:XG) (tt:XR Bool) (te:XR W) (c:Option Nat) (all:List PyData):List PyData->DSt->aA->List Nat->Option (List Nat×aA)
 | [],_,h,ac=>if condB c all h=true then some (ac,h) else none
 | x::r,δ,h,ac=>if condB c all h=true then
   (g (.d x) δ h).bind fun p=>(tt p.1 p.2).bind fun q=>if q.1=true then
     (te p.1 q.2).bind fun y=>(match y.1 with
      | .c j=>dD g tt te c all r p.1 y.2 (ac++[j])
      | _=>none)
    else dD g tt te c all r p.1 q.2 ac
  else none
noncomputable def aQ0 (tg iter:Expr) (ifs:List Expr) (sc:Scope):XR W :=
 if tQ st.N sc st.S&&!kN iter then xb (pD v st tg iter) fun p=>fun δ h=>(dD (v.G (st.blk sc) tg) (cE1 v (st.blk sc) ifs) (bZ (xPl (aC []))) p.2 p.1 p.1 (aX (pE st.N sc) δ) h []).bind fun q=>some (.c q.2.length,q.2++[.r q.1]) else xno
noncomputable def cE3 (e:Expr):XR W:=match e with
 | .ListComp (.List [] _) [⟨tg,iter,ifs,a⟩] sc _=>if a=0 then aQ0 v st tg iter ifs sc else xno
 | _=>v.E st e
noncomputable def bO7 (o:Expr) (f:Str) (e:Expr):XS:=fun δ h=>(cE3 v st e δ h).bind fun p=>(v.E st o δ p.2).bind fun q=>match q.1 with
 | .c j=>(match q.2[j]? with
  | some (.o C fs)=>if st.ob.fo C f=true/\fs.length < 1000 then some (.nx δ,q.2.set j (.o C (jW f p.1 fs))) else none
  | _=>none)
 | _=>none
noncomputable def jY:Expr->Bool
 | .ListComp _ _ _ _=>true
 | .SetComp _ _ _ _=>true
 | .DictComp _ _ _ _ _=>true
 | _=>false
noncomputable def cE4 (e tg:Expr):Bool:=tP e&&(match tg with
 | .Tuple _ _ _=>true
 | .List _ _=>true
 | _=>false)
noncomputable def xSs:List Stmt->XS
 | [],δ,h=>some (.nx δ,h)
 | s::r,δ,h=>(v.S st s δ h).bind fun p=>(match p.1 with
  | .nx δ'=>xSs r δ' p.2
  | f=>some (f,p.2))
noncomputable def cT1:Expr->Bool
 | .Dict [] [] _=>true
 | _=>false
noncomputable def tS:XR W:=fun _ h=>some (.c h.length,h++[.k []])
noncomputable def aQ (i:Nat) (x:XR W):XS:=fun δ h=>(x δ h).bind fun p=>some (.nx (δ.set i (some p.1)),p.2)
noncomputable def swB (e:Expr) (x:Str) (px:Pos):Bool:=match e with
 | .ListComp _ _ sc p=>eQ st.S x&&(px.line==p.line)&&!(sc.names.any fun (n,k)=>n==x&&(k==.local||k==.cell))
 | _=>false
noncomputable def mM (s:Stmt):XS:=match s with
 | .Return (some e) _=>fun δ h=>(v.E st e δ h).bind fun p=>some (.rt p.1,p.2)
 | .If c a b _=>fun δ h=>(v.T st c δ h).bind fun p=>if p.1=true then xSs v st a δ p.2 else xSs v st b δ p.2
 | .Expr e _=>if jY e=true then fun _ _=>none else fun δ h=>(v.E st e δ h).bind fun p=>some (.nx δ,p.2)
 | .Pass _=>fun δ h=>some (.nx δ,h)
 | .Break _=>fun δ h=>some (.bk δ,h)
 | .Continue _=>fun δ h=>some (.ct δ,h)
 | .For tg iter body [] _=>if kN iter=true then fun _ _=>none else fun δ h=>(pD v st tg iter δ h).bind fun p=>bC (v.G st tg) (xSs v st body) p.1.2 p.1.1 p.1.1 δ p.2
 | .Assign [.Name x px] e _=>(match slot st x with
  | some i=>if wE st.S x&&(st.top||eQ st.S x) then
    (if jY e=true then (if (swB st e x px||!(eQ st.S x))=true then aQ i (if st.cv.contains x=true then bZ (dI v st e) else aK (dI v st e)) else fun _ _=>none)
    else if (st.cv.contains x&&cT1 e)=true then aQ i tS
    else if (st.cv.contains x&&!dJ6 e)=true then aQ i (bZ (v.F st e)) else aQ i (v.E st e))
   else fun _ _=>none
  | none=>fun _ _=>none)
 | .Assign [.Attribute o f _] e _=>bO7 v st o f e
 | .Assign [tg] e _=>if (jY e||cE4 e tg||!(aJ tg))=true then fun _ _=>none else fun δ h=>(v.E st e δ h).bind fun p=>(v.G st tg p.1 δ p.2).bind fun q=>some (.nx q.1,q.2)
 | _=>fun _ _=>none
end
noncomputable def step (v:Evs):Evs:=⟨jF v,aP8 v,dI v,tR v,mM v⟩
noncomputable def evs:Nat->Evs
 | 0=>.no
 | n+1=>step (evs n)
noncomputable def aR (s:Stmt):List Str:=(cA s).args.map (·.arg)
noncomputable def iP (s:Stmt):List Str:=aR s++((aH s).names.filter fun p=>(p.2==.local||p.2==.cell)&&!((aR s).contains p.1)).map (·.1)
noncomputable def fnB (s:Stmt):Bool:=decide ((aH s).kind=.function)&&(!(aH s).isCoroutine&&(!(aH s).isGenerator&&(decide (iP s).Nodup&&(((aR s).all fun x=>wE (aH s) x)&&((aH s).names.all fun y=>!(y.2==.free))))))
open Classical in
noncomputable def ends (h0:aA) (p:Fl×aA):Option (PyData×aA):=if okP h0 p.2 then (match p.1 with
 | .nx _=>some (.none,p.2.take h0.length)
 | .rt (.d z)=>some (z,p.2.take h0.length)
 | .rt (.c i)=>(match p.2[i]? with
  | some (.l xs)=>if h0.length<=i then some (.list xs,p.2.take h0.length) else none
  | some (.k kvs)=>if h0.length<=i then some (.dict kvs,p.2.take h0.length) else none
  | _=>none)
 | _=>none) else none
noncomputable def iG (p:Fl×aA):Option (W×aA):=match p.1 with
 | .nx _=>some (.d .none,p.2)
 | .rt w=>some (w,p.2)
 | _=>none
structure Top where
 bl:List Str
 gc:Str->Option PyData
 tk:Str->Option (Str->Option Int)
 defs:Str->Option Stmt
 ac:Str->List Nat
 cv:Str->List Str
 fuel:Nat
 deep:Nat
 wf:Str->Bool
 ini:Str->Option (Addr×Stmt)
 mt:Str->Option (Addr×Stmt)
 fo:Addr->Str->Bool
noncomputable def Top.sta (t:Top) (fn:Str->Option XF) (ob:ObS) (x:Str) (s:Stmt):Sta:=⟨t.bl,t.gc,t.tk,fn,t.ac,t.cv x,iP s,aH s,true,t.fuel,ob⟩
noncomputable def kO (t:Top) (fn:Str->Option XF) (ob:ObS) (x:Str) (s:Stmt):XF:=fun ws h =>
 if fnB s=true/\ws.length=(aR s).length then (xSs (evs t.deep) (t.sta fn ob x s) (bJ s) (fS (iP s) ws) h).bind (ends h) else none
noncomputable def gR (t:Top) (fn:Str->Option XF) (ob:ObS) (x:Str) (s:Stmt):XFW:=fun ws h =>
 if fnB s=true/\ws.length=(aR s).length then (xSs (evs t.deep) (t.sta fn ob x s) (bJ s) (fS (iP s) ws) h).bind iG else none
abbrev fnT (t:Top) (D:Str->XF):Str->Option XF:=fun y=>(t.defs y).map fun _=>D y
abbrev obT (t:Top) (W I M:Str->XFW):ObS:=⟨fun y=>if t.wf y=true then (t.defs y).map fun _=>W y else none,fun y=>(t.ini y).map fun p=>(p.1,I y),fun y=>(t.mt y).map fun p=>(p.1,M y),t.fo⟩
mutual
noncomputable def aD (t:Top):Nat->Str->XF
 | 0,_=>fun _ _=>none
 | d+1,x=>(match t.defs x with
  | some s=>kO t (fnT t fun y=>aD t d y) (obT t (fun y=>callW t d y) (fun y=>callI t d y) fun y=>callM t d y) x s
  | none=>fun _ _=>none)
noncomputable def callW (t:Top):Nat->Str->XFW
 | 0,_=>fun _ _=>none
 | d+1,x=>(match t.defs x with
  | some s=>gR t (fnT t fun y=>aD t d y) (obT t (fun y=>callW t d y) (fun y=>callI t d y) fun y=>callM t d y) x s
  | none=>fun _ _=>none)
noncomputable def callM (t:Top):Nat->Str->XFW
 | 0,_=>fun _ _=>none
 | d+1,x=>(match t.mt x with
  | some (_,s)=>gR t (fnT t fun y=>aD t d y) (obT t (fun y=>callW t d y) (fun y=>callI t d y) fun y=>callM t d y) x s
  | none=>fun _ _=>none)
noncomputable def callI (t:Top):Nat->Str->XFW
 | 0,_=>fun _ _=>none
 | 1,_=>fun _ _=>none
 | d+2,x=>(match t.ini x with
  | some (_,s)=>gR t (fnT t fun y=>aD t d y) (obT t (fun y=>callW t d y) (fun y=>callI t d y) fun y=>callM t d y) x s
  | none=>fun _ _=>none)
end
end CI
namespace CI
open PySem PySem.Spec PyProof.Rows L2 DL
noncomputable def Of {α:Type} (x:XR α):DSt->aA->(α->aA->Prop)->Prop:=fun δ h Q=>∃ a h',x δ h=some (a,h')/\Q a h'
def OfG (g:XG):DTG:=fun w δ h Q=>∃ δ' h',g w δ h=some (δ',h')/\Q δ' h'
noncomputable def bO8 (E:DEnds) (h:aA):Fl->Prop
 | .nx δ=>E.nx δ h
 | .rt w=>E.rt w h
 | .bk δ=>E.bk δ h
 | .ct δ=>E.ct δ h
def OfS (x:XS):DTS:=fun E δ h=>∃ fl h',x δ h=some (fl,h')/\bO8 E h' fl
def OfI (x:XR (List PyData×Option Nat)):DTI:=fun δ h Q=>∃ xs c h',x δ h=some ((xs,c),h')/\Q xs c h'
def Of2 (f:W->W->aA->Option (W×aA)):D2:=fun u w h Q=>∃ r h',f u w h=some (r,h')/\Q r h'
def OfC (f:List W->aA->Option (W×aA)):DC:=fun ws h Q=>∃ r h',f ws h=some (r,h')/\Q r h'
noncomputable def nN (m:XF):DSp:=fun ws h k=>∃ z h',m ws h=some (z,h')/\k z h'
section
variable {α β:Type} {x:XR α} {f:α->XR β} {δ:DSt} {h:aA} {Q:α->aA->Prop} {Q':β->aA->Prop}
def bF (q:Of (xb x f) δ h Q'):Of x δ h fun a h1=>Of (f a) δ h1 Q':=by
 obtain ⟨b,h',e,q⟩:=q;unfold xb at e;cases e1:x δ h with
 | none=>rw [e1] at e;cases e
 | some p =>
  rw [e1] at e;obtain ⟨a,h1⟩:=p;exact ⟨a,h1,e1,b,h',e,q⟩
def bS (q:Of (xno:XR α) δ h Q):False:=by obtain ⟨_,_,e,_⟩:=q;cases e
def aU {a:α} (q:Of (aC a) δ h Q):Q a h:=by
 obtain ⟨b,h',e,q⟩:=q;cases e;exact q
end
def bind_some {α β:Type} {x:Option α} {f:α->Option β} {b:β} (e:x.bind f=some b):∃ a,x=some a/\f a=some b:=Option.bind_eq_some_iff.mp e
def map_some {α β:Type} {x:Option α} {f:α->β} {b:β} (e:x.map f=some b):∃ a,x=some a/\f a=b:=Option.map_eq_some_iff.mp e
section
variable {X:Cx} {e tg:Expr} {es:List Expr} {eo:Option Expr} {s:Stmt} {ss:List Stmt}
def bH {t t':DTE} (d:DE X e t) (m:∀ δ h Q,t' δ h Q->t δ h Q):DE X e t':=aF d fun σ H Q ⟨δ,h,A,μ,k,R,q,c⟩=>⟨δ,h,A,μ,k,R,m δ h k q,c⟩
def aQ1 {t t':DTT} (d:DT X e t) (m:∀ δ h Q,t' δ h Q->t δ h Q):DT X e t':=gY d fun σ H Q ⟨δ,h,A,μ,k,R,q,c⟩=>⟨δ,h,A,μ,k,R,m δ h k q,c⟩
def cT2 {t t':DTT} (d:DW X e t) (m:∀ δ h Q,t' δ h Q->t δ h Q):DW X e t':=qO d fun σ H Q ⟨δ,h,A,μ,k,R,q,c⟩=>⟨δ,h,A,μ,k,R,m δ h k q,c⟩
def cT3 {t t':DTA} (d:DA X es t) (m:∀ δ h Q,t' δ h Q->t δ h Q):DA X es t':=qP d fun σ H Q ⟨δ,h,A,μ,k,R,q,c⟩=>⟨δ,h,A,μ,k,R,m δ h k q,c⟩
def qY {t t':DTF} (d:DF X e t) (m:∀ δ h Q,t' δ h Q->t δ h Q):DF X e t':=aF d fun σ H Q ⟨δ,h,A,μ,k,R,q,c⟩=>⟨δ,h,A,μ,k,R,m δ h k q,c⟩
def cT4 {t t':DTO} (d:DO X eo t) (m:∀ δ h Q,t' δ h Q->t δ h Q):DO X eo t':=qQ d fun σ H Q ⟨δ,h,A,μ,k,R,q,c⟩=>⟨δ,h,A,μ,k,R,m δ h k q,c⟩
def qZ {t t':DTS} (d:DS X s t) (m:∀ E δ h,t' E δ h->t E δ h):DS X s t':=bV d fun D σ H ⟨δ,h,A,μ,E,R,q,L⟩=>⟨δ,h,A,μ,E,R,m E δ h q,L⟩
def bO9 {t t':DTS} (d:DSs X ss t) (m:∀ E δ h,t' E δ h->t E δ h):DSs X ss t':=lX d fun D σ H ⟨δ,h,A,μ,E,R,q,L⟩=>⟨δ,h,A,μ,E,R,m E δ h q,L⟩
def cE5 {t t':DTG} (d:DG X e t) (m:∀ w δ h Q,t' w δ h Q->t w δ h Q):DG X e t':=lJ d fun v σ H Q ⟨w,δ,h,A,μ,k,R,r,q,c⟩=>⟨w,δ,h,A,μ,k,R,r,m w δ h k q,c⟩
def aD8 {t t':DTI} (d:DI X tg e t) (m:∀ δ h Q,t' δ h Q->t δ h Q):DI X tg e t':=gZ d fun σ H R ⟨δ,h,A,μ,k,R0,q,c⟩=>⟨δ,h,A,μ,k,R0,m δ h k q,c⟩
def cT5 {t t':DTT} (d:DIf X es t) (m:∀ δ h Q,t' δ h Q->t δ h Q):DIf X es t':=fun pins s σ H Q I ⟨δ,h,A,μ,k,R,q,c⟩=>d pins s σ H Q I ⟨δ,h,A,μ,k,R,m δ h k q,c⟩
def aQ4 {t t':DTE} (d:DE X e t) (d':DE X e t'):DE X e (fun δ h Q=>t δ h Q\/t' δ h Q):=fun pins s σ H Q I ⟨δ,h,A,μ,k,R,q,c⟩=>q.elim (fun q=>d pins s σ H Q I ⟨δ,h,A,μ,k,R,q,c⟩) fun q=>d' pins s σ H Q I ⟨δ,h,A,μ,k,R,q,c⟩
def bG:DE X e (Of xno):=bH fG fun _ _ _ q=>bS q
def iB:DF X e (Of xno):=qY bO1 fun _ _ _ q=>(bS q).elim
def kX:DT X e (Of xno):=fun pins s σ H Q I ⟨_,_,_,_,_,_,q,_⟩=>(bS q).elim
def kY {x:XS} (n:∀ δ h,x δ h=none):DS X s (OfS x):=qZ cQ9 fun E δ h q=>by obtain ⟨_,_,e,_⟩:=q;rw [n] at e;cases e
def aD9 {x:XG} (n:∀ w δ h,x w δ h=none):DG X e (OfG x):=fun pins s σ H v u Q I r ⟨w,δ,h,A,μ,k,R,rr,q,c⟩=>by obtain ⟨_,_,e,_⟩:=q;rw [n] at e;cases e
def gK {f:Value->Value->Sem Value} {r r':D2} (ho:OpR X f (upR X.K r)) (m:∀ u w h Q,r' u w h Q->r u w h Q):OpR X f (upR X.K r'):=fun pins s σ H x y v u Q I rx ry ⟨a,b,h,A,μ,k,R,ra,rb,q,c⟩=>ho pins s σ H x y v u Q I rx ry ⟨a,b,h,A,μ,k,R,ra,rb,m _ _ _ _ q,c⟩
def aQ5 {f:Value->Value->Sem Value} {r r':D2} (ho:OpR X f (upR X.K r)) (ho':OpR X f (upR X.K r')):OpR X f (upR X.K fun u w h Q=>r u w h Q\/r' u w h Q):=fun pins s σ H x y v u Q I rx ry ⟨a,b,h,A,μ,k,R,ra,rb,q,c⟩ =>
 q.elim (fun q=>ho pins s σ H x y v u Q I rx ry ⟨a,b,h,A,μ,k,R,ra,rb,q,c⟩) fun q=>ho' pins s σ H x y v u Q I rx ry ⟨a,b,h,A,μ,k,R,ra,rb,q,c⟩
def cT6 {f:Value->Value->Sem Value} {r:D2} (m:∀ u w h Q,¬ r u w h Q):OpR X f (upR X.K r):=fun pins s σ H x y v u Q I rx ry ⟨a,b,h,A,μ,k,R,ra,rb,q,c⟩=>(m _ _ _ _ q).elim
def wG {f:Value} {r r':DC} (ho:cQ X f (upC X.K r)) (m:∀ ws h Q,r' ws h Q->r ws h Q):cQ X f (upC X.K r'):=fun pins s σ H xs us Q I rx ⟨ws,h,A,μ,k,R,rw',q,c⟩=>ho pins s σ H xs us Q I rx ⟨ws,h,A,μ,k,R,rw',m _ _ _ q,c⟩
end
mutual
theorem yC {K:Frag} {A:List Addr} {H:Hp}:∀ {x:PyData} {v:V} (n:Nat),Rep K A H x v->aN n x=true->x.canLay0=true/\x.depth<=n
 | .none,_,n,_,_=>by simp [PyData.canLay0,PyData.depth]
 | .bool _,_,n,_,_=>by simp [PyData.canLay0,PyData.depth]
 | .int _,_,n,_,_=>by simp [PyData.canLay0,PyData.depth]
 | .str x,_,n,h,_=>by
  rw [Rep] at h;simp [PyData.canLay0,PyData.depth,h.2]
 | .list xs,_,0,_,p=>by simp [aN] at p
 | .tuple xs,_,0,_,p=>by simp [aN] at p
 | .list xs,_,n+1,h,p=>by
  rw [Rep] at h;obtain ⟨a,vs,_,_,h⟩:=h;have z:=Reps_lay n h (by simpa [aN] using p);simp [PyData.canLay0,PyData.depth,z.1,z.2]
 | .tuple xs,_,n+1,h,p=>by
  rw [Rep] at h;obtain ⟨a,vs,_,_,h⟩:=h;have z:=Reps_lay n h (by simpa [aN] using p);simp [PyData.canLay0,PyData.depth,z.1,z.2]
 | .dict _,_,n,_,p=>by cases n<;>simp [aN] at p
theorem Reps_lay {K:Frag} {A:List Addr} {H:Hp}:∀ {xs:List PyData} {vs:List V} (n:Nat),Reps K A H xs vs->plainsB n xs=true->PyData.canLayAll0 xs=true/\PyData.depthAll xs<=n
 | [],_,n,_,_=>by simp [PyData.canLayAll0,PyData.depthAll]
 | x::xs,_,n,h,p=>by
  rw [Reps] at h;obtain ⟨v,r,_,h1,h2⟩:=h;rw [plainsB,Bool.and_eq_true] at p;have a:=yC n h1 p.1;have b:=Reps_lay n h2 p.2;simp [PyData.canLayAll0,PyData.depthAll,a.1,b.1];omega
end
def aE0 {K:Frag} {A:List Addr} {H:Hp} {x:PyData} {v:V} (r:Rep K A H x v) (p:aN 64 x=true):SeqAt.shaped x=true:=by
 have z:=yC 64 r p;unfold SeqAt.shaped;rw [z.1]
 simpa using z.2
def cK {K:Frag} {A μ:List Addr} {H:Hp} {h:aA} {w:W} {v:V} {x:PyData} (R:HeapRep K A μ h H) (r:RepW K A μ H w v) (e:ref h w=some x) (p:aN 64 x=true):SeqAt.shaped x=true:=by
 cases w with
 | d y=>cases e;exact aE0 r p
 | v u=>cases e
 | c i =>
  obtain ⟨a,e1,rfl⟩:=r;dsimp only [DL.ref] at e;cases q:h[i]? with
  | none=>rw [q] at e;cases e
  | some cc =>
   cases cc with
   | t _ _ _=>rw [q] at e;cases e
   | o _ _=>rw [q] at e;cases e
   | r _=>rw [q] at e;cases e
   | k ys=>rw [q] at e;cases e;simp [aN] at p
   | l ys =>
    rw [q] at e;cases e;obtain ⟨vs,z1,z2⟩:=R.val i a ys e1 q;have z:=Reps_lay 63 z2 (by simpa [aN] using p);unfold SeqAt.shaped;simp [PyData.canLay0,PyData.depth,z.1];exact z.2
abbrev gG (m:XFW):mL:=fun ws h k=>∃ w h',m ws h=some (w,h')/\k w h'
structure aV (X:Cx) (st:Sta) (d:Nat):Prop where
 bl:∀ x,st.bl.contains x=true->X.mg x=none
 gc:∀ x z,st.gc x=some z->∃ v u,X.mg x=some u/\RelV v u/\∀ A H,Rep X.K A H z v
 tk:∀ x f,st.tk x=some f->∃ p,X.mg x=some (.ref p)/\TabK X.w X.K p f
 fn:∀ x m,st.fn x=some m->DFn X.prog X.w X.K X.mg X.base d x (nN m)
 N:X.N=st.N
 S:X.env.scope=st.S
 nd:st.N.Nodup
 xe:X.xe=fun _ _=>False
 calm:X.calm=true
 rm:Room d X.A
 fnT:st.top=true->∀ x,X.fn x=true
 kind:st.S.kind=.function
 fnW:∀ x m,st.ob.fnW x=some m->DFnW X.prog X.w X.K X.mg X.base d x (gG m)
 cls:∀ x C m,st.ob.cls x=some (C,m)->(∀ ws h,m ws h=none)\/∃ k f fd ps,k+1<=d/\Mk X.K C f/\FnOk X.prog X.w X.K X.mg X.base CX0 k f fd ps (dH X.K (gG m))/\X.mg x=some (.ref C)/\Binds X.K fd ps []
 om:∀ x C m,st.ob.om x=some (C,m)->Cls X.K C/\∃ f fd ps,Meth X.K C x f/\FnOk X.prog X.w X.K X.mg X.base CX0 d f fd ps (dH X.K (gG m))/\Binds X.K fd ps []
 fo:∀ C f,st.ob.fo C f=true->Cls X.K C/\NoAttr X.K C f
structure Snd (v:Evs):Prop where
 E:∀ {X:Cx} {st:Sta} {d:Nat},aV X st d->∀ e,DE X e (Of (v.E st e))
 T:∀ {X:Cx} {st:Sta} {d:Nat},aV X st d->∀ e,DT X e (Of (v.T st e))
 F:∀ {X:Cx} {st:Sta} {d:Nat},aV X st d->∀ e,DF X e (Of (v.F st e))
 G:∀ {X:Cx} {st:Sta} {d:Nat},aV X st d->∀ e,DG X e (OfG (v.G st e))
 S:∀ {X:Cx} {st:Sta} {d:Nat},aV X st d->∀ s,DS X s (OfS (v.S st s))
section
variable {X:Cx} {st:Sta} {d:Nat} {x:Str}
def cE6 {N:List Str} {i:Nat} (e:N.findIdx? (·==x)=some i):N[i]?=some x:=by
 obtain ⟨h1,h2,_⟩:=List.findIdx?_eq_some_iff_getElem.mp e;rw [List.getElem?_eq_getElem h1,eq_of_beq h2]
def fW (G:aV X st d) {i:Nat} (e:slot st x=some i):X.N[i]?=some x:=by rw [G.N];exact cE6 e
def cE7 (G:aV X st d) (h:cD3 st.S x=true):Vis X.env.scope x:=by
 unfold Vis;rw [G.S];unfold cD3 at h;split at h
 ·rename_i e;exact .inl e
 ·rename_i e;exact .inr (.inl e)
 ·rename_i e;exact .inr (.inr e)
 ·cases h
def mN (G:aV X st d) (h:wE st.S x=true):L2.Loc X.env.scope x:=by
 unfold L2.Loc;rw [G.S];unfold wE at h;split at h
 ·rename_i e;exact .inl e
 ·rename_i e;exact .inr e
 ·cases h
def tT (h:eQ st.S x=true):st.S.names.lookup x=some .local:=by
 unfold eQ at h;split at h
 ·rename_i e;exact e
 ·cases h
def aQ6 (G:aV X st d) (h:(st.top||eQ st.S x)=true):X.fn x=true\/X.env.scope.names.lookup x=some .local:=by
 rw [Bool.or_eq_true] at h;rcases h with h | h
 ·exact .inl (G.fnT h x)
 ·rw [G.S];exact .inr (tT h)
def bP0 (G:aV X st d) (h:glB st.S x=true):Gl X x:=by
 unfold Gl Env.kindOf;rw [G.S];unfold glB at h;split at h
 ·rename_i e;exact e
 ·cases h
def bK (h:fA x=true):(x==("__debug__":Str))=false:=by
 unfold fA at h;rw [Bool.and_eq_true] at h
 simpa using h.1
def aE1 (h:fA x=true):(x==("__classdict__":Str))=false:=by
 unfold fA at h;rw [Bool.and_eq_true,Bool.and_eq_true] at h
 simpa using h.2.1
def fK (h:fA x=true):x≠"__name__":=by
 unfold fA at h;rw [Bool.and_eq_true,Bool.and_eq_true] at h
 simpa using h.2.2
def dO (G:aV X st d) (h:kW st x=true):fA x=true/\Gl X x:=by
 unfold kW at h;rw [Bool.and_eq_true] at h;exact ⟨h.1,bP0 G h.2⟩
def cE8 (G:aV X st d) {pos:Pos}:DE X (.Name x pos) (Of (aP0 st x)):=by
 unfold aP0;split
 ·rename_i hn;split
  ·rename_i i hi;split
   ·rename_i hv;refine bH (dv i (fW G hi) (cE7 G hv) (bK hn) (aE1 hn)) fun δ h Q q=>?_;obtain ⟨w,h',e,q⟩:=q;unfold aB at e;unfold bV1;split at e
    ·rename_i w' e';try rw [e']
     cases e;exact q
    ·cases e
   ·exact bG
  ·split
   ·rename_i z hz;split
    ·rename_i hg;obtain ⟨v,u,m,r1,r2⟩:=G.gc _ _ hz;exact bH (aZ4 m r1 r2 (bP0 G hg) (bK hn)) fun δ h Q q=>aU q
    ·exact bG
   ·exact bG
 ·exact bG
def bG3 {c:Const} {j:Nat} {pos:Pos}:DE X (.Constant c j pos) (Of (aP1 c)):=by
 cases c with
 | none=>exact bH bV3 fun _ _ _ q=>aU q
 | bool b=>exact bH cO8 fun _ _ _ q=>aU q
 | int i=>exact bH bV2 fun _ _ _ q=>aU q
 | str x =>
  show DE X _ (Of (if PyData.strOk x=true then aC (.d (.str x)) else xno));split
  ·rename_i hx;exact bH (bV4 hx) fun _ _ _ q=>aU q
  ·exact bG
 | _=>exact bG
def aQ7 {K:Frag} {A μ:List Addr} {H:Hp} {h:aA} {p:Addr} {xs:List PyData} {vs:List V} (R:HeapRep K A μ h H) (hp:H p=none) (r:Reps K A H xs vs):Rep K A (upd H p (.lst vs)) (.list xs) (.ref p):=by
 rw [Rep];exact ⟨p,vs,rfl,.inl ⟨R.notA hp,.inl aS⟩,r.ext (bD (μ:=μ) hp) R.sub⟩
def aQ8:D2:=fun u w h Q=>match ref h u,ref h w with
 | some (.list xs),some (.list ys)=>xs.length+ys.length<=sizeLine/\Q (.d (.list (xs++ys))) h
 | _,_=>False
def bG4:OpR X (binaryOp .Add) (upR X.K aQ8):=by
 intro pins s σ H x y v u Q I rx ry h;obtain ⟨a,b,h,A,μ,k,R,ra,rb,q,c⟩:=h;unfold aQ8 at q;split at q
 ·rename_i xs ys ea eb;obtain ⟨pa,va,rfl,sa,rra⟩:=cD R ra ea;obtain ⟨pb,vb,rfl,sb,rrb⟩:=cD R rb eb;refine xW pins s σ H _ _ v u Q I rx ry ⟨pa,pb,va,vb,rfl,rfl,sa,sb,by rw [rra.length,rrb.length];exact q.1,fun p hp=>?_⟩;exact c _ _ _ _ _ _ q.2 (bD hp) (R.fresh hp) (aQ7 R hp (rrb.append rra))
 ·exact q.elim
def aQ9:OpR X (binaryOp .FloorDiv) (rI (fun _ j=>0 < j/\j.natAbs.log2 < 9000) fun i j=>.int (i / j)):=opI fun i j _ _ _ _ _ hc q=>by
 have h1:(0:Int) < j:=hc.1;exact floordiv_int (by omega) (by rw [Int.fdiv_eq_ediv_of_nonneg i (by omega)];exact q) (.inl (PyProof.noPylong_of_log2 hc.2))
noncomputable def bP1:D2
 | .d (.int i),.d (.int j),h,Q=>(0 < j/\j.natAbs.log2 < 9000)/\Q (.d (.int (i / j))) h
 | _,_,_,_=>False
def aR0:OpR X (binaryOp .FloorDiv) (upR X.K bP1):=eJ (f:=fun i j=>.int (i / j)) aQ9 (fun _ _ _ _=>iX) fun u w h k q=>by
 unfold bP1 at q;split at q
 ·exact ⟨_,_,rfl,rfl,q.1,q.2⟩
 ·exact q.elim
def cE9 {j:Int} (h:aT j=true):0 < j/\j.natAbs.log2 < 9000:=by
 unfold aT at h;simp only [Bool.and_eq_true,Bool.or_eq_true,decide_eq_true_eq] at h;refine ⟨h.1,?_⟩;rcases h.2 with h2 | h2
 ·have h0:j.natAbs≠0:=by omega
  have:=(Nat.log2_lt h0 (k:=30)).mpr (by omega);omega
 ·omega
def cF0 {i j:Int} (h:gF i j=true):CMul i j:=by
 unfold gF at h;unfold CMul
 simpa only [Bool.and_eq_true,Bool.or_eq_true,decide_eq_true_eq] using h
def cF1 {i j:Int} (h:tO i j=true):aX5 i j:=by
 unfold tO at h;unfold aX5
 simpa only [Bool.and_eq_true,decide_eq_true_eq] using h
def bG5:OpR X (binaryOp .Add) (upR X.K (Of2 cD4)):=by
 refine gK (aQ5 aZ7 bG4) fun u w h Q q=>?_;obtain ⟨r,h',e,q⟩:=q;unfold cD4 at e;split at e
 ·cases e;exact .inl q
 ·split at e
  ·rename_i hl;cases e;exact .inl ⟨hl,q⟩
  ·cases e
 ·refine .inr ?_;unfold aQ8;split at e
  ·rename_i e1 e2;try rw [e1,e2]
   split at e
   ·rename_i hl;cases e;exact ⟨hl,q⟩
   ·cases e
  ·cases e
def bG6:OpR X (binaryOp .Mult) (upR X.K (Of2 cD5)):=by
 refine gK aZ9 fun u w h Q q=>?_;obtain ⟨r,h',e,q⟩:=q;unfold cD5 at e;split at e
 ·split at e
  ·rename_i hl;cases e;exact ⟨cF0 hl,q⟩
  ·cases e
 ·cases e
def bG7 (op:Operator):OpR X (binaryOp op) (upR X.K (Of2 (fB op))):=by
 cases op with
 | Add=>exact bG5
 | Mult=>exact bG6
 | Sub =>
  refine gK aZ8 fun u w h Q ⟨a,h',e,q⟩=>?_;dsimp only [fB] at e;split at e
  ·cases e;exact q
  ·cases e
 | FloorDiv =>
  refine gK aR0 fun u w h Q ⟨a,h',e,q⟩=>?_;dsimp only [fB] at e;split at e
  ·split at e
   ·rename_i hd;cases e;exact ⟨cE9 hd,q⟩
   ·cases e
  ·cases e
 | Mod =>
  refine gK bA0 fun u w h Q ⟨a,h',e,q⟩=>?_;dsimp only [fB] at e;split at e
  ·split at e
   ·rename_i hd;cases e;exact ⟨hd,q⟩
   ·cases e
  ·cases e
 | Pow =>
  refine gK bA1 fun u w h Q ⟨a,h',e,q⟩=>?_;dsimp only [fB] at e;split at e
  ·split at e
   ·rename_i hd;cases e;exact ⟨cF1 hd,q⟩
   ·cases e
  ·cases e
 | RShift =>
  refine gK bD3 fun u w h Q ⟨a,h',e,q⟩=>?_;dsimp only [fB] at e;split at e
  ·split at e
   ·rename_i hd;cases e;exact ⟨hd,q⟩
   ·cases e
  ·cases e
 | BitAnd =>
  refine gK aM2 fun u w h Q ⟨a,h',e,q⟩=>?_;dsimp only [fB] at e;split at e
  ·cases e;exact q
  ·cases e
 | _ =>
  refine cT6 fun u w h Q ⟨a,h',e,q⟩=>?_;dsimp only [fB] at e;split at e<;>cases e
def tU {x:Str}:bA (.str x)=if PyData.strOk x=true then some (Sum.inr x) else none:=rfl
def aR1 {K:Frag} {A:List Addr} {H:Hp} {z:PyData} {k:Key} {v:V} (e:bA z=some k) (r:Rep K A H z v):v=kV k:=by
 cases z with
 | int i=>cases e;rw [Rep] at r;exact r
 | str x =>
  rw [tU] at e;split at e
  ·cases e;rw [Rep] at r;exact r.1
  ·cases e
 | _=>cases e
theorem fX {K:Frag} {A:List Addr} {H:Hp} (k:Key):∀ {kvs:List (PyData×PyData)} {r:List (Key×V)},RepKs K A H kvs r ->
  (∀ p,(kvs.find? fun p=>decide (bA p.1=some k))=some p->∃ v,fP r k=some v/\Rep K A H p.2 v)/\((kvs.find? fun p=>decide (bA p.1=some k))=none->fP r k=none)
 | [],r,h=>by
  rw [RepKs] at h;subst h;exact ⟨fun p e=>(nomatch e),fun _=>rfl⟩
 | (a,b)::kvs,r,h=>by
  rw [RepKs] at h;obtain ⟨q,r',rfl,hp,hr⟩:=h;rw [RepP] at hp;obtain ⟨h1,h2⟩:=fX k hr;obtain ⟨qk,qv⟩:=q
  by_cases e:qk=k
  ·subst e;have ek:decide (bA a=some qk)=true:=decide_eq_true hp.1;refine ⟨fun p ep=>?_,fun ep=>?_⟩
   ·rw [List.find?_cons_of_pos (by exact ek)] at ep;cases ep;exact ⟨qv,by unfold fP;rw [List.find?_cons_of_pos (by simp)];rfl,hp.2⟩
   ·rw [List.find?_cons_of_pos (by exact ek)] at ep;cases ep
  ·have ek:¬ decide (bA a=some k)=true:=fun z=>e (Option.some.inj (hp.1.symm.trans (of_decide_eq_true z)));have ev:fP ((qk,qv)::r') k=fP r' k:=by unfold fP;rw [List.find?_cons_of_neg (by simpa using e)]
   rw [ev];refine ⟨fun p ep=>?_,fun ep=>?_⟩
   ·rw [List.find?_cons_of_neg (by exact ek)] at ep;exact h1 p ep
   ·rw [List.find?_cons_of_neg (by exact ek)] at ep;exact h2 ep
theorem mO {α:Type} (p:α->Bool):∀ xs:List α,xs.any p=(xs.find? p).isSome
 | []=>rfl
 | x::r=>by
  rw [List.any_cons];cases e:p x with
  | true=>rw [List.find?_cons_of_pos e];rfl
  | false=>rw [List.find?_cons_of_neg (by rw [e];exact Bool.false_ne_true),<- mO p r];rfl
def mP {K:Frag} {A μ:List Addr} {H:Hp} {h:aA} {w:W} {v:V} {kvs:List (PyData×PyData)} (R:HeapRep K A μ h H) (r:RepW K A μ H w v) (e:ref h w=some (.dict kvs)):∃ a rs,v=.ref a/\Rd H a (.dK rs)/\RepKs K A H kvs rs:=by
 cases w with
 | d x =>
  cases e;have z:Rep K A H (.dict kvs) v:=r;rw [Rep] at z;obtain ⟨a,rs,e,h1,h2⟩:=z;exact ⟨a,rs,e,h1.2,h2⟩
 | v u=>cases e
 | c i =>
  obtain ⟨a,e1,rfl⟩:=r;dsimp only [DL.ref] at e;cases q:h[i]? with
  | none=>rw [q] at e;cases e
  | some cc =>
   cases cc with
   | t _ _ _=>rw [q] at e;cases e
   | o _ _=>rw [q] at e;cases e
   | r _=>rw [q] at e;cases e
   | l ys=>rw [q] at e;cases e
   | k ys =>
    rw [q] at e;cases e;obtain ⟨vs,z1,z2⟩:=R.vad i a kvs e1 q;exact ⟨a,vs,rfl,.inl z1,z2⟩
def aE2 (neg:Bool):D2:=fun u w h Q=>match ref h u,ref h w with
 | some d,some (.dict kvs)=>(match bA d with
  | some k=>Q (.d (.bool (neg ^^ kvs.any fun p=>decide (bA p.1=some k)))) h
  | none=>False)
 | _,_=>False
def yD {K:Frag} {H:Hp} {z:PyData} {k:Key} {v:V} (e:bA z=some k) (r:See K H z v):v=kV k:=by
 cases z with
 | int i=>cases e;rw [See] at r;exact r
 | str x =>
  rw [tU] at e;split at e
  ·cases e;rw [See] at r;exact r
  ·cases e
 | _=>cases e
def aR2 {A:Around} {n:Nat} (hr:Room n A):A.units+1 < cLine:=by have:=hr.un;omega
def bG8 (hr:Room d X.A):OpR X (compareOp .In) (upR X.K (aE2 false)):=by
 intro pins s σ H x y v u Q I rx ry h;obtain ⟨a,b,h,A,μ,k,R,ra,rb,q,c⟩:=h;unfold aE2 at q;split at q
 ·rename_i z kvs ea eb;split at q
  ·rename_i kk ek;obtain ⟨p,rs,rfl,hd,rr⟩:=mP R rb eb;obtain ⟨f1,f2⟩:=fX kk rr;have ev:=yD ek (aZ R ra ea);subst ev;cases ry;refine dG0 (aR2 hr) I (o:=fP rs kk) (.inl ⟨rs,kk,hd,rfl,rfl⟩) rx fun s' I'=>?_;have e:(kvs.any fun p=>decide (bA p.1=some kk))=(fP rs kk).isSome:=by
    rw [mO];cases z:kvs.find? (fun p=>decide (bA p.1=some kk)) with
    | none=>rw [f2 z];rfl
    | some p=>obtain ⟨v,e1,_⟩:=f1 p z;rw [e1];rfl
   rw [e] at q;exact ⟨.bl _,H,I',rfl,c _ _ _ _ _ _ q .refl R (by simpa using bB)⟩
  ·exact q.elim
 ·exact q.elim
def wH (hr:Room d X.A):OpR X (compareOp .NotIn) (upR X.K (aE2 true)):=by
 intro pins s σ H x y v u Q I rx ry h;obtain ⟨a,b,h,A,μ,k,R,ra,rb,q,c⟩:=h;unfold aE2 at q;split at q
 ·rename_i z kvs ea eb;split at q
  ·rename_i kk ek;obtain ⟨p,rs,rfl,hd,rr⟩:=mP R rb eb;obtain ⟨f1,f2⟩:=fX kk rr;have ev:=yD ek (aZ R ra ea);subst ev;cases ry;refine aY8 (aR2 hr) I (o:=fP rs kk) (.inl ⟨rs,kk,hd,rfl,rfl⟩) rx fun s' I'=>?_;have e:(kvs.any fun p=>decide (bA p.1=some kk))=(fP rs kk).isSome:=by
    rw [mO];cases z:kvs.find? (fun p=>decide (bA p.1=some kk)) with
    | none=>rw [f2 z];rfl
    | some p=>obtain ⟨v,e1,_⟩:=f1 p z;rw [e1];rfl
   rw [e] at q;exact ⟨.bl _,H,I',rfl,c _ _ _ _ _ _ q .refl R (by simpa using bB)⟩
  ·exact q.elim
 ·exact q.elim
def bG9:D2:=fun u w h Q=>match ref h u,w with
 | some (.dict kvs),.d z=>(match bA z with
  | some k=>(match kvs.find? fun p=>decide (bA p.1=some k) with
   | some p=>Q (.d p.2) h
   | none=>False)
  | none=>False)
 | _,_=>False
def cT7 (hr:Room d X.A):IxR X (upR X.K bG9):=by
 intro value slice pins s σ H x y v u Q I rx ry h hs;obtain ⟨a,b,h,A,μ,k,R,ra,rb,q,c⟩:=h;unfold bG9 at q;split at q
 ·rename_i kvs z ea;split at q
  ·rename_i kk ek;split at q
   ·rename_i p ep;obtain ⟨pa,rs,rfl,hd,rr⟩:=mP R ra ea;obtain ⟨v0,e1,r1⟩:=(fX kk rr).1 p ep;have ev:=aR1 ek rb;subst ev;cases rx;have g:aJ9 H pa (kV kk) (some v0):=.inl ⟨rs,kk,hd,rfl,e1.symm⟩;exact tail_any (sU I g) slot_dict_getitem.lookup (aA0 (aR2 hr) I g ry fun w' s' I' rw'=>⟨v0,H,I',rw',c _ _ _ _ _ _ q .refl R r1⟩) hs
   ·exact q.elim
  ·exact q.elim
 ·exact q.elim
def aE3 (neg:Bool):D2:=fun x y h Q=>match ref h x,ref h y with
 | some a,some b=>(aN 64 a&&aN 64 b)=true/\Q (.d (.bool (neg ^^ PyData.eqv a b))) h
 | _,_=>False
def cF2 (hr:Room d X.A):OpR X (compareOp .Eq) (upR X.K (aE3 false)):=fun pins s σ H x y v u Q I rx ry ⟨a,b,h,A,μ,k,R,ra,rb,q,c⟩=>by
 unfold aE3 at q;split at q
 ·rename_i z1 z2 e1 e2;rw [Bool.and_eq_true] at q;refine bX1 hr pins s σ H x y v u Q I rx ry ⟨a,b,h,A,μ,k,R,ra,rb,?_,c⟩;unfold dEq;rw [e1,e2];exact ⟨cK R ra e1 q.1.1,cK R rb e2 q.1.2,by simpa using q.2⟩
 ·exact q.elim
def cF3 (hr:Room d X.A):OpR X (compareOp .NotEq) (upR X.K (aE3 true)):=fun pins s σ H x y v u Q I rx ry ⟨a,b,h,A,μ,k,R,ra,rb,q,c⟩=>by
 unfold aE3 at q;split at q
 ·rename_i z1 z2 e1 e2;rw [Bool.and_eq_true] at q;refine bX2 hr pins s σ H x y v u Q I rx ry ⟨a,b,h,A,μ,k,R,ra,rb,?_,c⟩;unfold dNe;rw [e1,e2];exact ⟨cK R ra e1 q.1.1,cK R rb e2 q.1.2,by simpa using q.2⟩
 ·exact q.elim
def aR3 (neg:Bool):D2:=fun x y h Q=>match ref h x,ref h y with
 | some d,some (.list xs)=>(aN 64 (.list xs)&&aN 64 d)=true/\Q (.d (.bool (neg ^^ xs.any fun z=>PyData.eqv z d))) h
 | some d,some (.tuple xs)=>(aN 64 (.tuple xs)&&aN 64 d)=true/\Q (.d (.bool (neg ^^ xs.any fun z=>PyData.eqv z d))) h
 | _,_=>False
def inP {neg:Bool} {f:Value->Value->Sem Value} (ho:OpR X f (upR X.K (aB7 neg))):OpR X f (upR X.K (aR3 neg)):=fun pins s σ H x y v u Q I rx ry ⟨a,b,h,A,μ,k,R,ra,rb,q,c⟩=>by
 refine ho pins s σ H x y v u Q I rx ry ⟨a,b,h,A,μ,k,R,ra,rb,?_,c⟩;unfold aR3 at q;unfold aB7;split at q
 ·rename_i z1 xs e1 e2;rw [Bool.and_eq_true] at q;try rw [e1,e2]
  exact ⟨cK R rb e2 q.1.1,cK R ra e1 q.1.2,q.2⟩
 ·rename_i z1 xs e1 e2;rw [Bool.and_eq_true] at q;try rw [e1,e2]
  exact ⟨cK R rb e2 q.1.1,cK R ra e1 q.1.2,q.2⟩
 ·exact q.elim
def tV {neg:Bool} {u w:W} {h:aA} {b:Bool} {Q:DK} (e:xIn u w h=some b) (q:Q (.d (.bool (neg ^^ b))) h):aR3 neg u w h Q\/aE2 neg u w h Q:=by
 unfold xIn at e;split at e
 ·rename_i z1 z2;split at e
  ·rename_i hs;cases e;refine .inl ?_;unfold aR3;rw [z1,z2];exact ⟨hs,q⟩
  ·cases e
 ·rename_i z1 z2;split at e
  ·rename_i hs;cases e;refine .inl ?_;unfold aR3;rw [z1,z2];exact ⟨hs,q⟩
  ·cases e
 ·rename_i z1 z2;split at e
  ·rename_i k ek;cases e;refine .inr ?_;unfold aE2;rw [z1,z2];dsimp only;rw [ek];exact q
  ·cases e
 ·cases e
def yE {neg:Bool} {u w:W} {h:aA} {b:Bool} {Q:DK} (e:xEq u w h=some b) (q:Q (.d (.bool (neg ^^ b))) h):aE3 neg u w h Q:=by
 unfold xEq at e;split at e
 ·rename_i x y e1 e2;split at e
  ·rename_i hs;cases e;unfold aE3;rw [e1,e2];exact ⟨hs,q⟩
  ·cases e
 ·cases e
def dS (hr:Room d X.A) (op:CmpOp):OpR X (compareOp op) (upR X.K (Of2 fun u w h=>(cL op u w h).map asW)):=by
 have isc:∀ {u w:W} {b:Bool},xIs u w=some b->∃ x y,u=.d x/\w=.d y/\DL.isSame x y=some b:=fun {u w b} e=>by
  unfold xIs at e;split at e
  ·exact ⟨_,_,rfl,rfl,e⟩
  ·cases e
 cases op with
 | Eq =>
  refine gK (cF2 hr) fun u w h Q ⟨a,h',e,q⟩=>?_;obtain ⟨p,e1,e2⟩:=map_some e;obtain ⟨b,e3,e4⟩:=map_some e1;subst e4;cases e2;exact yE e3 (by simpa using q)
 | NotEq =>
  refine gK (cF3 hr) fun u w h Q ⟨a,h',e,q⟩=>?_;obtain ⟨p,e1,e2⟩:=map_some e;obtain ⟨b,e3,e4⟩:=map_some e1;subst e4;cases e2;exact yE e3 (by simpa using q)
 | Is =>
  refine gK bX3 fun u w h Q ⟨a,h',e,q⟩=>?_;obtain ⟨p,e1,e2⟩:=map_some e;obtain ⟨b,e3,e4⟩:=map_some e1;subst e4;cases e2;obtain ⟨x,y,rfl,rfl,e5⟩:=isc e3;show (match DL.isSame x y with | some k=>_ | none=>_);rw [e5];exact q
 | IsNot =>
  refine gK aA3 fun u w h Q ⟨a,h',e,q⟩=>?_;obtain ⟨p,e1,e2⟩:=map_some e;obtain ⟨b,e3,e4⟩:=map_some e1;subst e4;cases e2;obtain ⟨x,y,rfl,rfl,e5⟩:=isc e3;show (match DL.isSame x y with | some k=>_ | none=>_);rw [e5];exact q
 | In =>
  refine gK (aQ5 (inP (cB0 hr)) (bG8 hr)) fun u w h Q ⟨a,h',e,q⟩=>?_;obtain ⟨p,e1,e2⟩:=map_some e;obtain ⟨b,e3,e4⟩:=map_some e1;subst e4;cases e2;exact tV e3 (by simpa using q)
 | NotIn =>
  refine gK (aQ5 (inP (aB8 hr)) (wH hr)) fun u w h Q ⟨a,h',e,q⟩=>?_;obtain ⟨p,e1,e2⟩:=map_some e;obtain ⟨b,e3,e4⟩:=map_some e1;subst e4;cases e2;exact tV e3 (by simpa using q)
 | Lt =>
  refine gK bW7 fun u w h Q ⟨a,h',e,q⟩=>?_;obtain ⟨p,e1,e2⟩:=map_some e;dsimp only [cL,aP2,Option.map] at e1;split at e1
  ·cases e1;cases e2;exact q
  ·cases e1
 | LtE =>
  refine gK bW8 fun u w h Q ⟨a,h',e,q⟩=>?_;obtain ⟨p,e1,e2⟩:=map_some e;dsimp only [cL,aP2,Option.map] at e1;split at e1
  ·cases e1;cases e2;exact q
  ·cases e1
 | Gt =>
  refine gK bW9 fun u w h Q ⟨a,h',e,q⟩=>?_;obtain ⟨p,e1,e2⟩:=map_some e;dsimp only [cL,aP2,Option.map] at e1;split at e1
  ·cases e1;cases e2;exact q
  ·cases e1
 | GtE =>
  refine gK bX0 fun u w h Q ⟨a,h',e,q⟩=>?_;obtain ⟨p,e1,e2⟩:=map_some e;dsimp only [cL,aP2,Option.map] at e1;split at e1
  ·cases e1;cases e2;exact q
  ·cases e1
end
section
variable {X:Cx} {st:Sta} {d:Nat} {x:Str} {v:Evs} {a b c e:Expr} {es:List Expr} {pos:Pos}
def aE (h:aJ e=true) (env:Env):starEach (e::es) env=(false,eval e env)::starEach es env:=by
 cases e<;>first | rfl | cases h
theorem cF:∀ (es:List Expr) (env:Env) (pos:Pos),es.all aJ=true->(backTo pos (starEach es env)).any (·.1)=false
 | [],_,_,_=>rfl
 | e::es,env,pos,h=>by
  rw [List.all_cons,Bool.and_eq_true] at h;rw [aE h.1];show (false||(backTo pos (starEach es env)).any (·.1))=false;rw [cF es env pos h.2];rfl
theorem tW:∀ (es:List Expr) (env:Env) (pos:Pos),es.all aJ=true->(backTo pos (starEach es env)).all (fun x=>!x.1)=true
 | [],_,_,_=>rfl
 | e::es,env,pos,h=>by
  rw [List.all_cons,Bool.and_eq_true] at h;rw [aE h.1];show (true&&(backTo pos (starEach es env)).all fun x=>!x.1)=true;rw [tW es env pos h.2];rfl
theorem dE:∀ (es:List Expr) (δ:DSt) (h:aA) (p:List W×aA),cR v st es δ h=some p->es.all aJ=true
 | [],_,_,_,_=>rfl
 | e::es,δ,h,p,q=>by
  unfold cR at q;split at q
  ·rename_i hn;obtain ⟨a,e1,q⟩:=bind_some q;obtain ⟨b,e2,q⟩:=bind_some q;rw [List.all_cons,hn,dE es δ _ _ e2];rfl
  ·cases q
def aE4 {x:XR W} (p:Prop) (hp:∀ δ h r,x δ h=some r->p) (he:p->DE X e (Of x)):DE X e (Of x):=by
 by_cases h:p
 ·exact he h
 ·exact bH fG fun δ h' Q q=>by
   obtain ⟨r,h2,e,_⟩:=q;exact (h (hp _ _ _ e)).elim
def dJ7 {x:XR (List PyData)} (p:Prop) (hp:∀ δ h r,x δ h=some r->p) (he:p->DF X e (Of x)):DF X e (Of x):=by
 by_cases h:p
 ·exact he h
 ·exact qY bO1 fun δ h' Q q=>by
   obtain ⟨r,h2,e,_⟩:=q;exact (h (hp _ _ _ e)).elim
theorem cS (S:Snd v) (G:aV X st d):∀ es,DA X es (Of (cR v st es))
 | []=>cT3 lY fun δ h Q q=>aU q
 | e::es=>by
  unfold cR;split
  ·rename_i hn;refine cT3 (fR (S.E G e) (cS S G es) (aE hn _)) fun δ h Q q=>?_;obtain ⟨w,h1,e1,q⟩:=bF q;obtain ⟨ws,h2,e2,q⟩:=bF q;exact ⟨w,h1,e1,ws,h2,e2,aU q⟩
  ·exact fun p pins s σ H Q I ⟨_,_,_,_,_,_,q,_⟩=>(bS q).elim
def cF4 {x:XR (List PyData)} (h:DF X e (Of x)):DE X e (Of (bZ x)):=bH (aK2 h) fun δ h Q q=>by
 obtain ⟨w,h',e,q⟩:=q;obtain ⟨p,e1,e2⟩:=bind_some e;cases e2;exact ⟨p.1,p.2,e1,q⟩
def yF {x:XR (List PyData)} (h:DF X e (Of x)):DE X e (Of (aK x)):=bH (aK1 h) fun δ h Q q=>by
 obtain ⟨w,h',e,q⟩:=q;obtain ⟨p,e1,e2⟩:=bind_some e;cases e2;exact ⟨p.1,p.2,e1,q⟩
theorem pH (S:Snd v) (G:aV X st d):∀ eo,DO X eo (Of (aD7 v st eo))
 | none=>cT4 bA3 fun δ h Q q=>aU q
 | some e=>cT4 (bA4 (S.E G e)) fun δ h Q q=>by
  unfold aD7 at q;obtain ⟨w,h1,e1,q⟩:=bF q;refine ⟨w,h1,e1,?_⟩;dsimp only at q ⊢;split at q
  ·exact aU q
  ·exact (bS q).elim
theorem aR4 (S:Snd v) (G:aV X st d):∀ vs,DE X (.BoolOp .And vs pos) (Of (aP3 v st vs))
 | []=>bG
 | [a]=>aK4 (S.E G a)
 | a::b::r=>bH (bW5 (S.E G a) (aR4 S G (b::r))) fun δ h Q q=>by
  obtain ⟨w,h1,e1,q⟩:=bF q;refine ⟨w,h1,e1,?_⟩;dsimp only at q ⊢;split at q
  ·exact (if_pos rfl).mpr q
  ·exact (if_neg Bool.false_ne_true).mpr (aU q)
  ·exact (bS q).elim
theorem bP2 (S:Snd v) (G:aV X st d):∀ vs,DE X (.BoolOp .Or vs pos) (Of (cD8 v st vs))
 | []=>bG
 | [a]=>aK4 (S.E G a)
 | a::b::r=>bH (cP4 (S.E G a) (bP2 S G (b::r))) fun δ h Q q=>by
  obtain ⟨w,h1,e1,q⟩:=bF q;refine ⟨w,h1,e1,?_⟩;dsimp only at q ⊢;split at q
  ·exact (if_pos rfl).mpr (aU q)
  ·exact (if_neg Bool.false_ne_true).mpr q
  ·exact (bS q).elim
theorem aR5 (S:Snd v) (G:aV X st d):∀ vs,DW X (.BoolOp .And vs pos) (Of (aP4 v st vs))
 | []=>fun wh pins s σ H Q I ⟨_,_,_,_,_,_,q,_⟩=>(bS q).elim
 | [a]=>aZ5 (S.T G a)
 | a::b::r=>cT2 (bW4 (S.T G a) (aR5 S G (b::r))) fun δ h Q q=>by
  obtain ⟨w,h1,e1,q⟩:=bF q;refine ⟨w,h1,e1,?_⟩;dsimp only at q ⊢;split at q
  ·rename_i hw;rw [if_pos hw];exact q
  ·rename_i hw;rw [if_neg hw];exact aU q
theorem bP3 (S:Snd v) (G:aV X st d):∀ vs,DW X (.BoolOp .Or vs pos) (Of (cD9 v st vs))
 | []=>fun wh pins s σ H Q I ⟨_,_,_,_,_,_,q,_⟩=>(bS q).elim
 | [a]=>bW3 (S.T G a)
 | a::b::r=>cT2 (cP1 (S.T G a) (bP3 S G (b::r))) fun δ h Q q=>by
  obtain ⟨w,h1,e1,q⟩:=bF q;refine ⟨w,h1,e1,?_⟩;dsimp only at q ⊢;split at q
  ·rename_i hw;rw [if_pos hw];exact aU q
  ·rename_i hw;rw [if_neg hw];exact q
def wI {f:Str->Option Int} (G:aV X st d) (e1:kM st b=some f):∃ y p q,b=.Name y q/\fA y=true/\Gl X y/\X.mg y=some (.ref p)/\TabK X.w X.K p f:=by
 cases b with
 | Name y q =>
  unfold kM at e1;dsimp only at e1;split at e1
  ·rename_i ht;rw [Bool.and_eq_true] at ht;obtain ⟨h1,h2⟩:=dO G ht.1;obtain ⟨p,h3,h4⟩:=G.tk _ _ e1;exact ⟨y,p,q,rfl,h1,h2,h3,h4⟩
  ·cases e1
 | _=>cases e1
section
variable {xa xb' xc xd:XR W} {op op' op'':CmpOp} {c':Expr}
def iQ {x:XR Bool} {δ:DSt} {h:aA} {Q:DK} (q:Of (cE x) δ h Q):Of x δ h fun b h'=>Q (.d (.bool b)) h':=by
 obtain ⟨w,h',e,q⟩:=q;obtain ⟨⟨b,h2⟩,e1,e2⟩:=map_some e;cases e2;exact ⟨b,_,e1,q⟩
def cT8 {δ:DSt} {h:aA} {Q:Bool->aA->Prop} (q:Of (xC1 op xa xb') δ h Q):dOp (Of2 fun u w h=>(cL op u w h).map asW) (Of xa) (Of xb') δ h (fun w h'=>match w with | .d (.bool b)=>Q b h' | _=>False):=by
 obtain ⟨x,h1,e1,q⟩:=bF q;obtain ⟨y,h2,e2,q⟩:=bF q;obtain ⟨k,h3,e3,q⟩:=q;exact ⟨x,h1,e1,y,h2,e2,.d (.bool k),h3,congrArg (Option.map asW) e3,q⟩
def cT9 {δ:DSt} {h:aA} {Q:Bool->aA->Prop} (q:Of (xC2 op op' xa xb' xc) δ h Q):jR (Of2 fun u w h=>(cL op u w h).map asW) (Of2 fun u w h=>(cL op' u w h).map asW) (Of xa) (Of xb') (Of xc) δ h (fun w h'=>match w with | .d (.bool b)=>Q b h' | _=>False):=by
 obtain ⟨x,h1,e1,q⟩:=bF q;obtain ⟨y,h2,e2,q⟩:=bF q;obtain ⟨r,hr,e,q⟩:=q;obtain ⟨⟨k,h3⟩,e3,e⟩:=bind_some e;refine ⟨x,h1,e1,y,h2,e2,.d (.bool k),h3,congrArg (Option.map asW) e3,?_⟩;dsimp only at e ⊢;cases k with
 | false =>
  rw [if_neg Bool.false_ne_true] at e ⊢;cases e;exact q
 | true =>
  rw [if_pos rfl] at e ⊢;obtain ⟨⟨z,h4⟩,e4,e⟩:=bind_some e;exact ⟨z,h4,e4,.d (.bool r),hr,congrArg (Option.map asW) e,q⟩
def dJ8 {δ:DSt} {h:aA} {Q:Bool->aA->Prop} (q:Of (xC3 op op' op'' xa xb' xc xd) δ h Q):lK (Of2 fun u w h=>(cL op u w h).map asW) (Of2 fun u w h=>(cL op' u w h).map asW) (Of2 fun u w h=>(cL op'' u w h).map asW) (Of xa) (Of xb') (Of xc) (Of xd) δ h (fun w h'=>match w with | .d (.bool b)=>Q b h' | _=>False):=by
 obtain ⟨x,h1,e1,q⟩:=bF q;obtain ⟨y,h2,e2,q⟩:=bF q;obtain ⟨r,hr,e,q⟩:=q;obtain ⟨⟨k,h3⟩,e3,e⟩:=bind_some e;refine ⟨x,h1,e1,y,h2,e2,.d (.bool k),h3,congrArg (Option.map asW) e3,?_⟩;dsimp only at e ⊢;cases k with
 | false =>
  rw [if_neg Bool.false_ne_true] at e ⊢;cases e;exact q
 | true =>
  rw [if_pos rfl] at e ⊢;obtain ⟨⟨z,h4⟩,e4,e⟩:=bind_some e;obtain ⟨⟨k',h5⟩,e5,e⟩:=bind_some e;refine ⟨z,h4,e4,.d (.bool k'),h5,congrArg (Option.map asW) e5,?_⟩;dsimp only at e ⊢;cases k' with
  | false =>
   rw [if_neg Bool.false_ne_true] at e ⊢;cases e;exact q
  | true =>
   rw [if_pos rfl] at e ⊢;obtain ⟨⟨z',h6⟩,e6,e⟩:=bind_some e;exact ⟨z',h6,e6,.d (.bool r),hr,congrArg (Option.map asW) e,q⟩
def aR6 {Q:DK} {w:W} {h:aA} (q:match w with | .d (.bool b)=>Q (.d (.bool b)) h | _=>False):Q w h:=by
 split at q
 ·exact q
 ·exact q.elim
end
def dU {α:Type} {x:XR α} {δ:DSt} {h:aA} {Q Q':α->aA->Prop} (m:∀ a h,Q a h->Q' a h) (q:Of x δ h Q):Of x δ h Q':=by
 obtain ⟨a,h',e,q⟩:=q;exact ⟨a,h',e,m _ _ q⟩
def fL {f:W->W->aA->Option (W×aA)} {u w:W} {h:aA} {Q Q':DK} (m:∀ a h,Q a h->Q' a h) (q:Of2 f u w h Q):Of2 f u w h Q':=by
 obtain ⟨a,h',e,q⟩:=q;exact ⟨a,h',e,m _ _ q⟩
def bH0 {f g:W->W->aA->Option (W×aA)} {xa xb' xc:XR W} {δ:DSt} {h:aA} {Q Q':DK} (m:∀ a h,Q a h->Q' a h) (q:jR (Of2 f) (Of2 g) (Of xa) (Of xb') (Of xc) δ h Q):jR (Of2 f) (Of2 g) (Of xa) (Of xb') (Of xc) δ h Q':=by
 refine dU (fun x h1 q=>dU (fun y h2 q=>fL (fun z h3 q=>?_) q) q) q;split at q
 ·rename_i k;cases k with
  | false=>exact m _ _ q
  | true=>exact dU (fun u h4 q=>fL m q) q
 ·exact q.elim
def bH1 {f g k:W->W->aA->Option (W×aA)} {xa xb' xc xd:XR W} {δ:DSt} {h:aA} {Q Q':DK} (m:∀ a h,Q a h->Q' a h) (q:lK (Of2 f) (Of2 g) (Of2 k) (Of xa) (Of xb') (Of xc) (Of xd) δ h Q):lK (Of2 f) (Of2 g) (Of2 k) (Of xa) (Of xb') (Of xc) (Of xd) δ h Q':=by
 refine dU (fun x h1 q=>dU (fun y h2 q=>fL (fun z h3 q=>?_) q) q) q;split at q
 ·rename_i k;cases k with
  | false=>exact m _ _ q
  | true =>
   refine dU (fun u h4 q=>fL (fun z' h5 q=>?_) q) q;split at q
   ·rename_i k';cases k' with
    | false=>exact m _ _ q
    | true=>exact dU (fun u' h6 q=>fL m q) q
   ·exact q.elim
 ·exact q.elim
theorem mQ (S:Snd v) (G:aV X st d):∀ {ops:List CmpOp} {cs:List Expr},DE X (.Compare a ops cs pos) (Of (cE (jD v st a ops cs)))
 | [op],[b]=>by
  show DE X _ (Of (cE (match kM st b with
   | some f=>if op=.NotIn then pC f (v.E st a) else xno
   | none=>if behindInMarks op b=true then xno else xC1 op (v.E st a) (v.E st b))))
  cases ht:kM st b with
  | some f =>
   obtain ⟨y,p,pp,rfl,h1,h2,h3,h4⟩:=wI G ht;dsimp only;split
   ·rename_i ho;subst ho;refine bH (aB9 h4 h3 (S.E G a) h2 (bK h1)) fun δ h Q q=>?_;obtain ⟨w,h1,e1,q⟩:=bF (iQ q);refine ⟨w,h1,e1,?_⟩;dsimp only at q ⊢;split at q
    ·have z:=aU q;exact z
    ·have z:=aU q;exact z
    ·exact (bS q).elim
   ·exact bH fG fun δ h Q q=>(bS (iQ q)).elim
  | none =>
   dsimp only;split
   ·exact bH fG fun δ h Q q=>(bS (iQ q)).elim
   ·rename_i hm;exact bH (bV9 (dS G.rm op) (S.E G a) (S.E G b) (by simpa using hm)) fun δ h Q q=>dU (fun x h1 q=>dU (fun y h2 q=>fL (fun _ _=>aR6) q) q) (cT8 (iQ q))
 | [op,op'],[b,c]=>by
  show DE X _ (Of (cE (if lastMarks [op,op'] [b,c]=true then xno else xC2 op op' (v.E st a) (v.E st b) (v.E st c))));split
  ·exact bH fG fun δ h Q q=>(bS (iQ q)).elim
  ·rename_i hm;exact bH (aM0 (dS G.rm op) (dS G.rm op') (S.E G a) (S.E G b) (S.E G c) (by simpa using hm)) fun δ h Q q=>bH0 (fun _ _=>aR6) (cT9 (iQ q))
 | [],_=>bH fG fun δ h Q q=>(bS (iQ q)).elim
 | [_],[]=>bH fG fun δ h Q q=>(bS (iQ q)).elim
 | [_],_::_::_=>bH fG fun δ h Q q=>(bS (iQ q)).elim
 | [_,_],[]=>bH fG fun δ h Q q=>(bS (iQ q)).elim
 | [_,_],[_]=>bH fG fun δ h Q q=>(bS (iQ q)).elim
 | [_,_],_::_::_::_=>bH fG fun δ h Q q=>(bS (iQ q)).elim
 | _::_::_::_,_=>bH fG fun δ h Q q=>(bS (iQ q)).elim
def aE5 (S:Snd v) (G:aV X st d):∀ {ops:List CmpOp} {cs:List Expr},DE X (.Compare a ops cs pos) (Of (cE (jX v st a ops cs))):=fun {ops cs}=>by
 rcases ops with _ | ⟨op,_ | ⟨op',_ | ⟨op'',_ | ⟨o4,r⟩⟩⟩⟩<;>first | exact mQ S G | skip
 rcases cs with _ | ⟨b,_ | ⟨c,_ | ⟨d',_ | ⟨c4,r⟩⟩⟩⟩<;>first | exact mQ S G | skip
 unfold jX;dsimp only;split
 ·exact bH fG fun δ h Q q=>(bS (iQ q)).elim
 ·rename_i hm;exact bH (aC2 (dS G.rm op) (dS G.rm op') (dS G.rm op'') (S.E G a) (S.E G b) (S.E G c) (S.E G d') (by simpa using hm)) fun δ h Q q=>bH1 (fun _ _=>aR6) (dJ8 (iQ q))
theorem aE6 (S:Snd v) (G:aV X st d):∀ {ops:List CmpOp} {cs:List Expr},DT X (.Compare a ops cs pos) (Of (jD v st a ops cs))
 | [op],[b]=>by
  show DT X _ (Of (match kM st b with
   | some f=>if op=.NotIn then pC f (v.E st a) else xno
   | none=>if behindInMarks op b=true then xno else xC1 op (v.E st a) (v.E st b)))
  cases ht:kM st b with
  | some f =>
   obtain ⟨y,p,pp,rfl,h1,h2,h3,h4⟩:=wI G ht;dsimp only;split
   ·rename_i ho;subst ho;refine aQ1 (aC0 h4 h3 (S.E G a) h2 (bK h1)) fun δ h Q q=>?_;obtain ⟨w,h1,e1,q⟩:=bF q;refine ⟨w,h1,e1,?_⟩;dsimp only at q ⊢;split at q
    ·exact aU q
    ·exact aU q
    ·exact (bS q).elim
   ·exact kX
  | none =>
   dsimp only;split
   ·exact kX
   ·rename_i hm;exact aQ1 (bW1 (dS G.rm op) (S.E G a) (S.E G b) (by simpa using hm)) fun δ h Q q=>cT8 q
 | [op,op'],[b,c]=>by
  show DT X _ (Of (if lastMarks [op,op'] [b,c]=true then xno else xC2 op op' (v.E st a) (v.E st b) (v.E st c)));split
  ·exact kX
  ·rename_i hm;exact aQ1 (aM1 (dS G.rm op) (dS G.rm op') (S.E G a) (S.E G b) (S.E G c) (by simpa using hm)) fun δ h Q q=>cT9 q
 | [],_=>kX
 | [_],[]=>kX
 | [_],_::_::_=>kX
 | [_,_],[]=>kX
 | [_,_],[_]=>kX
 | [_,_],_::_::_::_=>kX
 | _::_::_::_,_=>kX
def aR7:(∀ x y:PyData,peq x y=true->x=y)/\True:=⟨fun x=>by
 intro y h;exact (PyData.rec (motive_1:=fun x=>∀ y,peq x y=true->x=y) (motive_2:=fun xs=>∀ ys,peqs xs ys=true->xs=ys) (motive_3:=fun _=>True) (motive_4:=fun _=>True)
  (fun y h=>by cases y<;>first | rfl | (simp [peq] at h))
  (fun b y h=>by cases y<;>first | (simp only [peq] at h;rw [eq_of_beq h]) | (simp [peq] at h))
  (fun b y h=>by cases y<;>first | (simp only [peq] at h;rw [eq_of_beq h]) | (simp [peq] at h))
  (fun b y h=>by cases y<;>first | (simp only [peq] at h;rw [eq_of_beq h]) | (simp [peq] at h))
  (fun xs ih y h=>by cases y<;>first | (simp only [peq] at h;rw [ih _ h]) | (simp [peq] at h))
  (fun xs ih y h=>by cases y<;>first | (simp only [peq] at h;rw [ih _ h]) | (simp [peq] at h))
  (fun kvs _ y h=>by cases y<;>simp [peq] at h)
  (fun ys h=>by cases ys<;>first | rfl | (simp [peqs] at h))
  (fun x xs ih1 ih2 ys h=>by
   cases ys with
   | nil=>simp [peqs] at h
   | cons y ys =>
    simp only [peqs,Bool.and_eq_true] at h;rw [ih1 _ h.1,ih2 _ h.2])
  trivial (fun _ _ _ _=>trivial) (fun _ _ _ _=>trivial) x) y h,trivial⟩
theorem yG:∀ {xs ys:List PyData},peqs xs ys=true->xs=ys
 | [],[],_=>rfl
 | [],_::_,h=>by simp [peqs] at h
 | _::_,[],h=>by simp [peqs] at h
 | x::xs,y::ys,h=>by
  simp only [peqs,Bool.and_eq_true] at h;rw [aR7.1 x y h.1,yG h.2]
def hX {c:Option Nat} {xs:List PyData} {h:aA} (e:condB c xs h=true):DL.cond c xs h:=by
 cases c with
 | none=>trivial
 | some i =>
  show h[i]?=some (.l xs);unfold condB at e;dsimp only at e;split at e
  ·rename_i ys q;rw [q,yG e]
  ·cases e
def gT {tg:Expr} {y:XR W} (h:DE X e (Of y)):DI X tg e (OfI (bN y)):=aD8 (bB5 h) fun δ h Q q=>by
 obtain ⟨xs,c,h',e,q⟩:=q;obtain ⟨⟨w,h1⟩,e1,e⟩:=bind_some e;refine ⟨w,h1,e1,?_⟩;dsimp only at e ⊢;split at e
 ·cases e;exact q
 ·cases e;exact q
 ·split at e
  ·rename_i ys ey;try dsimp only
   try rw [ey]
   cases e;exact q
  ·cases e
 ·cases e
def aR8 {i j:Int} (h:fV i j=true):j - i<=16000000/\-(2^62)<=i/\i < 2^62/\-(2^62)<=j/\j < 2^62:=by
 unfold fV at h
 simpa only [Bool.and_eq_true,decide_eq_true_eq] using h
def aR9 {tg:Expr} {y:XR (List PyData×Option Nat)} (n:∀ δ h,y δ h=none):DI X tg e (OfI y):=aD8 cQ8 fun δ h Q q=>by
 obtain ⟨_,_,_,e,_⟩:=q;rw [n] at e;cases e
def rA (S:Snd v) (G:aV X st d) {tg:Expr}:∀ e,DI X tg e (OfI (pD v st tg e)):=fun e=>by
 cases e<;>first | exact gT (S.E G _) | exact aR9 fun _ _=>rfl | skip
 case Call f args kw p' =>
  cases f<;>first | exact gT (S.E G _) | skip
  case Name x p =>
   rcases args with _ | ⟨a,_ | ⟨b,_ | ⟨c,r⟩⟩⟩
   ·exact gT (S.E G _)
   ·cases kw with
    | cons _ _=>exact gT (S.E G _)
    | nil =>
     unfold pD;dsimp only;split
     ·rename_i hx;subst hx;split
      ·rename_i hc;simp only [Bool.and_eq_true] at hc;obtain ⟨⟨⟨ht,_⟩,hb⟩,hs⟩:=hc;refine aD8 (aA9 (G.bl _ hb) (fR (S.E G a) lY (aE hs _)) (dO G ht).2 (aE hs _)) fun δ h Q q=>?_;obtain ⟨xs,c,h',e,q⟩:=q;obtain ⟨⟨w,h1⟩,e1,e⟩:=bind_some e;refine ⟨w,h1,e1,?_⟩;dsimp only [aK3] at e ⊢;split at e
       ·split at e
        ·rename_i hr;have z:=aR8 hr;cases e;exact ⟨⟨by omega,z.2.2.2.1⟩,q⟩
        ·cases e
       ·cases e
      ·exact aR9 fun _ _=>rfl
     ·split
      ·rename_i hx;subst hx;split
       ·rename_i hc;simp only [Bool.and_eq_true] at hc;obtain ⟨⟨⟨⟨ht,_⟩,hb⟩,hs⟩,htg⟩:=hc;have htu:∃ es n tp,tg=.Tuple es n tp:=by
         unfold tP at htg;split at htg
         ·exact ⟨_,_,_,rfl⟩
         ·cases htg
        obtain ⟨es,n,tp,rfl⟩:=htu;refine aD8 (bF0 (G.bl _ hb) (fR (S.E G a) lY (aE hs _)) (dO G ht).2 (aE hs _)) fun δ h Q q=>?_;obtain ⟨xs,c,h',e,q⟩:=q;obtain ⟨⟨u,h1⟩,e1,e⟩:=bind_some e;refine ⟨u,h1,e1,?_⟩;dsimp only [aK3] at e ⊢;split at e
        ·rename_i xs' ex;cases e;exact ⟨u,xs',rfl,ex,q⟩
        ·cases e
       ·exact aR9 fun _ _=>rfl
      ·exact gT (S.E G _)
   ·cases kw with
    | cons _ _=>exact gT (S.E G _)
    | nil =>
     unfold pD;dsimp only;split
     ·rename_i hx;subst hx;split
      ·rename_i hc;simp only [Bool.and_eq_true] at hc;obtain ⟨⟨⟨⟨ht,_⟩,hb⟩,hs⟩,hs2⟩:=hc;refine aD8 (aB0 (G.bl _ hb) (fR (S.E G a) (fR (S.E G b) lY (aE hs2 _)) (aE hs _)) (dO G ht).2 (by rw [aE hs,aE hs2];rfl) (aE hs2 _)) fun δ h Q q=>?_;obtain ⟨xs,c,h',e,q⟩:=q;obtain ⟨⟨u,h1⟩,e1,e⟩:=bind_some e;obtain ⟨⟨w,h2⟩,e2,e⟩:=bind_some e;refine ⟨u,h1,e1,w,h2,e2,?_⟩;dsimp only [aK3] at e ⊢;split at e
       ·split at e
        ·rename_i hr;have z:=aR8 hr;cases e;exact ⟨z,q⟩
        ·cases e
       ·cases e
      ·exact aR9 fun _ _=>rfl
     ·split
      ·rename_i hx;subst hx;split
       ·rename_i hc;simp only [Bool.and_eq_true] at hc;obtain ⟨⟨⟨⟨⟨ht,_⟩,hb⟩,hs⟩,hs2⟩,htg⟩:=hc;have htu:∃ es n tp,tg=.Tuple es n tp:=by
         unfold tP at htg;split at htg
         ·exact ⟨_,_,_,rfl⟩
         ·cases htg
        obtain ⟨es,n,tp,rfl⟩:=htu;refine aD8 (cC0 (G.bl _ hb) (fR (S.E G a) (fR (S.E G b) lY (aE hs2 _)) (aE hs _)) (dO G ht).2 (by rw [aE hs,aE hs2];rfl) (aE hs2 _)) fun δ h Q q=>?_;obtain ⟨xs,c,h',e,q⟩:=q;obtain ⟨⟨u,h1⟩,e1,e⟩:=bind_some e;obtain ⟨⟨w,h2⟩,e2,e⟩:=bind_some e;refine ⟨u,h1,e1,w,h2,e2,?_⟩;dsimp only [aK3] at e ⊢;split at e
        ·rename_i xs' ys' ex ey;cases e;exact ⟨u,w,xs',ys',rfl,ex,ey,q⟩
        ·cases e
       ·exact aR9 fun _ _=>rfl
      ·exact gT (S.E G _)
   ·exact gT (S.E G _)
def rB (h:kN e=false) (env:Env) (y:Value):foldedSetIterable e env y=pure y:=by
 cases e<;>first | rfl | cases h
theorem jG {g:XG} {tt:XR Bool} {te:XR W} {c:Option Nat} {all:List PyData} {Q:List PyData->aA->Prop}:∀ (rest:List PyData) (δ:DSt) (h:aA) (ac r:List PyData) (h':aA),aO g tt te c all rest δ h ac=some (r,h')->Q r h'->tF (OfG g) (Of tt) (Of te) c all rest δ h ac Q
 | [],δ,h,ac,r,h',e,q=>by
  unfold aO at e;split at e
  ·rename_i hc;cases e;exact ⟨hX hc,q⟩
  ·cases e
 | x::rest,δ,h,ac,r,h',e,q=>by
  unfold aO at e;split at e
  ·rename_i hc;obtain ⟨⟨δ2,h2⟩,e1,e⟩:=bind_some e;obtain ⟨⟨k,h3⟩,e2,e⟩:=bind_some e;refine ⟨hX hc,δ2,h2,e1,k,h3,e2,?_⟩;dsimp only at e ⊢;split at e
   ·rename_i hk;rw [if_pos hk];obtain ⟨⟨w,h4⟩,e3,e⟩:=bind_some e;refine ⟨w,h4,e3,?_⟩;cases w with
    | d z=>exact jG rest δ2 h4 (ac++[z]) r h' e q
    | c i=>cases e
    | v u=>cases e
   ·rename_i hk;rw [if_neg hk];exact jG rest δ2 h3 ac r h' e q
  ·cases e
def aE7 (N:List Str) (sc:Scope):(pE N sc).length=(wF sc).length:=by unfold pE;rw [List.length_map]
def lN {N:List Str} {sc S:Scope} (h:tQ N sc S=true):CompSc N (wF sc) (pE N sc) S sc:=by
 unfold tQ at h;simp only [Bool.and_eq_true,decide_eq_true_eq,List.all_eq_true] at h;obtain ⟨h1,h2,h3,h4,h5,h6⟩:=h;refine ⟨h1,fun y hy e=>?_,fun y hy e=>?_,fun y hy e=>?_,h5,aE7 N sc,?_⟩
 ·have:=h2 y hy;rw [e] at this;simp at this
 ·have:=h3 y hy;rw [e] at this
  simpa using this
 ·have:=h4 y hy;rw [e] at this
  simpa using this
 ·rw [List.all_eq_true];exact h6
def cT (G:aV X st d) {sc:Scope} (hc:tQ st.N sc st.S=true) (cl:List (Str×Addr)) (C:Addr) (s:Shared) (H:Hp) (fp:List Addr):aV (blk X (wF sc) sc cl C s H fp) (st.blk sc) d:=by
 have SC:=lN hc;refine ⟨G.bl,G.gc,G.tk,G.fn,rfl,?_,SC.nd,G.xe,G.calm,G.rm,(fun z=>nomatch z),SC.kind,G.fnW,G.cls,G.om,G.fo⟩;show relabel sc X.env=cE0 sc st.S;unfold relabel cE0 Env.kindOf;rw [G.S]
theorem wJ (S:Snd v) (G:aV X st d):∀ ifs,DIf X ifs (Of (cE1 v st ifs))
 | []=>cT5 bB8 fun δ h Q q=>aU q
 | [c]=>bB9 (S.T G c)
 | _::_::_=>fun pins s σ H Q I ⟨_,_,_,_,_,_,q,_⟩=>(bS q).elim
def cF5 (S:Snd v) (G:aV X st d) {elt tg iter:Expr} {ifs:List Expr} {sc:Scope}:DF X (.ListComp elt [⟨tg,iter,ifs,0⟩] sc pos) (Of (pG v st elt tg iter ifs sc)):=by
 unfold pG;split
 ·rename_i hc;rw [Bool.and_eq_true] at hc;have hs:kN iter=false:=by simpa using hc.2
  refine qY (bC0 G.xe G.calm G.S G.N (lN hc.1) (rA S G iter) (fun cl C s H fp=>S.G (cT G hc.1 cl C s H fp) tg) (fun cl C s H fp=>wJ S (cT G hc.1 cl C s H fp) ifs)
   (fun cl C s H fp=>S.E (cT G hc.1 cl C s H fp) elt) (rB hs _)) fun δ h Q q=>?_
  obtain ⟨r,h',e,q⟩:=q;obtain ⟨⟨⟨xs,c⟩,h1⟩,e1,e⟩:=bind_some e;exact ⟨xs,c,h1,e1,jG _ _ _ _ _ _ e q⟩
 ·exact iB
def cF6 (S:Snd v) (G:aV X st d):DF X (.List es pos) (Of (xPl (cR v st es))):=qY (bV8 (cS S G es)) fun δ h Q q=>by
 obtain ⟨ws,h1,e1,q⟩:=bF q;refine ⟨ws,h1,e1,?_⟩;obtain ⟨r,h',e,q⟩:=q;dsimp only at e ⊢;split at e
 ·rename_i xs ex;try rw [ex]
  split at e
  ·rename_i hl;cases e;exact ⟨hl,q⟩
  ·cases e
 ·cases e
def cF7 {l:List Expr} {b:Expr} (e:rgA l=some b):∃ p q,l=[.Call (.Name "range" p) [b] [] q]:=by
 unfold rgA at e;split at e
 ·split at e
  ·rename_i hy;subst hy;cases e;exact ⟨_,_,rfl⟩
  ·cases e
 ·cases e
def rC (G:aV X st d) (h:okC st x=true):Gl X x/\X.mg x=none:=by
 unfold okC at h;simp only [Bool.and_eq_true] at h;exact ⟨(dO G h.1.1).2,G.bl _ h.2⟩
def jZ (S:Snd v) (G:aV X st d):∀ e,DF X e (Of (dI v st e)):=fun e=>by
 cases e<;>first | exact iB | skip
 case List=>exact cF6 S G
 case ListComp elt gs sc p =>
  cases gs with
  | nil=>exact iB
  | cons g r =>
   obtain ⟨tg,iter,ifs,a'⟩:=g;cases r with
   | cons _ _=>exact iB
   | nil =>
    unfold dI;dsimp only;split
    ·rename_i ha;subst ha;exact cF5 S G
    ·exact iB
 case Subscript a s p =>
  cases s<;>first | exact iB | skip
  case Slice lo hi stp p2 =>
   cases stp with
   | some _=>exact iB
   | none =>
    unfold dI;dsimp only;refine qY (aK7 (S.E G a) (pH S G lo) (pH S G hi)) fun δ h Q q=>?_;obtain ⟨x,h1,e1,q⟩:=bF q;obtain ⟨l,h2,e2,q⟩:=bF q;obtain ⟨u,h3,e3,q⟩:=bF q;obtain ⟨r,h',e,q⟩:=q;refine ⟨x,h1,e1,l,h2,e2,u,h3,e3,?_⟩;dsimp only at e ⊢;split at e
    ·rename_i xs ex;try rw [ex]
     cases e;exact q
    ·cases e
 case BinOp a op b p' =>
  cases op<;>first | exact iB | skip
  case Add =>
   unfold dI;dsimp only;refine qY (bE4 (S.E G a) (S.E G b)) fun δ h Q q=>?_;obtain ⟨x,h1,e1,q⟩:=bF q;obtain ⟨y,h2,e2,q⟩:=bF q;obtain ⟨r,h',e,q⟩:=q;refine ⟨x,h1,e1,y,h2,e2,?_⟩;dsimp only at e ⊢;split at e
   ·rename_i xs ys ex ey;try rw [ex,ey]
    split at e
    ·rename_i hl;cases e;exact ⟨hl,q⟩
    ·cases e
   ·cases e
  case Mult =>
   cases a<;>first | exact iB | skip
   case List es p =>
    unfold dI;dsimp only;refine qY (cB7 (cF4 (cF6 S G)) (S.E G b)) fun δ h Q q=>?_;obtain ⟨x,h1,e1,q⟩:=bF q;obtain ⟨y,h2,e2,q⟩:=bF q;obtain ⟨r,h',e,q⟩:=q;refine ⟨x,h1,e1,y,h2,e2,?_⟩;dsimp only at e ⊢;split at e
    ·split at e
     ·rename_i xs ex;try dsimp only
      try rw [ex]
      split at e
      ·rename_i hl;cases e;exact ⟨hl,q⟩
      ·cases e
     ·cases e
    ·cases e
 case Call f args kw p' =>
  cases f<;>first | exact iB | skip
  case Name x p =>
   cases args with
   | nil=>exact iB
   | cons a es =>
    cases kw with
    | cons _ _=>exact iB
    | nil =>
     unfold dI;dsimp only;split
     ·rename_i hx;subst hx;split
      ·rename_i b hb;obtain ⟨p1,p2,hb⟩:=cF7 hb;cases hb;split
       ·rename_i hc;simp only [Bool.and_eq_true] at hc;obtain ⟨⟨h1,h2⟩,h3⟩:=hc;refine qY (aD5 G.calm (rC G h1).1 (rC G h1).2 (rC G h2).1 (rC G h2).2 (cS S G [b]) (aE h3 _)) fun δ h Q q=>?_;obtain ⟨ws,h1,e1,q⟩:=bF q;obtain ⟨r,h',e,q⟩:=q;refine ⟨ws,h1,e1,?_⟩;dsimp only at e;split at e
        ·split at e
         ·rename_i hz;cases e;exact ⟨_,rfl,hz,q⟩
         ·cases e
        ·cases e
       ·exact iB
      split
      ·rename_i hc;simp only [Bool.and_eq_true] at hc;obtain ⟨⟨ht,_⟩,hb⟩:=hc;refine dJ7 ((a::es).all aJ=true) (fun δ h r e=>?_) fun hst=>?_
       ·obtain ⟨p,e1,_⟩:=bind_some e;exact dE _ _ _ _ e1
       ·have hst':=hst;rw [List.all_cons,Bool.and_eq_true] at hst';refine qY (bA6 (G.bl _ hb) (cS S G (a::es)) (dO G ht).2 (aE hst'.1 _) (cF es _ _ hst'.2)) fun δ h Q q=>?_;obtain ⟨ws,h1,e1,q⟩:=bF q;obtain ⟨r,h',e,q⟩:=q;refine ⟨ws,h1,e1,?_⟩;dsimp only at e ⊢;split at e
        ·split at e
         ·rename_i xs ex;try dsimp only
          try rw [ex]
          cases e;exact q
         ·rename_i xs ex;try dsimp only
          try rw [ex]
          cases e;exact q
         ·cases e
        ·cases e
      ·exact iB
     ·exact iB
end
section
variable {X:Cx} {st:Sta} {d:Nat} {x:Str} {v:Evs} {a b c e:Expr} {es:List Expr} {pos:Pos}
def bfun_ok (G:aV X st d) {g:List W->aA->Option (W×aA)} (e:cD6 x=some g) :
  (∃ id,bootBuiltins x=some (.builtin id)/\cQ X (.builtin id) (upC X.K (OfC g)))\/∃ T,bootBuiltins x=some (.type T)/\cQ X (.type T) (upC X.K (OfC g)):=by
 unfold cD6 at e;split at e
 ·rename_i hx;subst hx;cases e;refine .inl ⟨"len",rfl,wG aA7 fun ws h Q ⟨r,h',e,q⟩=>?_⟩;unfold bU at e;unfold bX5;split at e
  ·split at e
   ·rename_i ey;dsimp only;rw [ey];cases e;exact q
   ·rename_i ey;dsimp only;rw [ey];cases e;exact q
   ·cases e
  ·cases e
 split at e
 ·rename_i hx;subst hx;cases e;refine .inr ⟨"tuple",rfl,wG tD fun ws h Q ⟨r,h',e,q⟩=>?_⟩;unfold cJ at e;unfold vW;split at e
  ·split at e
   ·rename_i ey;dsimp only;rw [ey];cases e;exact q
   ·rename_i ey;dsimp only;rw [ey];cases e;exact q
   ·cases e
  ·cases e
 split at e
 ·rename_i hx;subst hx;cases e;refine .inl ⟨"all",rfl,wG (aB5 G.calm) fun ws h Q ⟨r,h',e,q⟩=>?_⟩;unfold jC at e;unfold bY7;split at e
  ·split at e
   ·rename_i ey;dsimp only;rw [ey];obtain ⟨bs,e1,e2⟩:=map_some e;dsimp only;rw [e1];cases e2;exact q
   ·cases e
  ·cases e
 split at e
 ·rename_i hx;subst hx;cases e;exact .inr ⟨"int",rfl,aD4⟩
 ·cases e
def cF8 {T:Str} {Ts:String} (e:cD7 T=some Ts):kJ Ts/\bootBuiltins T=some (.type Ts):=by
 unfold cD7 at e
 repeat' split at e
 all_goals first | (rename_i h;subst h;cases e;exact ⟨bC1,rfl⟩) | (rename_i h;subst h;cases e;exact ⟨aL7,rfl⟩) | (rename_i h;subst h;cases e;exact ⟨bC2,rfl⟩) | (rename_i h;subst h;cases e;exact ⟨aB6,rfl⟩) | (rename_i h;subst h;cases e;exact ⟨aL8,rfl⟩) | cases e
def base_of {o:Expr} (h:iO o=true) (m:Str) (env:Env):attributeBase o m env (eval o env)=eval o env:=by
 cases o<;>first | rfl | cases h
def rD (h:(e::es).all aJ=true) (hl:(e::es).length < 29) (env:Env) (cpos:Pos) :
  ((backTo cpos (starEach (e::es) env)).all (fun x=>!x.1)&&(backToKw cpos (keywordEach [] env)).all (fun x=>x.1.isSome)
   && decide ((e::es).length+([]:List Keyword).length+(if ([]:List Keyword).isEmpty then 0 else 1) < 30))=true:=by
 rw [tW _ _ _ h];have:(e::es).length+0+0 < 30:=by omega
 show (true&&true&&decide _)=true;simp only [Bool.true_and,decide_eq_true_eq];exact this
def aS0 (S:Snd v) (G:aV X st d) {o:Expr} {m:Str} {apos:Pos} {g:W->List W->aA->Option (W×aA)} (ho:iO o=true) (hl:(apos.endLine==pos.line)=true) (hn:(a::es).length < 29) (hm:cE2 m=some g) :
  DE X (.Call (.Attribute o m apos) (a::es) [] pos) (Of (bO6 v st o m g (a::es))):=by
 refine aE4 ((a::es).all aJ=true) (fun δ h r e=>?_) fun hst=>?_
 ·obtain ⟨p,e1,e⟩:=bind_some e;dsimp only at e;split at e
  ·obtain ⟨p,e2,e⟩:=bind_some e;exact dE _ _ _ _ e2
  ·cases e
 have hst':=hst;rw [List.all_cons,Bool.and_eq_true] at hst';unfold cE2 at hm;split at hm
 ·rename_i hx;subst hx;cases hm;refine bH (bY3 (S.E G o) (cS S G (a::es)) (base_of ho _ _) (rD hst hn _ _) hl (aE hst'.1 _) (cF _ _ _ hst'.2)) fun δ h Q q=>?_;obtain ⟨w,h1,e1,q⟩:=bF q;refine ⟨w,h1,e1,?_⟩;obtain ⟨r,h',e,q⟩:=q;dsimp only at e ⊢;split at e
  ·rename_i hp;obtain ⟨⟨ws,h2⟩,e2,e⟩:=bind_some e;dsimp only at e;split at e
   ·rename_i j x _;dsimp only;have hp':∃ ys,h1[j]?=some (.l ys):=by
     unfold jE at hp;rw [if_pos rfl] at hp;dsimp only at hp;split at hp
     ·rename_i ys ey;exact ⟨ys,ey⟩
     ·cases hp
    obtain ⟨ys,ey⟩:=hp';rw [ey];refine ⟨_,h2,e2,?_⟩;dsimp only;split at e
    ·rename_i xs ex;rw [ex];split at e
     ·rename_i hl;cases e;exact ⟨hl,q⟩
     ·cases e
    ·cases e
   ·cases e
  ·cases e
 ·cases hm
def cU0 (S:Snd v) (G:aV X st d) {o:Expr} {apos:Pos} (ho:iO o=true) (hl:(apos.endLine==pos.line)=true) (ha:aJ a=true) :
  DE X (.Call (.Attribute o "pop" apos) [a] [] pos) (Of (cS7 v st o a)):=by
 intro pins s σ H Q I hq;obtain ⟨δ,h,A,μ,k,R,⟨r,h',e,q⟩,c⟩:=hq;obtain ⟨⟨w,h1⟩,e1,e⟩:=bind_some e;dsimp only at e;have hst:[a].all aJ=true:=by simp [ha]
 split at e
 ·rename_i j;split at e
  ·rename_i xs ex;obtain ⟨⟨ws,h2⟩,e2,e⟩:=bind_some e;refine cC7 (S.E G o) (cS S G [a]) (base_of ho _ _) (rD hst (by simp) _ _) hl (aE ha _) (cF _ _ _ rfl) pins s σ H Q I ⟨δ,h,A,μ,k,R,⟨.c j,h1,e1,?_⟩,c⟩;dsimp only;rw [ex];refine ⟨ws,h2,e2,?_⟩;unfold aP5 at e;dsimp only at e ⊢;split at e
   ·rename_i i ys ey;obtain ⟨n,e3,e⟩:=bind_some e;obtain ⟨x,e4,e⟩:=bind_some e;split at e
    ·rename_i hi;cases e;try rw [ey]
     exact ⟨n,x,e3,e4,hi.1,hi.2,q⟩
    ·cases e
   ·cases e
  ·cases e
 ·cases e
def aE8 {o:Expr} (h:aP6 o=true) (m:Str) (env:Env):attributeBase o m env (eval o env)=eval o env:=by
 cases o<;>first | rfl | cases h | skip
 rename_i f args kw p;cases f<;>first | cases h | skip
 cases args<;>first | cases h | skip
 cases kw<;>first | rfl | cases h
def dJ9 (S:Snd v) (G:aV X st d) {o:Expr} {m:Str} {apos:Pos} {C:Addr} {g:XFW} (hm:st.ob.om m=some (C,g)) (ho:aP6 o=true) (hl:(apos.endLine==pos.line)=true) (hn:(a::es).length < 29) (hst:(a::es).all aJ=true) :
  DE X (.Call (.Attribute o m apos) (a::es) [] pos) (Of (xMo v st o m C g (a::es))):=by
 obtain ⟨hc,f,fd,ps,hM,F,hb⟩:=G.om m C g hm;have hst':=hst;rw [List.all_cons,Bool.and_eq_true] at hst';refine bH (bF7 hc hM F G.rm hb (S.E G o) (cS S G (a::es)) (aE8 ho _ _) (rD hst hn _ _) hl (aE hst'.1 _) (cF _ _ _ hst'.2)) fun δ h Q q=>?_;obtain ⟨w,h1,e1,q⟩:=bF q;refine ⟨w,h1,e1,?_⟩;obtain ⟨r,h',e,q⟩:=q;dsimp only at e ⊢;split at e
 ·rename_i j;split at e
  ·rename_i C' fs ej;split at e
   ·rename_i hz;obtain ⟨⟨ws,h2⟩,e2,e⟩:=bind_some e;try dsimp only
    try rw [ej]
    exact ⟨hz.1,hz.2,ws,h2,e2,r,h',e,q⟩
   ·cases e
  ·cases e
 ·cases e
def cU1 (S:Snd v) (G:aV X st d) {o:Expr} {f:Str} {pos:Pos} (ho:iO o=true):DE X (.Attribute o f pos) (Of (cS9 v st o f)):=by
 refine bH (cC8 (S.E G o) (base_of ho _ _)) fun δ h Q q=>?_;obtain ⟨w,h1,e1,q⟩:=bF q;refine ⟨w,h1,e1,?_⟩;obtain ⟨r,h',e,q⟩:=q;dsimp only at e ⊢;split at e
 ·rename_i j;split at e
  ·rename_i C fs ej;split at e
   ·rename_i hf;obtain ⟨w2,e3,e4⟩:=map_some e;cases e4;obtain ⟨h5,h6⟩:=G.fo C f hf;try dsimp only
    try rw [ej]
    refine ⟨h5,h6,?_⟩;rw [e3];exact q
   ·cases e
  ·cases e
 ·cases e
def cU2 (S:Snd v) (G:aV X st d) {o:Expr} {apos:Pos} (ho:iO o=true) (hl:(apos.endLine==pos.line)=true) (ha:aJ a=true) :
  DE X (.Call (.Attribute o "extend" apos) [a] [] pos) (Of (cS8 v st o a)):=by
 refine bH (cD1 (S.E G o) (S.F G a) (base_of ho _ _) (rD (by simp [ha]) (by simp) _ _) hl (aE ha _)) fun δ h Q q=>?_;obtain ⟨w,h1,e1,q⟩:=bF q;refine ⟨w,h1,e1,?_⟩;obtain ⟨r,h',e,q⟩:=q;dsimp only at e ⊢;split at e
 ·rename_i j;split at e
  ·rename_i ys ey;obtain ⟨⟨zs,h2⟩,e2,e⟩:=bind_some e;try dsimp only
   try rw [ey]
   refine ⟨zs,h2,e2,?_⟩;try dsimp only at e ⊢
   split at e
   ·rename_i xs ex;try rw [ex]
    split at e
    ·rename_i hz;cases e;exact ⟨hz,q⟩
    ·cases e
   ·cases e
  ·cases e
 ·cases e
def fY (S:Snd v) (G:aV X st d) {f:Expr} {args:List Expr}:DE X (.Call f args [] pos) (Of (yB v st f args pos)):=by
 unfold yB;split
 ·rename_i y p;split
  ·rename_i hc;rw [Bool.and_eq_true] at hc;obtain ⟨ht,hs⟩:=hc;obtain ⟨hn,hg⟩:=dO G ht;split
   ·rename_i m hm;split
    ·exact bG
    ·rename_i a es;refine aE4 ((a::es).all aJ=true) (fun δ h r e=>?_) fun hst=>?_
     ·obtain ⟨p,e1,e⟩:=bind_some e;exact dE _ _ _ _ e1
     have hst':=hst;rw [List.all_cons,Bool.and_eq_true] at hst';refine bH (aO5 (G.fnW y m hm) G.rm (cS S G (a::es)) hg (bK hn) (aE hst'.1 _) (cF _ _ _ hst'.2)) fun δ h Q q=>?_;obtain ⟨ws,h1,e1,q⟩:=bF q;exact ⟨ws,h1,e1,q⟩
   split
   ·rename_i C m hm;split
    ·exact bG
    ·rename_i a es;refine aE4 ((a::es).all aJ=true) (fun δ h r e=>?_) fun hst=>?_
     ·obtain ⟨p,e1,e⟩:=bind_some e;exact dE _ _ _ _ e1
     have hst':=hst;rw [List.all_cons,Bool.and_eq_true] at hst';rcases G.cls y C m hm with hno | ⟨k,f,fd,ps,hk,hM,F,hmg,hb⟩
     ·refine aE4 False (fun δ h r e=>?_) fun z=>z.elim;obtain ⟨p,e1,e⟩:=bind_some e;unfold xMk at e;dsimp only at e;rw [hno] at e;cases e
     refine bH (bF6 hM F (G.rm.mono hk) hmg hb (cS S G (a::es)) hg (bK hn) (aE hst'.1 _) (cF _ _ _ hst'.2)) fun δ h Q q=>?_;obtain ⟨ws,h1,e1,q⟩:=bF q;refine ⟨ws,h1,e1,?_⟩;obtain ⟨r,h',e,q⟩:=q;unfold xMk at e;obtain ⟨⟨w2,h2⟩,e2,e⟩:=bind_some e;dsimp only at e;split at e
     ·cases e;exact ⟨_,_,e2,rfl,q⟩
     ·cases e
   split
   ·rename_i m hm;split
    ·exact bG
    ·rename_i a es;refine aE4 ((a::es).all aJ=true) (fun δ h r e=>?_) fun hst=>?_
     ·obtain ⟨p,e1,e⟩:=bind_some e;exact dE _ _ _ _ e1
     have hst':=hst;rw [List.all_cons,Bool.and_eq_true] at hst';refine bH (bA8 (G.fn y m hm) G.rm (cS S G (a::es)) hg (bK hn) (aE hst'.1 _) (cF _ _ _ hst'.2)) fun δ h Q q=>?_;obtain ⟨ws,h1,e1,q⟩:=bF q;refine ⟨ws,h1,e1,?_⟩;obtain ⟨r,h',e,q⟩:=q;obtain ⟨p,e2,e3⟩:=bind_some e;cases e3;exact ⟨p.1,p.2,e2,q⟩
   ·split
    ·rename_i hb;split
     ·rename_i g hg';split
      ·exact bG
      ·rename_i a es;refine aE4 ((a::es).all aJ=true) (fun δ h r e=>?_) fun hst=>?_
       ·obtain ⟨p,e1,e⟩:=bind_some e;exact dE _ _ _ _ e1
       have hst':=hst;rw [List.all_cons,Bool.and_eq_true] at hst';rcases bfun_ok G hg' with ⟨id,hv,hcr⟩ | ⟨T,hv,hcr⟩
       ·refine bH (aK8 hcr (G.bl _ hb) (cS S G (a::es)) hv hg (fK hn) (bK hn) (aE hst'.1 _) (cF _ _ _ hst'.2)) fun δ h Q q=>?_;obtain ⟨ws,h1,e1,q⟩:=bF q;exact ⟨ws,h1,e1,q⟩
       ·refine bH (aA6 hcr (G.bl _ hb) (cS S G (a::es)) hv hg (fK hn) (bK hn) (aE hst'.1 _) (cF _ _ _ hst'.2)) fun δ h Q q=>?_;obtain ⟨ws,h1,e1,q⟩:=bF q;exact ⟨ws,h1,e1,q⟩
     ·split
      ·rename_i hx;subst hx;rcases args with _ | ⟨e0,_ | ⟨b,r⟩⟩
       ·exact bG
       ·exact bG
       ·cases b<;>first | exact bG | skip
        case Name T pT =>
         cases r with
         | cons _ _=>exact bG
         | nil =>
          dsimp only;split
          ·rename_i hc;simp only [Bool.and_eq_true] at hc;obtain ⟨⟨⟨h1,h2⟩,h3⟩,h4⟩:=hc;obtain ⟨hnT,hgT⟩:=dO G h2;split
           ·rename_i Ts hT;obtain ⟨hk,hv⟩:=cF8 hT;refine bH (bY8 hk (G.bl _ hb) (G.bl _ h4) (S.E G e0) hv hg hgT (fK hnT) (bK hnT) (aE h1 _) (aE rfl _) (cF _ _ _ rfl)) fun δ h Q q=>?_;obtain ⟨w,h1,e1,q⟩:=bF q;refine ⟨w,h1,e1,?_⟩;obtain ⟨r,h',e,q⟩:=q;obtain ⟨z,e2,e3⟩:=bind_some e;rw [e2];cases e3;exact q
           ·exact bG
          ·exact bG
        case Tuple es k p4 =>
         rcases es with _ | ⟨x1,_ | ⟨x2,_ | ⟨x3,r3⟩⟩⟩
         ·exact bG
         ·cases x1<;>exact bG
         ·cases x1<;>first | exact bG | skip
          cases x2<;>first | exact bG | skip
          rename_i T pT T' pT';cases r with
          | cons _ _=>exact bG
          | nil =>
           dsimp only;split
           ·rename_i hc;simp only [okC,Bool.and_eq_true,decide_eq_true_eq] at hc;obtain ⟨⟨⟨h1,⟨h2,_⟩,h3⟩,⟨h4,_⟩,h5⟩,rfl,rfl⟩:=hc;obtain ⟨hnT,hgT⟩:=dO G h2;obtain ⟨hnU,hgU⟩:=dO G h4;refine bH (bG1 cD2 (G.bl _ hb) (G.bl _ h3) (G.bl _ h5) (S.E G e0) rfl rfl hg hgT hgU (fK hnT) (bK hnT) (fK hnU) (bK hnU) (aE h1 _) (cF _ _ _ rfl)) fun δ h Q q=>?_;obtain ⟨w,h1,e1,q⟩:=bF q;refine ⟨w,h1,e1,?_⟩;obtain ⟨r,h',e,q⟩:=q;obtain ⟨z,e2,e3⟩:=bind_some e;rw [e2];cases e3;exact q
           ·exact bG
         ·cases x1<;>first | exact bG | skip
          cases x2<;>exact bG
      ·exact yF (jZ S G _)
    ·exact bG
  ·exact bG
 ·rename_i o m apos;split
  ·rename_i C g hm;split
   ·exact bG
   ·rename_i a es;split
    ·rename_i hc;simp only [Bool.and_eq_true,decide_eq_true_eq] at hc;obtain ⟨⟨⟨h1,h2⟩,h3⟩,h4⟩:=hc;exact dJ9 S G hm h1 h2 h3 h4
    ·exact bG
  split
  ·rename_i hc;rw [Bool.and_eq_true] at hc;split
   ·exact bG
   ·rename_i a es;split
    ·rename_i hm;subst hm;split
     ·split
      ·rename_i hz;exact cU0 S G hc.1 hc.2 hz
      ·exact bG
     ·exact bG
    split
    ·rename_i hm;subst hm;split
     ·split
      ·rename_i hz;exact cU2 S G hc.1 hc.2 hz
      ·exact bG
     ·exact bG
    split
    ·rename_i hl;split
     ·rename_i g hg;exact aS0 S G hc.1 hc.2 (by simpa using hl) hg
     ·exact bG
    ·exact bG
  ·exact bG
 ·exact bG
def bH2 (h:bG2 e=false):iT e:=by
 intro o i;cases e<;>first | rfl | cases h
def rE (G:aV X st d) (h:okB st x=true):Gl X x/\X.mg x=none:=by
 unfold okB at h;simp only [Bool.and_eq_true] at h;exact ⟨(dO G h.1.1.1).2,G.bl _ h.1.2⟩
def cF9 (S:Snd v) (G:aV X st d) {f:Expr} {args:List Expr}:DE X (.Call f args [] pos) (Of (aP7 v st f args pos)):=by
 cases f<;>first | exact fY S G | skip
 case Name x p =>
  rcases args with _ | ⟨a,_ | ⟨b,r⟩⟩
  ·exact fY S G
  ·cases a<;>first | exact fY S G | skip
   case Call g as kw pos2 =>
    cases g<;>first | exact fY S G | skip
    case Name y p2 =>
     cases kw with
     | cons _ _=>exact fY S G
     | nil =>
      unfold aP7;dsimp only;split
      ·rename_i hxy;obtain ⟨rfl,rfl⟩:=hxy;split
       ·rename_i a;split
        ·rename_i hc;simp only [Bool.and_eq_true] at hc;obtain ⟨⟨h1,h2⟩,h3⟩:=hc;refine bH (bG0 G.calm (rE G h1).1 (rE G h1).2 (rE G h2).1 (rE G h2).2 (cS S G [a]) (aE h3 _)) fun δ h Q q=>?_;obtain ⟨ws,h1,e1,q⟩:=bF q;refine ⟨ws,h1,e1,?_⟩;obtain ⟨r,h',e,q⟩:=q;dsimp only at e;unfold xLS at e;split at e
         ·split at e
          ·rename_i en;split at e
           ·rename_i hl;cases e;exact ⟨_,_,rfl,en,hl,q⟩
           ·cases e
          ·cases e
         ·cases e
        ·exact bG
       ·exact bG
      ·exact fY S G
  ·cases a<;>first | exact fY S G | skip
   case Call g as kw pos2 =>
    cases g<;>first | exact fY S G | skip
    case Name y p2=>cases kw<;>exact fY S G
def cG0 (S:Snd v) (G:aV X st d):∀ e,DE X e (Of (jF v st e)):=fun e=>by
 cases e<;>first | exact bG | skip
 case Name=>exact cE8 G
 case Constant=>exact bG3
 case BinOp a op b p =>
  unfold jF;dsimp only;split
  ·rename_i es p';exact yF (jZ S G (.BinOp (.List es p') .Mult b p))
  ·refine bH (cP0 (bG7 op) (S.E G a) (S.E G b)) fun δ h Q q=>?_;obtain ⟨x,h1,e1,q⟩:=bF q;obtain ⟨y,h2,e2,q⟩:=bF q;exact ⟨x,h1,e1,y,h2,e2,q⟩
 case Compare=>exact aE5 S G
 case BoolOp op vs p=>cases op with
  | And=>exact aR4 S G _
  | Or=>exact bP2 S G _
 case UnaryOp op a p =>
  cases op<;>first | exact bG | skip
  case Not =>
   unfold jF;dsimp only;refine bH (bW6 (S.E G a)) fun δ h Q q=>?_;obtain ⟨w,h1,e1,q⟩:=bF q;refine ⟨w,h1,e1,?_⟩;dsimp only at q ⊢;split at q
   ·exact aU q
   ·exact (bS q).elim
  case USub =>
   unfold jF;dsimp only;refine bH (cB1 (S.E G a)) fun δ h Q q=>?_;obtain ⟨w,h1,e1,q⟩:=bF q;refine ⟨w,h1,e1,?_⟩;dsimp only at q ⊢;split at q
   ·exact aU q
   ·exact (bS q).elim
 case IfExp c a b p =>
  unfold jF;dsimp only;refine bH (aK5 (S.T G c) (S.E G a) (S.E G b)) fun δ h Q q=>?_;obtain ⟨t,h1,e1,q⟩:=bF q;refine ⟨t,h1,e1,?_⟩;dsimp only at q ⊢;split at q
  ·rename_i ht;rw [if_pos ht];exact q
  ·rename_i ht;rw [if_neg ht];exact q
 case Tuple es k p =>
  unfold jF;dsimp only;refine bH (bV7 (cS S G es)) fun δ h Q q=>?_;obtain ⟨xs,h1,e1,q⟩:=bF q;obtain ⟨⟨ws,h2⟩,e2,e3⟩:=bind_some e1;refine ⟨ws,h2,e2,?_⟩;dsimp only at e3 ⊢;split at e3
  ·rename_i ys ey;try rw [ey]
   split at e3
   ·rename_i hl;cases e3;exact ⟨hl,aU q⟩
   ·cases e3
  ·cases e3
 case List=>exact yF (jZ S G _)
 case ListComp=>exact yF (jZ S G _)
 case Subscript a s p =>
  unfold jF;dsimp only;split
  ·rename_i lo hi p2;refine bH (aQ4 (bX4 (S.E G a) (pH S G lo) (pH S G hi)) (aK1 (aK7 (S.E G a) (pH S G lo) (pH S G hi)))) fun δ h Q q=>?_;obtain ⟨x,h1,e1,q⟩:=bF q;obtain ⟨l,h2,e2,q⟩:=bF q;obtain ⟨u,h3,e3,q⟩:=bF q;obtain ⟨r,h',e,q⟩:=q;dsimp only at e;unfold xSl at e;split at e
   ·cases e;exact .inl ⟨_,h1,e1,l,h2,e2,u,_,e3,q⟩
   ·split at e
    ·rename_i xs ex;cases e;refine .inr ⟨x,h1,e1,l,h2,e2,u,_,e3,?_⟩;dsimp only;rw [ex];exact q
    ·cases e
  ·split
   ·exact bG
   ·rename_i hsl;have hs:iT s:=bH2 (by simpa using hsl);split
    ·rename_i f hf;obtain ⟨y,p,pp,rfl,h1,h2,h3,h4⟩:=wI G hf;refine bH (cB2 h4 h3 (S.E G s) h2 (bK h1) hs) fun δ h Q q=>?_;obtain ⟨w,h1,e1,q⟩:=bF q;refine ⟨w,h1,e1,?_⟩;dsimp only at q ⊢;split at q
     ·split at q
      ·rename_i ei;try dsimp only
       try rw [ei]
       exact aU q
      ·exact (bS q).elim
     ·exact (bS q).elim
    ·refine bH (aQ4 (cD0 (S.E G a) (S.E G s) hs) (aF (aJ4 (cT7 G.rm) (S.E G a) (S.E G s) hs) fun _ _ _ q=>sX q)) fun δ h Q q=>?_;obtain ⟨x,h1,e1,q⟩:=bF q;obtain ⟨y,h2,e2,q⟩:=bF q;obtain ⟨r,h',e,q⟩:=q;dsimp only at e;unfold xIx at e;split at e
     ·rename_i xs i ex;obtain ⟨z,e3,e4⟩:=map_some e;cases e4;refine .inl ⟨x,h1,e1,_,h2,e2,.inl ?_⟩;show dIx x _ h2 Q;unfold dIx;rw [ex];dsimp only;rw [e3];exact q
     ·rename_i xs i ex;obtain ⟨z,e3,e4⟩:=map_some e;cases e4;refine .inl ⟨x,h1,e1,_,h2,e2,.inl ?_⟩;show dIx x _ h2 Q;unfold dIx;rw [ex];dsimp only;rw [e3];exact q
     ·rename_i kvs z ex;split at e
      ·rename_i k ek;obtain ⟨p,e3,e4⟩:=map_some e;cases e4;refine .inr ⟨x,h1,e1,_,h2,e2,?_⟩;show bG9 x _ h2 Q;unfold bG9;rw [ex];dsimp only;rw [ek];dsimp only;rw [e3];exact q
      ·cases e
     ·rename_i k ex;unfold xIr at e;split at e
      ·rename_i j;split at e
       ·rename_i is ej;obtain ⟨m,e3,e4⟩:=map_some e;cases e4;refine .inl ⟨_,h1,e1,_,h2,e2,.inr ?_⟩;show bF8 _ _ h2 Q;unfold bF8;dsimp only;rw [ej];dsimp only;rw [e3];exact q
       ·cases e
      ·cases e
     ·cases e
 case Call f args kw p =>
  cases kw with
  | cons _ _=>exact bG
  | nil=>exact cF9 S G
 case Attribute =>
  unfold jF;dsimp only;split
  ·rename_i hz;exact cU1 S G hz
  ·exact bG
 case Dict ks vs p =>
  cases ks with
  | cons _ _=>exact bG
  | nil =>
   cases vs with
   | cons _ _=>exact bG
   | nil=>exact bH aM8 fun δ h Q q=>aU q
def cG1 (S:Snd v) (G:aV X st d):∀ e,DT X e (Of (aP8 v st e)):=fun e=>by
 have val:∀ {e:Expr},(∀ whole,isTrue e X.env whole=(do let v <- whole;standAt e.pos;holding [v] (truthy v)))->DT X e (Of (xb (v.E st e) fun w=>(match w with
  | .d (.bool b)=>aC b
  | _=>xno))):=fun {e} he=>aQ1 (bW0 (S.E G e) he) fun δ h Q q=>by
   obtain ⟨w,h1,e1,q⟩:=bF q;refine ⟨w,h1,e1,?_⟩;dsimp only at q ⊢;split at q
   ·exact aU q
   ·exact (bS q).elim
 cases e<;>first | exact val fun _=>rfl | skip
 case UnaryOp op a p =>
  cases op<;>first | exact val fun _=>rfl | skip
  unfold aP8;dsimp only;refine aQ1 (bW2 (S.T G a)) fun δ h Q q=>?_;obtain ⟨w,h1,e1,q⟩:=bF q;exact ⟨w,h1,e1,aU q⟩
 case BoolOp op vs p=>cases op with
  | And=>exact (aR5 S G _).dt
  | Or=>exact (bP3 S G _).dt
 case Compare=>exact aE6 S G
 case IfExp=>exact kX
end
section
variable {X:Cx} {st:Sta} {d:Nat} {x:Str} {v:Evs} {a b c e:Expr} {es:List Expr} {pos:Pos}
def tX (h:aJ e=true) (env:Env):(assignEach (e::es) env).map (·.2)=assign e env::(assignEach es env).map (·.2):=by
 cases e<;>first | rfl | cases h
theorem mR:∀ (es:List Expr) (env:Env),(assignEach es env).length=es.length
 | [],_=>rfl
 | e::es,env=>by
  cases e<;>(show (assignEach es env).length+1=es.length+1;rw [mR es env])
theorem kP:∀ (es:List Expr) (env:Env),es.all aJ=true->(assignEach es env).findIdx? (·.1)=none
 | [],_,_=>rfl
 | e::es,env,h=>by
  rw [List.all_cons,Bool.and_eq_true] at h;have ih:=kP es env h.2;rw [List.findIdx?_eq_none_iff] at ih ⊢;intro p hp;have:assignEach (e::es) env=(false,assign e env)::assignEach es env:=by cases e<;>first | rfl | cases h.1
  rw [this] at hp;rcases List.mem_cons.mp hp with z | z
  ·rw [z]
  ·exact ih p z
theorem bP4:∀ (es:List Expr) (xs:List PyData) (δ:DSt) (h:aA) (p:DSt×aA),cT0 v st es xs δ h=some p->xs.length=es.length
 | [],[],_,_,_,_=>rfl
 | [],_::_,_,_,_,e=>by cases e
 | _::_,[],_,_,_,e=>by cases e
 | e::es,x::xs,δ,h,p,q=>by
  obtain ⟨⟨δ2,h2⟩,_,q⟩:=bind_some (show (v.G st e (.d x) δ h).bind _=some p from q);rw [List.length_cons,List.length_cons,bP4 es xs _ _ p q]
theorem bP5 (S:Snd v) (G:aV X st d):∀ es,es.all aJ=true->DGs X es (fun xs δ h Q=>∃ δ' h',cT0 v st es xs δ h=some (δ',h')/\Q δ' h')
 | [],_=>iY bB3 fun vs σ H Q ⟨xs,δ,h,A,μ,k,R,r,⟨δ',h',e,q⟩,c⟩=>by
  refine ⟨xs,δ,h,A,μ,k,R,r,?_,c⟩;cases xs with
  | nil=>cases e;exact ⟨rfl,q⟩
  | cons y ys=>cases e
 | e::es,hs=>by
  rw [List.all_cons,Bool.and_eq_true] at hs;refine iY (aL1 (S.G G e) (bP5 S G es hs.2) (tX hs.1 _)) fun vs σ H Q ⟨xs,δ,h,A,μ,k,R,r,⟨δ',h',e,q⟩,c⟩=>?_;refine ⟨xs,δ,h,A,μ,k,R,r,?_,c⟩;cases xs with
  | nil=>cases e
  | cons y ys =>
   obtain ⟨⟨δ2,h2⟩,e1,e⟩:=bind_some e;exact ⟨δ2,h2,e1,δ',h',e,q⟩
def wK {o i:Expr} (h:bG2 i=false) (env:Env) (v:Value):assign (.Subscript o i pos) env v=(do
   let ov <- holding [v] (eval o env)
   let iv <- holding [v,ov] (eval i env)
   standAt pos
   holding [v,ov,iv] (setItem ov iv v)
   release [v,ov,iv] []):=by
 cases i<;>first | rfl | cases h
def cG2 (S:Snd v) (G:aV X st d):∀ e,DG X e (OfG (tR v st e)):=fun e=>by
 cases e<;>first | exact aD9 fun _ _ _=>rfl | skip
 case Name =>
  unfold tR;dsimp only;split
  ·rename_i i hi;split
   ·rename_i hc;rw [Bool.and_eq_true] at hc;refine cE5 (bB2 (i:=i) (by rw [G.N];exact G.nd) (fW G hi) (mN G hc.1) (aQ6 G hc.2)) fun w δ h Q q=>?_;obtain ⟨δ',h',e,q⟩:=q;cases e;exact q
   ·exact aD9 fun _ _ _=>rfl
  ·exact aD9 fun _ _ _=>rfl
 case Tuple es k p =>
  unfold tR;dsimp only
  by_cases hs:es.all aJ=true
  ·rw [if_pos hs];refine cE5 (bX9 (n:=es.length) G.calm (bP5 S G es hs) (mR _ _) (kP _ _ hs)) fun w δ h Q q=>?_;obtain ⟨δ',h',e,q⟩:=q;unfold dQ at e;unfold aK9;split at e
   ·rename_i xs;exact ⟨bP4 es xs δ h _ e,δ',h',e,q⟩
   ·cases e
  ·rw [if_neg hs];exact aD9 fun w δ h=>rfl
 case Subscript o i p =>
  unfold tR;dsimp only;split
  ·exact aD9 fun _ _ _=>rfl
  ·rename_i hsl;refine cE5 (bF2 (S.E G o) (S.E G i) (wK (by simpa using hsl) _)) fun w δ h Q q=>?_;obtain ⟨δ',h',e,q⟩:=q;dsimp only at e;obtain ⟨⟨u,h1⟩,e1,e⟩:=bind_some e;obtain ⟨⟨z,h2⟩,e2,e⟩:=bind_some e;refine ⟨u,h1,e1,z,h2,e2,?_⟩;dsimp only at e ⊢;split at e
   ·split at e
    ·rename_i xs ex;obtain ⟨n,e3,e4⟩:=map_some e;cases e4;try dsimp only
     try rw [ex]
     try dsimp only
     try rw [e3]
     exact q
    ·rename_i kvs ex;split at e
     ·rename_i hk;cases e;try dsimp only
      try rw [ex]
      try dsimp only
      exact ⟨hk.1,hk.2,q⟩
     ·cases e
    ·cases e
   ·cases e
theorem pJ (S:Snd v) (G:aV X st d):∀ ss,DSs X ss (OfS (xSs v st ss))
 | []=>bO9 bA9 fun E δ h q=>by
  obtain ⟨fl,h',e,q⟩:=q;cases e;exact q
 | s::r=>bO9 (aL0 (S.S G s) (pJ S G r)) fun E δ h q=>by
  obtain ⟨fl,h',e,q⟩:=q;obtain ⟨⟨f1,h1⟩,e1,e⟩:=bind_some e;refine ⟨f1,h1,e1,?_⟩;dsimp only at e;cases f1 with
  | nx δ'=>exact ⟨fl,h',e,q⟩
  | rt w=>cases e;exact q
  | bk δ'=>cases e;exact q
  | ct δ'=>cases e;exact q
theorem rF {g:XG} {tb:XS} {c:Option Nat} {all:List PyData} {E:DEnds}:∀ (rest:List PyData) (δ:DSt) (h:aA) (fl:Fl) (h':aA),bC g tb c all rest δ h=some (fl,h')->bO8 E h' fl->aB1 (OfG g) (OfS tb) c all rest E δ h
 | [],δ,h,fl,h',e,q=>by
  unfold bC at e;split at e
  ·rename_i hc;cases e;exact ⟨hX hc,q⟩
  ·cases e
 | x::rest,δ,h,fl,h',e,q=>by
  unfold bC at e;split at e
  ·rename_i hc;obtain ⟨⟨δ2,h2⟩,e1,e⟩:=bind_some e;obtain ⟨⟨f2,h3⟩,e2,e⟩:=bind_some e;refine ⟨hX hc,δ2,h2,e1,f2,h3,e2,?_⟩;dsimp only at e;cases f2 with
   | nx δ'=>exact rF rest δ' h3 fl h' e q
   | ct δ'=>exact rF rest δ' h3 fl h' e q
   | bk δ'=>cases e;exact q
   | rt w=>cases e;exact q
  ·cases e
def aS1:DS X (.Break pos) (OfS fun δ h=>some (.bk δ,h)):=bV aI0 fun D σ H q=>by
 obtain ⟨δ,h,A,μ,E,R,⟨fl,h',e,q⟩,L⟩:=q;cases e;exact L.bk δ _ σ H A μ q .refl R
def tY:DS X (.Continue pos) (OfS fun δ h=>some (.ct δ,h)):=bV sK fun D σ H q=>by
 obtain ⟨δ,h,A,μ,E,R,⟨fl,h',e,q⟩,L⟩:=q;cases e;exact L.ct δ _ σ H A μ q .refl R
def mS (h:jY e=false) (t:Option Expr) (l:Nat) (env:Env):swapsWith e t l env=pure false:=by
 cases e<;>first | rfl | cases h
def aS2 (G:aV X st d):X.env.blockKind=.function:=by
 unfold Env.blockKind;rw [G.S,G.kind];rfl
def tZ (G:aV X st d) {elt:Expr} {gs:List Comprehension} {sc:Scope} {p px:Pos} {l:Nat} :
  swapsWith (.ListComp elt gs sc p) (some (.Name x px)) l X.env=pure (swB st (.ListComp elt gs sc p) x px):=by
 show (pure (X.env.blockKind==.function&&X.env.kindOf x==some .local&&px.line==p.line&&!(sc.names.any fun (n,k)=>n==x&&(k==.local||k==.cell))):Sem Bool)=_;unfold swB;dsimp only;have e1:(X.env.blockKind==.function)=true:=by rw [aS2 G];rfl
 have e2:(X.env.kindOf x==some .local)=eQ st.S x:=by
  unfold Env.kindOf eQ;rw [G.S];cases q:st.S.names.lookup x with
  | none=>rfl
  | some k=>cases k<;>rfl
 rw [e1,e2,Bool.true_and]
def uA {i:Nat} {px:Pos} {y:XR W} {te:DTE} (hd:DS X (.Assign [.Name x px] e pos) (aA8 te (oK i))) (m:∀ δ h Q,Of y δ h Q->te δ h Q):DS X (.Assign [.Name x px] e pos) (OfS (aQ i y)):=qZ hd fun E δ h q=>by
 obtain ⟨fl,h',e,q⟩:=q;obtain ⟨⟨w,h1⟩,e1,e⟩:=bind_some e;cases e;exact m δ h _ ⟨w,h1,e1,q⟩
def rG {y:XR (List PyData)} (δ:DSt) (h:aA) (Q:DK) (q:Of (bZ y) δ h Q):bV6 (Of y) δ h Q:=by
 obtain ⟨w,h',e,q⟩:=q;obtain ⟨p,e1,e2⟩:=bind_some e;cases e2;exact ⟨p.1,p.2,e1,q⟩
def cG3 {y:XR (List PyData)} (δ:DSt) (h:aA) (Q:DK) (q:Of (aK y) δ h Q):bV5 (Of y) δ h Q:=by
 obtain ⟨w,h',e,q⟩:=q;obtain ⟨p,e1,e2⟩:=bind_some e;cases e2;exact ⟨p.1,p.2,e1,q⟩
def bH3 (S:Snd v) (G:aV X st d) {i:Nat} {px:Pos} (hi:slot st x=some i) (hl:wE st.S x=true) (hf:(st.top||eQ st.S x)=true) (hc:jY e=true) (hs:(swB st e x px||!(eQ st.S x))=true) :
  DFS X i (.Assign [.Name x px] e pos) (Of (dI v st e)):=by
 have no:∀ {e:Expr},(∀ δ h,dI v st e δ h=none)->DFS X i (.Assign [.Name x px] e pos) (Of (dI v st e)):=fun {e} n pins s σ H D I q=>by
  obtain ⟨δ,h,A,μ,k,R,⟨r,h',e,_⟩,c⟩:=q;rw [n] at e;cases e
 cases e with
 | ListComp elt gs sc p =>
  by_cases hw:swB st (.ListComp elt gs sc p) x px=true
  ·match gs with
   | [⟨tg,iter,ifs,a⟩] =>
    by_cases ha:a=0
    ·subst ha;have e0:dI v st (.ListComp elt [⟨tg,iter,ifs,0⟩] sc p)=pG v st elt tg iter ifs sc:=rfl;rw [e0];unfold pG;split
     ·rename_i hc;rw [Bool.and_eq_true] at hc;have hset:kN iter=false:=by simpa using hc.2
      have hloc:st.S.names.lookup x=some .local:=by
       unfold swB at hw;simp only [Bool.and_eq_true] at hw;exact tT hw.1.1
      refine bV (aL6 (by rw [G.N];exact G.nd) G.xe G.calm G.S G.N (lN hc.1) (rA S G iter) (fun cl C s H fp=>S.G (cT G hc.1 cl C s H fp) tg) (fun cl C s H fp=>wJ S (cT G hc.1 cl C s H fp) ifs)
       (fun cl C s H fp=>S.E (cT G hc.1 cl C s H fp) elt) (fW G hi) (by rw [G.S];exact hloc) (by rw [tZ G,hw]) (rB hset _)) fun D σ H q=>?_
      obtain ⟨δ,h,A,μ,k,R,⟨r,h',e,q⟩,c⟩:=q;refine ⟨δ,h,A,μ,k,R,?_,c⟩;obtain ⟨⟨⟨xs,c⟩,h1⟩,e1,e⟩:=bind_some e;exact ⟨xs,c,h1,e1,jG _ _ _ _ _ _ e q⟩
     ·exact fun pins s σ H D I q=>by
       obtain ⟨δ,h,A,μ,k,R,q,c⟩:=q;exact (bS q).elim
    ·exact no fun δ h=>by
      show (if a=0 then pG v st elt tg iter ifs sc else xno) δ h=none;rw [if_neg ha];rfl
   | []=>exact no fun _ _=>rfl
   | ⟨_,_,_,_⟩::_::_=>exact no fun _ _=>rfl
  ·have hw':swB st (.ListComp elt gs sc p) x px=false:=by simpa using hw
   exact aL2 (by rw [G.N];exact G.nd) (jZ S G _) (fW G hi) (mN G hl) (by rw [tZ G,hw']) (aQ6 G hf)
 | SetComp elt gs sc p=>exact no fun _ _=>rfl
 | DictComp k w gs sc p=>exact no fun _ _=>rfl
 | _=>cases hc
def wL {tg:Expr} (h:cE4 e tg=false) (env:Env):swappedStores [tg] e env=pure none:=by
 cases tg<;>first | rfl | (cases e<;>first | rfl | cases h)
def bH4 (h:∀ t p,e≠.Starred t p) (env:Env):(assignEach [e] env).map (·.2)=[assign e env]:=by
 cases e<;>first | rfl | exact absurd rfl (h _ _)
theorem kA {g:XG} {tt:XR Bool} {te:XR W} {c:Option Nat} {all:List PyData} {Q:List Nat->aA->Prop}:∀ (rest:List PyData) (δ:DSt) (h:aA) (ac r:List Nat) (h':aA),dD g tt te c all rest δ h ac=some (r,h')->Q r h'->tN (OfG g) (Of tt) (Of te) c all rest δ h ac Q
 | [],δ,h,ac,r,h',e,q=>by
  unfold dD at e;split at e
  ·rename_i hc;cases e;exact ⟨hX hc,q⟩
  ·cases e
 | x::rest,δ,h,ac,r,h',e,q=>by
  unfold dD at e;split at e
  ·rename_i hc;obtain ⟨⟨δ2,h2⟩,e1,e⟩:=bind_some e;obtain ⟨⟨b,h3⟩,e2,e⟩:=bind_some e;dsimp only at e;refine ⟨hX hc,δ2,h2,e1,b,h3,e2,?_⟩;split at e
   ·rename_i hb;rw [if_pos hb];obtain ⟨⟨w,h4⟩,e3,e⟩:=bind_some e;dsimp only at e;refine ⟨w,h4,e3,?_⟩;split at e
    ·exact kA rest δ2 h4 _ r h' e q
    ·cases e
   ·rename_i hb;rw [if_neg hb];exact kA rest δ2 h3 _ r h' e q
  ·cases e
def cU3 (S:Snd v) (G:aV X st d):DE X e (Of (cE3 v st e)):=by
 cases e<;>first | exact S.E G _ | skip
 case ListComp elt gs sc p =>
  cases elt<;>first | exact S.E G _ | skip
  case List es lp =>
   rcases es with _ | ⟨e1,r1⟩
   ·rcases gs with _ | ⟨⟨tg,iter,ifs,a⟩,_ | ⟨g2,r⟩⟩
    ·exact S.E G _
    ·unfold cE3;dsimp only;split
     ·rename_i ha;subst ha;unfold aQ0;split
      ·rename_i hc;rw [Bool.and_eq_true] at hc;have hset:kN iter=false:=by simpa using hc.2
       refine bH (aO8 G.xe G.calm G.S G.N (lN hc.1) (rA S G iter) (fun cl C s H fp=>S.G (cT G hc.1 cl C s H fp) tg) (fun cl C s H fp=>wJ S (cT G hc.1 cl C s H fp) ifs) (fun cl C s H fp=>bH (aK2 (cF6 S (cT G hc.1 cl C s H fp) (es:=[]))) fun δ h Q q=>rG δ h Q q) (rB hset _)) fun δ h Q q=>?_;obtain ⟨r,h',e,q⟩:=q;obtain ⟨⟨⟨xs,c⟩,h1⟩,e1,e⟩:=bind_some e;obtain ⟨⟨is,h2⟩,e2,e3⟩:=bind_some e;cases e3;exact ⟨xs,c,h1,e1,kA _ _ _ _ _ _ e2 q⟩
      ·exact bG
     ·exact bG
    ·exact S.E G _
   ·exact S.E G _
def cG4 (S:Snd v) (G:aV X st d) {o:Expr} {f:Str} {pa pos:Pos}:DS X (.Assign [.Attribute o f pa] e pos) (OfS (bO7 v st o f e)):=by
 refine qZ (cC9 (S.E G o) (cU3 S G) (by cases e<;>rfl)) fun E δ h q=>?_;obtain ⟨fl,h',e',q⟩:=q;obtain ⟨⟨w,h1⟩,e1,e'⟩:=bind_some e';obtain ⟨⟨u,h2⟩,e2,e'⟩:=bind_some e';refine ⟨w,h1,e1,u,h2,e2,?_⟩;dsimp only at e' ⊢;split at e'
 ·rename_i j;split at e'
  ·rename_i C fs ej;split at e'
   ·rename_i hz;cases e';obtain ⟨h5,h6⟩:=G.fo C f hz.1;try dsimp only
    try rw [ej]
    exact ⟨h5,h6,hz.2,q⟩
   ·cases e'
  ·cases e'
 ·cases e'
def cU4 (S:Snd v) (G:aV X st d) {tg e:Expr} {p:Pos}:DS X (.Assign [tg] e p) (OfS (if (jY e||cE4 e tg||!(aJ tg))=true then fun _ _=>none else fun δ h=>(v.E st e δ h).bind fun p=>(v.G st tg p.1 δ p.2).bind fun q=>some (.nx q.1,q.2))):=by
 split
 ·exact kY fun _ _=>rfl
 ·rename_i hc;simp only [Bool.or_eq_true,not_or,Bool.not_eq_true,Bool.not_eq_true',Bool.not_eq_false] at hc;have hst:aJ tg=true:=by simpa using hc.2
  refine qZ (bY0 (S.E G e) (S.G G tg) (mS hc.1.1 _ _ _) (wL hc.1.2 _) (bH4 (fun t p z=>by rw [z] at hst;cases hst) _)) fun E δ h q=>?_;obtain ⟨fl,h',e,q⟩:=q;obtain ⟨⟨w,h1⟩,e1,e⟩:=bind_some e;obtain ⟨⟨δ2,h2⟩,e2,e⟩:=bind_some e;cases e;exact ⟨w,h1,e1,δ2,_,e2,q⟩
def cG5 (S:Snd v) (G:aV X st d):∀ s,DS X s (OfS (mM v st s)):=fun s=>by
 cases s<;>first | exact kY fun _ _=>rfl | skip
 case Return o p =>
  cases o with
  | none=>exact kY fun _ _=>rfl
  | some e =>
   unfold mM;dsimp only;refine qZ (bX8 (S.E G e)) fun E δ h q=>?_;obtain ⟨fl,h',e,q⟩:=q;obtain ⟨⟨w,h1⟩,e1,e⟩:=bind_some e;cases e;exact ⟨w,_,e1,q⟩
 case Assign ts e p =>
  cases ts with
  | nil=>exact kY fun _ _=>rfl
  | cons tg r =>
   cases r with
   | cons _ _=>exact kY fun _ _=>by cases tg<;>rfl
   | nil =>
    cases tg
    case Name y px =>
     unfold mM;dsimp only;split
     ·rename_i i hi;split
      ·rename_i hc;rw [Bool.and_eq_true] at hc;split
       ·rename_i hcm;split
        ·rename_i hw;have hfs:=bH3 S G hi hc.1 hc.2 hcm hw (pos:=p);split
         ·exact uA (aL3 hfs) rG
         ·exact uA (bY2 hfs) cG3
        ·exact kY fun _ _=>rfl
       ·rename_i hcm;have hsw:∀ t l,swapsWith e t l X.env=pure false:=fun t l=>mS (by simpa using hcm) _ _ _;split
        ·rename_i hz;rw [Bool.and_eq_true] at hz;have hd:∃ pp,e=.Dict [] [] pp:=by
          unfold cT1 at hz;have:=hz.2;split at this
          ·exact ⟨_,rfl⟩
          ·cases this
         obtain ⟨pp,rfl⟩:=hd;refine uA (bF3 (by rw [G.N];exact G.nd) (fW G hi) (mN G hc.1) (hsw _ _) (aQ6 G hc.2)) fun δ h Q q=>?_;obtain ⟨w,h',e,q⟩:=q;cases e;exact q
        split
        ·exact uA (aL3 (aL2 (by rw [G.N];exact G.nd) (S.F G e) (fW G hi) (mN G hc.1) (hsw _ _) (aQ6 G hc.2))) rG
        ·exact uA (bY1 (by rw [G.N];exact G.nd) (S.E G e) (fW G hi) (mN G hc.1) (hsw _ _) (aQ6 G hc.2)) fun _ _ _ q=>q
      ·exact kY fun _ _=>rfl
     ·exact kY fun _ _=>rfl
    case Attribute=>exact cG4 S G
    all_goals exact cU4 S G
 case For tg iter body o p =>
  cases o with
  | cons _ _=>exact kY fun _ _=>rfl
  | nil =>
   unfold mM;dsimp only;split
   ·exact kY fun _ _=>rfl
   ·rename_i hs;refine qZ (bY5 G.xe G.calm (rA S G iter) (S.G G tg) (pJ S G body) (rB (by simpa using hs) _)) fun E δ h q=>?_;obtain ⟨fl,h',e,q⟩:=q;obtain ⟨⟨⟨xs,c⟩,h1⟩,e1,e⟩:=bind_some e;exact ⟨xs,c,h1,e1,rF _ _ _ _ _ e q⟩
 case If c a b p =>
  unfold mM;dsimp only;refine qZ (cQ4 (S.T G c) (pJ S G a) (pJ S G b)) fun E δ h q=>?_;obtain ⟨fl,h',e,q⟩:=q;obtain ⟨⟨t,h1⟩,e1,e⟩:=bind_some e;refine ⟨t,h1,e1,?_⟩;dsimp only at e ⊢;split at e
  ·rename_i ht;rw [if_pos ht];exact ⟨fl,h',e,q⟩
  ·rename_i ht;rw [if_neg ht];exact ⟨fl,h',e,q⟩
 case Expr e p =>
  unfold mM;dsimp only;split
  ·exact kY fun _ _=>rfl
  ·rename_i hc;refine qZ (bB1 (S.E G e) (mS (by simpa using hc) _ _ _)) fun E δ h q=>?_;obtain ⟨fl,h',e,q⟩:=q;obtain ⟨⟨w,h1⟩,e1,e⟩:=bind_some e;cases e;exact ⟨w,_,e1,q⟩
 case Pass =>
  refine qZ bB0 fun E δ h q=>?_;obtain ⟨fl,h',e,q⟩:=q;cases e;exact q
 case Break=>exact aS1
 case Continue=>exact tY
end
def aS3 {v:Evs} (S:Snd v):Snd (step v):=⟨fun G=>cG0 S G,fun G=>cG1 S G,fun G=>jZ S G,fun G=>cG2 S G,fun G=>cG5 S G⟩
def cG6:Snd Evs.no:=⟨fun _ _=>bG,fun _ _=>kX,fun _ _=>iB,fun _ _=>aD9 fun _ _ _=>rfl,fun _ _=>kY fun _ _=>rfl⟩
theorem rH:∀ n,Snd (evs n)
 | 0=>cG6
 | n+1=>aS3 (rH n)
def jH {s:Stmt} (h:fnB s=true):FnScope (iP s) (aR s) (aH s):=by
 unfold fnB at h;simp only [Bool.and_eq_true,decide_eq_true_eq,List.all_eq_true,Bool.not_eq_true'] at h;obtain ⟨h1,h2,h3,h4,h5,h6⟩:=h;refine ⟨h1,h2,h3,h4,?_,fun x hx=>?_,fun y hy e=>?_⟩
 ·unfold iP;rw [List.take_left'];rfl
 ·have:=h5 x hx;unfold wE at this;split at this
  ·rename_i q;exact .inl q
  ·rename_i q;exact .inr q
  ·cases this
 ·have:=h6 y hy;rw [e] at this;cases this
section
variable {P:Program} {w:World} {K:Frag} {mg:Str->Option Value} {base:Heap}
structure TopOk (t:Top) (P:Program) (w:World) (K:Frag) (mg:Str->Option Value) (base:Heap):Prop where
 bl:∀ x,t.bl.contains x=true->mg x=none
 gc:∀ x z,t.gc x=some z->∃ v u,mg x=some u/\RelV v u/\∀ A H,Rep K A H z v
 tk:∀ x f,t.tk x=some f->∃ p,mg x=some (.ref p)/\TabK w K p f
 defs:∀ x s,t.defs x=some s->∃ f fd,Fun K x x s f fd/\mg x=some (.ref f)/\Binds K fd (aR s) []
 ini:∀ x C s,t.ini x=some (C,s)->∃ n q f fd,Fun K n q s f fd/\Mk K C f/\mg x=some (.ref C)/\Binds K fd (aR s) []
 mt:∀ x C s,t.mt x=some (C,s)->Cls K C/\∃ n q f fd,Fun K n q s f fd/\Meth K C x f/\Binds K fd (aR s) []
 fo:∀ C f,t.fo C f=true->Cls K C/\NoAttr K C f
structure TabOk (P:Program) (w:World) (K:Frag) (mg:Str->Option Value) (base:Heap) (d:Nat) (fn:Str->Option XF) (ob:ObS):Prop where
 fn:∀ x m,fn x=some m->DFn P w K mg base d x (nN m)
 fnW:∀ x m,ob.fnW x=some m->DFnW P w K mg base d x (gG m)
 cls:∀ x C m,ob.cls x=some (C,m)->(∀ ws h,m ws h=none)\/∃ k f fd ps,k+1<=d/\Mk K C f/\FnOk P w K mg base CX0 k f fd ps (dH K (gG m))/\mg x=some (.ref C)/\Binds K fd ps []
 om:∀ x C m,ob.om x=some (C,m)->Cls K C/\∃ f fd ps,Meth K C x f/\FnOk P w K mg base CX0 d f fd ps (dH K (gG m))/\Binds K fd ps []
 fo:∀ C f,ob.fo C f=true->Cls K C/\NoAttr K C f
def yH {t:Top} {fn:Str->Option XF} {ob:ObS} {x q:Str} {s:Stmt} {f:Addr} {k:Nat} {cdv:Value} {A:Around} {outer:List Env} {s':Shared} {H:Hp} {E:XK} (T:TopOk t P w K mg base) (B:TabOk P w K mg base k fn ob) (hb:fnB s=true) (hr:Room k (A.deeper (envOfC q (aH s) s'.heap.objs.size f cdv))) :
  aV ((qH CX0 P w K mg base (iP s) q (aH s) f cdv A outer s' H E).nox) (t.sta fn ob x s) k :=
 ⟨T.bl,T.gc,T.tk,B.fn,rfl,rfl,(jH hb).nd,rfl,rfl,hr,fun _ _=>rfl,(jH hb).kind,B.fnW,B.cls,B.om,B.fo⟩
def bP6 {t:Top} {fn:Str->Option XF} {ob:ObS} {x n q:Str} {s:Stmt} {f:Addr} {fd:FuncData} {k:Nat} (T:TopOk t P w K mg base) (F:Fun K n q s f fd) (B:TabOk P w K mg base k fn ob) :
  FnOk P w K mg base CX0 (k+1) f fd (aR s) (mC K (nN (kO t fn ob x s))):=by
 by_cases hb:fnB s=true
 ·refine dfn F (jH hb) (fun ws h kk ⟨z,h',e,_⟩=>?_) fun cdv A outer s' H E hcd hr=>?_
  ·unfold kO at e;split at e
   ·rename_i hc;exact hc.2
   ·cases e
  ·refine ⟨_,pJ (rH t.deep) (yH (x:=x) T B hb hr) _,fun ws h kk ⟨z,h',e,q⟩=>?_⟩;unfold kO at e;split at e
   ·obtain ⟨⟨fl,h1⟩,e1,e2⟩:=bind_some e;refine ⟨fl,h1,e1,?_⟩;unfold ends at e2;dsimp only at e2;split at e2
    ·rename_i ok;cases fl with
     | nx δ=>cases e2;exact ⟨ok,q⟩
     | bk δ=>cases e2
     | ct δ=>cases e2
     | rt w =>
      refine ⟨ok,?_⟩;cases w with
      | d z=>cases e2;exact q
      | v u=>cases e2
      | c i =>
       show (match h1[i]? with
        | some (.l xs)=>h.length<=i/\kk (.list xs) (h1.take h.length)
        | some (.k kvs)=>h.length<=i/\kk (.dict kvs) (h1.take h.length)
        | _=>False)
       dsimp only at e2;split at e2
       ·rename_i xs ex;try rw [ex]
        split at e2
        ·rename_i hi;cases e2;exact ⟨hi,q⟩
        ·cases e2
       ·rename_i xs ex;try rw [ex]
        split at e2
        ·rename_i hi;cases e2;exact ⟨hi,q⟩
        ·cases e2
       ·cases e2
    ·cases e2
   ·cases e
 ·have no:∀ ws h kk,¬ nN (kO t fn ob x s) ws h kk:=fun ws h kk ⟨z,h',e,_⟩=>by
   unfold kO at e;rw [if_neg fun z=>hb z.1] at e;cases e
  exact ⟨fun vs H Q E ⟨_,_,_,_,_,_,_,q,_⟩=>(no _ _ _ q).elim,fun A outer s H args us vs Q E _ _ _ _ ⟨_,_,_,_,_,_,_,q,_⟩=>(no _ _ _ q).elim⟩
def aS4 {t:Top} {fn:Str->Option XF} {ob:ObS} {x n q:Str} {s:Stmt} {f:Addr} {fd:FuncData} {k:Nat} (T:TopOk t P w K mg base) (F:Fun K n q s f fd) (B:TabOk P w K mg base k fn ob) :
  FnOk P w K mg base CX0 (k+1) f fd (aR s) (dH K (gG (gR t fn ob x s))):=by
 by_cases hb:fnB s=true
 ·refine dJ3 F (jH hb) (fun ws h kk ⟨z,h',e,_⟩=>?_) fun cdv A outer s' H E hcd hr=>?_
  ·unfold gR at e;split at e
   ·rename_i hc;exact hc.2
   ·cases e
  ·refine ⟨_,pJ (rH t.deep) (yH (x:=x) T B hb hr) _,fun ws h kk ⟨z,h',e,q⟩=>?_⟩;unfold gR at e;split at e
   ·obtain ⟨⟨fl,h1⟩,e1,e2⟩:=bind_some e;refine ⟨fl,h1,e1,?_⟩;unfold iG at e2;dsimp only at e2;cases fl with
    | nx δ=>cases e2;exact q
    | bk δ=>cases e2
    | ct δ=>cases e2
    | rt w=>cases e2;exact q
   ·cases e
 ·have no:∀ ws h kk,¬ gG (gR t fn ob x s) ws h kk:=fun ws h kk ⟨z,h',e,_⟩=>by
   unfold gR at e;rw [if_neg fun z=>hb z.1] at e;cases e
  exact ⟨fun vs H Q E ⟨_,_,_,_,_,_,_,q,_⟩=>(no _ _ _ q).elim,fun A outer s H args us vs Q E _ _ _ _ ⟨_,_,_,_,_,_,_,q,_⟩=>(no _ _ _ q).elim⟩
def bP7 {m:XFW} (hm:∀ ws h,m ws h=none) {f:Addr} {fd:FuncData} {ps:List Str} {d:Nat}:FnOk P w K mg base CX0 d f fd ps (dH K (gG m)):=by
 have no:∀ ws h kk,¬ gG m ws h kk:=fun ws h kk ⟨z,h',e,_⟩=>by rw [hm] at e;cases e
 exact ⟨fun vs H Q E ⟨_,_,_,_,_,_,_,q,_⟩=>(no _ _ _ q).elim,fun A outer s H args us vs Q E _ _ _ _ ⟨_,_,_,_,_,_,_,q,_⟩=>(no _ _ _ q).elim⟩
abbrev yI (t:Top) (P:Program) (w:World) (K:Frag) (mg:Str->Option Value) (base:Heap) (d:Nat):Prop:=TabOk P w K mg base d (fnT t fun y=>aD t d y) (obT t (fun y=>callW t d y) (fun y=>callI t d y) fun y=>callM t d y)
def uB {t:Top} (T:TopOk t P w K mg base):yI t P w K mg base 0:=by
 refine ⟨fun x m e=>?_,fun x m e=>?_,fun x C m e=>?_,fun x C m e=>?_,T.fo⟩
 ·obtain ⟨s,hs,rfl⟩:=map_some e;obtain ⟨f,fd,F,hm,hb⟩:=T.defs x s hs;have no:∀ ws h kk,¬ nN (aD t 0 x) ws h kk:=fun ws h kk ⟨z,h',e,_⟩=>nomatch e
  exact ⟨f,fd,aR s,⟨fun vs H Q E ⟨_,_,_,_,_,_,_,q,_⟩=>(no _ _ _ q).elim,fun A outer s H args us vs Q E _ _ _ _ ⟨_,_,_,_,_,_,_,q,_⟩=>(no _ _ _ q).elim⟩,hm,F.kp,hb⟩
 ·dsimp only at e;split at e
  ·obtain ⟨s,hs,rfl⟩:=map_some e;obtain ⟨f,fd,F,hm,hb⟩:=T.defs x s hs;exact ⟨f,fd,aR s,bP7 fun _ _=>rfl,hm,F.kp,hb⟩
  ·cases e
 ·obtain ⟨p,hs,e2⟩:=map_some e;cases e2;exact .inl fun _ _=>rfl
 ·obtain ⟨⟨C',s⟩,hs,e2⟩:=map_some e;cases e2;obtain ⟨hc,n,q,f,fd,F,hM,hb⟩:=T.mt x _ s hs;exact ⟨hc,f,fd,aR s,hM,bP7 fun _ _=>rfl,hb⟩
def uC {t:Top} (T:TopOk t P w K mg base) {d:Nat} (B:yI t P w K mg base d) (hI:∀ x C s,t.ini x=some (C,s)->(∀ ws h,callI t (d+1) x ws h=none)\/∃ k f fd ps,k+1<=d+1/\Mk K C f/\FnOk P w K mg base CX0 k f fd ps (dH K (gG (callI t (d+1) x)))/\mg x=some (.ref C)/\Binds K fd ps []):yI t P w K mg base (d+1):=by
 refine ⟨fun x m e=>?_,fun x m e=>?_,fun x C m e=>?_,fun x C m e=>?_,T.fo⟩
 ·obtain ⟨s,hs,rfl⟩:=map_some e;obtain ⟨f,fd,F,hm,hb⟩:=T.defs x s hs;have e:aD t (d+1) x=kO t (fnT t fun y=>aD t d y) (obT t (fun y=>callW t d y) (fun y=>callI t d y) fun y=>callM t d y) x s:=by
   rw [aD,hs]
  dsimp only;rw [e];exact bY6 (bP6 T F B) hm F hb
 ·dsimp only at e;split at e
  ·obtain ⟨s,hs,rfl⟩:=map_some e;obtain ⟨f,fd,F,hm,hb⟩:=T.defs x s hs;have e:callW t (d+1) x=gR t (fnT t fun y=>aD t d y) (obT t (fun y=>callW t d y) (fun y=>callI t d y) fun y=>callM t d y) x s:=by
    rw [callW,hs]
   try dsimp only
   rw [e];exact ⟨f,fd,aR s,aS4 T F B,hm,F.kp,hb⟩
  ·cases e
 ·obtain ⟨⟨C',s⟩,hs,e2⟩:=map_some e;cases e2;exact hI x _ s hs
 ·obtain ⟨⟨C',s⟩,hs,e2⟩:=map_some e;cases e2;obtain ⟨hc,n,q,f,fd,F,hM,hb⟩:=T.mt x _ s hs;have e:callM t (d+1) x=gR t (fnT t fun y=>aD t d y) (obT t (fun y=>callW t d y) (fun y=>callI t d y) fun y=>callM t d y) x s:=by
   rw [callM,hs]
  dsimp only;rw [e];exact ⟨hc,f,fd,aR s,hM,aS4 T F B,hb⟩
theorem wM {t:Top} (T:TopOk t P w K mg base):∀ d,yI t P w K mg base d
 | 0=>uB T
 | 1=>uC T (uB T) fun x C s _=>.inl fun _ _=>rfl
 | d+2=>uC T (wM T (d+1)) fun x C s hs=>by
  obtain ⟨n,q,f,fd,F,hM,hm,hb⟩:=T.ini x C s hs;have e:callI t (d+2) x=gR t (fnT t fun y=>aD t d y) (obT t (fun y=>callW t d y) (fun y=>callI t d y) fun y=>callM t d y) x s:=by
   rw [callI,hs]
  refine .inr ⟨d+1,f,fd,aR s,Nat.le_refl _,hM,?_,hm,hb⟩;show FnOk P w K mg base CX0 (d+1) f fd (aR s) (dH K (gG (callI t (d+2) x)));rw [e];exact aS4 T F (wM T d)
end
noncomputable def aS5 (x:Str):Stmt->Bool
 | .FunctionDef n _ _ _ _ _ _ _ _ _=>n==x
 | _=>false
noncomputable def wN (b:List Stmt) (x:Str):Option Stmt:=b.find? (aS5 x)
noncomputable def aS6:Nat->Expr->Option PyData
 | _,.Constant (.int i) _ _=>some (.int i)
 | _,.Constant (.str x) _ _=>some (.str x)
 | _,.Constant (.bool x) _ _=>some (.bool x)
 | _,.Constant .none _ _=>some .none
 | n+1,.Tuple es _ _=>(es.mapM (aS6 n)).map .tuple
 | _,_=>none
noncomputable def cG7 (b:List Stmt) (x:Str):Option PyData:=b.findSome? fun s=>match s with
 | .Assign [.Name y _] e _=>if y==x&&!(x==("__name__":Str)) then aS6 4 e else none
 | _=>none
noncomputable def cG8:List (Option Expr)->List Expr->Option (List (Str×Int))
 | [],[]=>some []
 | some (.Constant (.str x) _ _)::ks,.Constant (.int i) _ _::vs=>(cG8 ks vs).map ((x,i)::·)
 | _,_=>none
noncomputable def cG9 (b:List Stmt) (x:Str):Option (Str->Option Int):=b.findSome? fun s=>match s with
 | .Assign [.Name y _] (.Dict ks vs _) _=>if y==x then (cG8 ks vs).map fun t z=>t.lookup z else none
 | _=>none
noncomputable def blAll:List Str:=["len","tuple","all","any","isinstance","int","bool","str","list","range","sorted","set","zip","enumerate","dict","max","min","sum","reversed","abs"]
noncomputable def cU5 (b:List Stmt) (ac:Str->List Nat) (cv:Str->List Str) (fuel deep:Nat) (wf:Str->Bool:=fun _=>false) (ini mt:Str->Option (Addr×Stmt):=fun _=>none) (fo:Addr->Str->Bool:=fun _ _=>false):Top:=⟨blAll,cG7 b,cG9 b,wN b,ac,cv,fuel,deep,wf,ini,mt,fo⟩
end CI
namespace CI
open PySem DL
@[simp] theorem cU6 {α β:Type} (x:XR α) (f:α->XR β) (δ:DSt) (h:aA):xb x f δ h=(x δ h).bind fun p=>f p.1 δ p.2:=rfl
@[simp] theorem mT {α:Type} (a:α) (δ:DSt) (h:aA):aC a δ h=some (a,h):=rfl
@[simp] theorem dK0 {α:Type} (δ:DSt) (h:aA):(xno:XR α) δ h=none:=rfl
@[simp] theorem dC0 (i:Nat) (δ:DSt) (h:aA):aB i δ h=match δ[i]? with
 | some (some w)=>some (w,h)
 | _=>none:=rfl
def fZ (h:aA):okP h h:=fun i c _ e=>.inr e
def mU {h h1:aA} (L:aA) (hl:h1.length=h.length) (k:okP h h1):okP h (h1++L):=fun i c hi e=>k i c hi (by rwa [List.getElem?_append_left (by omega)] at e)
def cH0 {h h1:aA} (i:Nat) (xs:List PyData) (k:okP h h1):okP h (h1.set i (.l xs)):=fun j c hj e=>by
 by_cases q:i=j
 ·subst q
  by_cases hi:i < h1.length
  ·rw [List.getElem?_set_self hi] at e;cases e;exact .inl fun m hm=>by cases hm
  ·rw [List.set_eq_of_length_le (by omega)] at e;exact k i c hj e
 ·rw [List.getElem?_set_ne q] at e;exact k j c hj e
@[simp] theorem dP2 (h:aA):okP h h=True:=eq_true (fZ h)
@[simp] theorem dP3 (h L:aA):okP h (h++L)=True:=eq_true (mU L rfl (fZ h))
def aS7 (h0:aA) (z:PyData) (h:aA) (ok:okP h0 h):ends h0 (.rt (.d z),h)=some (z,h.take h0.length):=by
 unfold ends;rw [if_pos ok]
def aS8 (h0:aA) (δ:DSt) (h:aA) (ok:okP h0 h):ends h0 (.nx δ,h)=some (.none,h.take h0.length):=by
 unfold ends;rw [if_pos ok]
@[simp] theorem bH5 (h:aA) (z:PyData):ends h (.rt (.d z),h)=some (z,h):=by rw [aS7 _ _ _ (fZ h),List.take_length]
@[simp] theorem dC1 (h:aA) (δ:DSt):ends h (.nx δ,h)=some (.none,h):=by rw [aS8 _ _ _ (fZ h),List.take_length]
@[simp] theorem dC2 (h L:aA) (z:PyData):ends h (.rt (.d z),h++L)=some (z,h):=by rw [aS7 _ _ _ (mU L rfl (fZ h)),List.take_left'];rfl
@[simp] theorem dC3 (h L:aA) (δ:DSt):ends h (.nx δ,h++L)=some (.none,h):=by rw [aS8 _ _ _ (mU L rfl (fZ h)),List.take_left'];rfl
@[simp] theorem dC4 (δ:DSt) (h:aA):iG (.nx δ,h)=some (.d .none,h):=rfl
@[simp] theorem dC5 (w:W) (h:aA):iG (.rt w,h)=some (w,h):=rfl
@[simp] theorem cL4 (δ:DSt):aX [] δ=[]:=rfl
@[simp] theorem cH1 (r:List (Option Nat)) (δ:DSt):aX (none::r) δ=none::aX r δ:=rfl
@[simp] theorem cH2 (i:Nat) (r:List (Option Nat)) (δ:DSt):aX (some i::r) δ=(δ[i]?).bind id::aX r δ:=rfl
@[simp] theorem cU7 (gs:List XG) (xs:List PyData) (δ:DSt) (h:aA):dQ gs (.d (.tuple xs)) δ h=qX gs xs δ h:=rfl
@[simp] theorem cU8 (δ:DSt) (h:aA):qX [] [] δ h=some (δ,h):=rfl
@[simp] theorem cL5 (g:XG) (gs:List XG) (x:PyData) (xs:List PyData) (δ:DSt) (h:aA):qX (g::gs) (x::xs) δ h=(g (.d x) δ h).bind fun p=>qX gs xs p.1 p.2:=rfl
@[simp] theorem dN4 (h:aA) (x:PyData):ref h (.d x)=some x:=rfl
end CI
namespace CI
open PySem PySem.Spec PyProof.Rows L2 DL
section
variable {δ:DSt} {h:aA}
@[simp] theorem cU9 (x:XR Bool):cE x δ h=(x δ h).map asW:=rfl
@[simp] theorem dK1 (b:Bool):asW (b,h)=(.d (.bool b),h):=rfl
@[simp] theorem dK2 (op:CmpOp) (x y:XR W):xC1 op x y δ h=(x δ h).bind fun u=>(y δ u.2).bind fun w=>cL op u.1 w.1 w.2:=rfl
@[simp] theorem dK3 (op op':CmpOp) (x y z:XR W):xC2 op op' x y z δ h=(x δ h).bind fun u=>(y δ u.2).bind fun w=>(cL op u.1 w.1 w.2).bind fun p=>if p.1=true then (z δ p.2).bind fun q=>cL op' w.1 q.1 q.2 else some (false,p.2):=rfl
@[simp] theorem dK4 (op op' op'':CmpOp) (x y z t:XR W):xC3 op op' op'' x y z t δ h=(x δ h).bind fun u=>(y δ u.2).bind fun w=>(cL op u.1 w.1 w.2).bind fun p =>
 if p.1=true then (z δ p.2).bind fun q=>(cL op' w.1 q.1 q.2).bind fun p'=>if p'.1=true then (t δ p'.2).bind fun q'=>cL op'' q.1 q'.1 q'.2 else some (false,p'.2) else some (false,p.2):=rfl
@[simp] theorem cV0 (f:Str->Option Int) (x:XR W):pC f x δ h=(x δ h).bind fun p=>(match p.1 with
 | .d (.str s)=>some (!(f s).isSome,p.2)
 | .d .none=>some (true,p.2)
 | _=>none):=by
 unfold pC;rw [cU6]
 congr 1
 funext p
 obtain ⟨w,h'⟩:=p;cases w with
 | d x=>cases x<;>rfl
 | c i=>rfl
 | v u=>rfl
@[simp] theorem dC6 (x:XR (List PyData)):aK x δ h=(x δ h).bind fun p=>some (.d (.list p.1),p.2):=rfl
@[simp] theorem cV1 (x:XR (List PyData)):bZ x δ h=(x δ h).bind fun p=>some (.c p.2.length,p.2++[.l p.1]):=rfl
@[simp] theorem dK5 (x:XR (List W)):xPl x δ h=(x δ h).bind fun p=>(match cZ p.1 with
 | some xs=>if xs.length<=sizeLine then some (xs,p.2) else none
 | none=>none):=rfl
@[simp] theorem dC7 (i:Nat) (x:XR W):aQ i x δ h=(x δ h).bind fun p=>some (.nx (δ.set i (some p.1)),p.2):=rfl
@[simp] theorem cV2 (x:XR W):bN x δ h=(x δ h).bind fun p=>(match p.1 with
 | .d (.list xs)=>some ((xs,none),p.2)
 | .d (.tuple xs)=>some ((xs,none),p.2)
 | .c i=>(match p.2[i]? with
  | some (.l xs)=>some ((xs,some i),p.2)
  | _=>none)
 | _=>none):=rfl
@[simp] theorem cH3:cZ []=some []:=rfl
@[simp] theorem cV3 (x:PyData) (r:List W):cZ (.d x::r)=(cZ r).map (x::·):=rfl
@[simp] theorem dK6 (i j:Int):cL .Lt (.d (.int i)) (.d (.int j)) h=some (decide (i < j),h):=rfl
@[simp] theorem dK7 (i j:Int):cL .LtE (.d (.int i)) (.d (.int j)) h=some (decide (i<=j),h):=rfl
@[simp] theorem dK8 (i j:Int):cL .Gt (.d (.int i)) (.d (.int j)) h=some (decide (j < i),h):=rfl
@[simp] theorem dK9 (i j:Int):cL .GtE (.d (.int i)) (.d (.int j)) h=some (decide (j<=i),h):=rfl
@[simp] theorem dL0 (u w:W):cL .Eq u w h=(xEq u w h).map fun b=>(b,h):=rfl
@[simp] theorem dL1 (u w:W):cL .NotEq u w h=(xEq u w h).map fun b=>(!b,h):=rfl
@[simp] theorem dL2 (u w:W):cL .Is u w h=(xIs u w).map fun b=>(b,h):=rfl
@[simp] theorem cL6 (u w:W):cL .IsNot u w h=(xIs u w).map fun b=>(!b,h):=rfl
@[simp] theorem dL3 (u w:W):cL .In u w h=(xIn u w h).map fun b=>(b,h):=rfl
@[simp] theorem cL7 (u w:W):cL .NotIn u w h=(xIn u w h).map fun b=>(!b,h):=rfl
def yJ (a b:PyData):xEq (.d a) (.d b) h=if (aN 64 a&&aN 64 b)=true then some (PyData.eqv a b) else none:=rfl
@[simp] theorem dC8 (n:Nat):aN n .none=true:=by rw [aN]
@[simp] theorem dC9 (n:Nat) (b:Bool):aN n (.bool b)=true:=by rw [aN]
@[simp] theorem dL4 (n:Nat) (i:Int):aN n (.int i)=true:=by rw [aN]
@[simp] theorem dL5 (n:Nat) (x:Str):aN n (.str x)=true:=by rw [aN]
@[simp] theorem dD0 (n:Nat) (xs:List PyData):aN (n+1) (.list xs)=plainsB n xs:=by rw [aN]
@[simp] theorem cV4 (n:Nat) (xs:List PyData):aN (n+1) (.tuple xs)=plainsB n xs:=by rw [aN]
@[simp] theorem dD1 (n:Nat):plainsB n []=true:=by rw [plainsB]
@[simp] theorem cV5 (n:Nat) (x:PyData) (xs:List PyData):plainsB n (x::xs)=(aN n x&&plainsB n xs):=by rw [plainsB]
@[simp] theorem dD2 (i j:Int):xEq (.d (.int i)) (.d (.int j)) h=some (decide (i=j)):=by rw [yJ];simp [PyData.eqv];exact Bool.beq_eq_decide_eq i j
@[simp] theorem dD3 (x y:Str):xEq (.d (.str x)) (.d (.str y)) h=some (x==y):=by simp [yJ,PyData.eqv]
@[simp] theorem cV6 (x y:Bool):xEq (.d (.bool x)) (.d (.bool y)) h=some (x==y):=by cases x<;>cases y<;>simp [yJ,PyData.eqv]
@[simp] theorem bP8 (y:Str):xEq (.d .none) (.d (.str y)) h=some false:=by simp [yJ,PyData.eqv]
@[simp] theorem dN5 (x:PyData):bU [.d x] h=(match x with
  | .list xs=>some (.d (.int xs.length),h)
  | .tuple xs=>some (.d (.int xs.length),h)
  | _=>none):=by cases x<;>rfl
@[simp] theorem dD4 (xs:List PyData):cJ [.d (.list xs)] h=some (.d (.tuple xs),h):=rfl
@[simp] theorem dD5 (xs:List PyData):cJ [.d (.tuple xs)] h=some (.d (.tuple xs),h):=rfl
@[simp] theorem bP9 (xs:List PyData):jC [.d (.list xs)] h=(dP xs).map fun bs=>(.d (.bool (bs.all id)),h):=rfl
@[simp] theorem dP4 (xs:List PyData) (i:Int):xIx (.d (.tuple xs)) (.d (.int i)) h=(atI xs i).map fun v=>(.d v,h):=rfl
@[simp] theorem dP5 (xs:List PyData) (i:Int):xIx (.d (.list xs)) (.d (.int i)) h=(atI xs i).map fun v=>(.d v,h):=rfl
@[simp] theorem dP6 (xs:List PyData) (lo hi:Option Int):xSl (.d (.tuple xs)) lo hi h=some (.d (.tuple (cut xs lo hi)),h):=rfl
@[simp] theorem dP7 (xs:List PyData) (lo hi:Option Int):xSl (.d (.list xs)) lo hi h=some (.d (.list (cut xs lo hi)),h):=rfl
@[simp] theorem cL8 (i j:Int):fB .Add (.d (.int i)) (.d (.int j)) h=some (.d (.int (i+j)),h):=rfl
@[simp] theorem cL9 (i j:Int):fB .Sub (.d (.int i)) (.d (.int j)) h=some (.d (.int (i - j)),h):=rfl
@[simp] theorem cM0 (i j:Int):fB .Mult (.d (.int i)) (.d (.int j)) h=if gF i j=true then some (.d (.int (i*j)),h) else none:=rfl
@[simp] theorem cM1 (i j:Int):fB .FloorDiv (.d (.int i)) (.d (.int j)) h=if aT j=true then some (.d (.int (i / j)),h) else none:=rfl
@[simp] theorem cM2 (i j:Int):fB .Mod (.d (.int i)) (.d (.int j)) h=if 0 < j then some (.d (.int (i%j)),h) else none:=rfl
@[simp] theorem cM3 (i j:Int):fB .Pow (.d (.int i)) (.d (.int j)) h=if tO i j=true then some (.d (.int (i^j.toNat)),h) else none:=rfl
@[simp] theorem cM4 (xs ys:List PyData):fB .Add (.d (.tuple xs)) (.d (.tuple ys)) h=if xs.length+ys.length<=sizeLine then some (.d (.tuple (xs++ys)),h) else none:=rfl
@[simp] theorem cM5 (xs ys:List PyData):fB .Add (.d (.list xs)) (.d (.list ys)) h=if xs.length+ys.length<=sizeLine then some (.d (.list (xs++ys)),h) else none:=rfl
@[simp] theorem bX (xs:List PyData):condB none xs h=true:=rfl
theorem bY {g:XG} {te:XR W} {all:List PyData} (f:PyData->PyData) (k:Nat) (hg:∀ w δ h,g w δ h=some (δ.set k (some w),h)) :
  ∀ (rest:List PyData) (δ:DSt) (ac:List PyData),(∀ x∈rest,∀ u,te ((δ.set k u).set k (some (.d x))) h=some (.d (f x),h))->aO g (aC true) te none all rest δ h ac=some (ac++rest.map f,h)
 | [],δ,ac,_=>by simp [aO]
 | x::r,δ,ac,hf=>by
  have e:=hf x List.mem_cons_self none;rw [List.set_set] at e;rw [aO,bX,if_pos rfl,hg];simp only [Option.bind_some,mT,if_true,e];rw [bY f k hg r _ _ fun y hy u=>by
   have:=hf y (List.mem_cons_of_mem _ hy) u;rw [List.set_set] at this ⊢;rw [List.set_set];exact this]
  simp
theorem bools_map {f:PyData->Bool}:∀ xs:List PyData,dP (xs.map fun x=>.bool (f x))=some (xs.map f)
 | []=>rfl
 | x::r=>by rw [List.map_cons,dP,bools_map r];rfl
theorem all_map {f:PyData->Bool} {h:aA} (xs:List PyData):jC [.d (.list (xs.map fun x=>.bool (f x)))] h=some (.d (.bool (xs.all f)),h):=by
 rw [bP9,bools_map,Option.map_some,List.all_map];rfl
end
abbrev S3:=Int×Int×Int
noncomputable def stL (s:S3):Cell:=.l [.int s.1,.int s.2.1,.int s.2.2]
def hZ {i:Int} (h1:-(2^64) < i) (h2:i < 2^64) (j:Int):gF i j=true:=by
 unfold gF;rw [decide_eq_true h1,decide_eq_true h2];rfl
def yK {j:Int} (h1:-(2^64) < j) (h2:j < 2^64) (i:Int):gF i j=true:=by
 unfold gF;rw [decide_eq_true h1,decide_eq_true h2,Bool.and_self,Bool.or_true]
def cG {j:Int} (h1:0 < j) (h2:j < 1073741824):aT j=true:=by
 unfold aT;rw [decide_eq_true h1,decide_eq_true h2];rfl
def dF {h L:aA} {i:Nat} {c:Cell} (hi:i < h.length):h.set i c++L=(h++L).set i c:=(List.set_append_left _ _ hi).symm
def yL {h:aA} {i:Nat} {xs:List PyData} (hi:i < h.length):ref (h.set i (.l xs)) (.c i)=some (.list xs):=by
 simp [ref,hi]
@[simp] theorem dP8 {h:aA} {i:Nat} {xs:List PyData} (hi:i < h.length) (k:Int):xIx (.c i) (.d (.int k)) (h.set i (.l xs))=(atI xs k).map fun v=>(.d v,h.set i (.l xs)):=by
 unfold xIx;rw [yL hi]
noncomputable def thr (f:PyData->S3->PyData) (n:PyData->S3->S3):List PyData->S3->List PyData×S3
 | [],s=>([],s)
 | x::r,s=>(f x s::(thr f n r (n x s)).1,(thr f n r (n x s)).2)
theorem pK {g:XG} {te:XR W} {all:List PyData} {h:aA} {i:Nat} (f:PyData->S3->PyData) (n:PyData->S3->S3) (k:Nat) (hg:∀ w δ h,g w δ h=some (δ.set k (some w),h)) :
  ∀ (rest:List PyData) (δ:DSt) (ac:List PyData) (s:S3),(∀ x∈rest,∀ u s,te ((δ.set k u).set k (some (.d x))) (h.set i (stL s))=some (.d (f x s),h.set i (stL (n x s)))) ->
   aO g (aC true) te none all rest δ (h.set i (stL s)) ac=some (ac++(thr f n rest s).1,h.set i (stL (thr f n rest s).2))
 | [],δ,ac,s,_=>by simp [aO,thr]
 | x::r,δ,ac,s,hf=>by
  have e:=hf x List.mem_cons_self none s;rw [List.set_set] at e;rw [aO,bX,if_pos rfl,hg];simp only [Option.bind_some,mT,if_true,e];rw [pK f n k hg r _ _ _ fun y hy u s=>by
   have:=hf y (List.mem_cons_of_mem _ hy) u s;rw [List.set_set] at this ⊢;rw [List.set_set];exact this]
  simp [thr]
variable (h:aA)
@[simp] theorem dL6 (L:aA) (i:Nat) (c:Cell):(h.set i c++L).take h.length=h.set i c:=by
 rw [List.take_append_of_le_length (by simp)];simp
end CI
namespace CI
open PySem PySem.Spec PyProof.Rows L2 DL
theorem pL {g:XG} {te:XR W} {all:List PyData} {h:aA} (f:PyData->PyData) (J:DSt->Prop) :
  ∀ (rest:List PyData) (δ:DSt) (ac:List PyData),J δ->(∀ x∈rest,∀ δ,J δ->∃ δ1,g (.d x) δ h=some (δ1,h)/\J δ1/\te δ1 h=some (.d (f x),h))->aO g (aC true) te none all rest δ h ac=some (ac++rest.map f,h)
 | [],δ,ac,_,_=>by simp [aO]
 | x::r,δ,ac,j,hf=>by
  obtain ⟨δ1,e1,j1,e2⟩:=hf x List.mem_cons_self δ j;rw [aO];simp [e1,e2,aC];rw [pL f J r δ1 (ac++[f x]) j1 fun y hy=>hf y (List.mem_cons_of_mem _ hy)];simp
theorem iR {g:XG} {te:XR W} {all:List PyData} {h:aA} (J:DSt->Prop) :
  ∀ (ps:List (PyData×PyData)) (δ:DSt) (ac:List PyData),J δ->(∀ p∈ps,∀ δ,J δ->∃ δ1,g (.d p.1) δ h=some (δ1,h)/\J δ1/\te δ1 h=some (.d p.2,h))->aO g (aC true) te none all (ps.map (·.1)) δ h ac=some (ac++ps.map (·.2),h)
 | [],δ,ac,_,_=>by simp [aO]
 | x::r,δ,ac,j,hf=>by
  obtain ⟨δ1,e1,j1,e2⟩:=hf x List.mem_cons_self δ j;rw [List.map_cons,aO];simp [e1,e2,aC];rw [iR J r δ1 (ac++[x.2]) j1 fun y hy=>hf y (List.mem_cons_of_mem _ hy)];simp
@[simp] theorem dL7 (xs:List PyData):fU (.d (.tuple xs))=some xs:=rfl
@[simp] theorem dL8 (xs:List PyData):fU (.d (.list xs))=some xs:=rfl
def cH4 (a:PyData) (xs:List PyData) (h:aA):xIn (.d a) (.d (.tuple xs)) h=if (aN 64 (.tuple xs)&&aN 64 a)=true then some (xs.any fun z=>PyData.eqv z a) else none:=rfl
@[simp] theorem cV7 (x a b:Str) (h:aA):xIn (.d (.str x)) (.d (.tuple [.str a,.str b])) h=some (a==x||b==x):=by
 rw [cH4];simp [PyData.eqv]
end CI
namespace CI
open PySem PySem.Spec PyProof.Rows L2 DL ST
def cH5 {a b:String} (h:Str.ofString a=Str.ofString b):a=b:=by
 simp only [Str.ofString_eq_byList] at h;unfold Str.ofStringByList at h;have h1:=congrArg Str.cps h;have h2:(a.toList.map Char.toNat)=(b.toList.map Char.toNat):=by
  have:=congrArg Array.toList h1
  simpa using this
 have h3:a.toList=b.toList:=by
  refine (List.map_inj_right ?_).mp h2;intro x y e;exact Char.toNat_inj.mp e
 exact String.toList_inj.mp h3
@[simp] theorem cV8 (a b:String):(Str.ofString a=Str.ofString b)=(a=b):=propext ⟨cH5,fun e=>by rw [e]⟩
@[simp] theorem dL9 (a b:String):(Str.ofString a==Str.ofString b)=(a==b):=by
 rw [Bool.eq_iff_iff,beq_iff_eq,beq_iff_eq,cV8]
theorem uD {g:XG} {tb:XS} {all:List PyData} (I:DSt->aA->Prop):∀ (rest:List PyData),(∀ x∈rest,∀ δ h,I δ h->∃ δ1 h1 δ2 h2,g (.d x) δ h=some (δ1,h1)/\tb δ1 h1=some (.nx δ2,h2)/\I δ2 h2) ->
  ∀ (δ:DSt) (h:aA),I δ h->∃ δ' h',bC g tb none all rest δ h=some (.nx δ',h')/\I δ' h'
 | [],_,δ,h,i=>⟨δ,h,by simp [bC],i⟩
 | x::r,ht,δ,h,i=>by
  obtain ⟨δ1,h1,δ2,h2,e1,e2,i2⟩:=ht x List.mem_cons_self δ h i;obtain ⟨δ3,h3,e3,i3⟩:=uD I r (fun y hy=>ht y (List.mem_cons_of_mem _ hy)) δ2 h2 i2;refine ⟨δ3,h3,?_,i3⟩;rw [bC,bX,if_pos rfl,e1];simp only [Option.bind_some,e2];exact e3
def aE9 {g:XG} {tb:XS} {all:List PyData} (I:DSt->aA->Prop) (rest:List PyData) (ht:∀ x∈rest,∀ δ h,I δ h->∃ δ1 h1,g (.d x) δ h=some (δ1,h1)/\∃ δ2 h2,tb δ1 h1=some (.nx δ2,h2)/\I δ2 h2) (δ:DSt) (h:aA) (i:I δ h) :
  ∃ δ' h',bC g tb none all rest δ h=some (.nx δ',h')/\I δ' h':=uD I rest (fun x hx δ h i=>let ⟨δ1,h1,e1,δ2,h2,e2,i2⟩:=ht x hx δ h i;⟨δ1,h1,δ2,h2,e1,e2,i2⟩) δ h i
def bO {x:Option (Fl×aA)} {f:Fl×aA->Option (Fl×aA)} {P:DSt->aA->Prop} (δ':DSt) (h':aA) (e:x=some (.nx δ',h')) (k:∃ δ2 h2,f (.nx δ',h')=some (.nx δ2,h2)/\P δ2 h2):∃ δ2 h2,x.bind f=some (.nx δ2,h2)/\P δ2 h2:=by
 rw [e];exact k
def cP {x:Option (Fl×aA)} {f:Fl×aA->Option (Fl×aA)} {P:DSt->aA->Prop} (J:DSt->aA->Prop) (e:∃ δ' h',x=some (.nx δ',h')/\J δ' h') (k:∀ δ' h',J δ' h'->∃ δ2 h2,f (.nx δ',h')=some (.nx δ2,h2)/\P δ2 h2):∃ δ2 h2,x.bind f=some (.nx δ2,h2)/\P δ2 h2:=by
 obtain ⟨δ',h',e,j⟩:=e;rw [e];exact k δ' h' j
section
variable (h:aA)
@[simp] theorem cV9:iE []=some []:=rfl
@[simp] theorem cM6 (i:Int) (r:List PyData):iE (.int i::r)=(iE r).map (i::·):=rfl
@[simp] theorem dN6:xIs (.d .none) (.d .none)=some true:=rfl
@[simp] theorem dN7 (i:Int):xIs (.d (.int i)) (.d .none)=some false:=rfl
@[simp] theorem dN8 (xs:List PyData):xIs (.d (.tuple xs)) (.d .none)=some false:=rfl
def get_last (c:Cell):(h++[c])[h.length]?=some c:=by simp
def mpre_last (xs:List PyData):jE "append" (.c h.length) (h++[.l xs])=true:=by
 unfold jE;rw [if_pos rfl];simp
end
@[simp high] theorem bs {α β:Type} (a:α) (f:α->Option β):(some a).bind f=f a:=id rfl
@[simp high] theorem xv0 (w:W) (l:DSt) (h:aA):aB 0 (some w::l) h=some (w,h):=id rfl
@[simp high] theorem xv1 {x0:Option W} (w:W) (l:DSt) (h:aA):aB 1 (x0::some w::l) h=some (w,h):=id rfl
@[simp high] theorem xv2 {x0 x1:Option W} (w:W) (l:DSt) (h:aA):aB 2 (x0::x1::some w::l) h=some (w,h):=id rfl
@[simp high] theorem xv3 {x0 x1 x2:Option W} (w:W) (l:DSt) (h:aA):aB 3 (x0::x1::x2::some w::l) h=some (w,h):=id rfl
@[simp high] theorem xv4 {x0 x1 x2 x3:Option W} (w:W) (l:DSt) (h:aA):aB 4 (x0::x1::x2::x3::some w::l) h=some (w,h):=id rfl
@[simp high] theorem xv5 {x0 x1 x2 x3 x4:Option W} (w:W) (l:DSt) (h:aA):aB 5 (x0::x1::x2::x3::x4::some w::l) h=some (w,h):=id rfl
@[simp high] theorem xv6 {x0 x1 x2 x3 x4 x5:Option W} (w:W) (l:DSt) (h:aA):aB 6 (x0::x1::x2::x3::x4::x5::some w::l) h=some (w,h):=id rfl
@[simp high] theorem xv7 {x0 x1 x2 x3 x4 x5 x6:Option W} (w:W) (l:DSt) (h:aA):aB 7 (x0::x1::x2::x3::x4::x5::x6::some w::l) h=some (w,h):=id rfl
@[simp high] theorem xv9 {x0 x1 x2 x3 x4 x5 x6 x7 x8:Option W} (w:W) (l:DSt) (h:aA):aB 9 (x0::x1::x2::x3::x4::x5::x6::x7::x8::some w::l) h=some (w,h):=id rfl
theorem dW {g:XG} {tt:XR Bool} {te:XR W} {all:List PyData} {h:aA} (p:PyData->Bool) (f:PyData->PyData) (I:DSt->Prop):∀ (xs:List PyData) (δ:DSt) (ac:List PyData),I δ ->
  (∀ x∈xs,∀ δ,I δ->∃ δ',g (.d x) δ h=some (δ',h)/\I δ'/\tt δ' h=some (p x,h)/\(p x=true->te δ' h=some (.d (f x),h)))->aO g tt te none all xs δ h ac=some (ac++(xs.filter p).map f,h)
 | [],δ,ac,_,_=>by simp [aO]
 | x::r,δ,ac,i,hx=>by
  obtain ⟨δ',e1,i',e2,e3⟩:=hx x List.mem_cons_self δ i;have ih:=fun ac=>dW (all:=all) p f I r δ' ac i' fun y hy=>hx y (List.mem_cons_of_mem _ hy);rw [aO,bX,if_pos rfl,e1];simp only [bs,e2];cases hp:p x with
  | true=>rw [if_pos rfl,e3 hp];simp only [bs];rw [ih];simp [hp]
  | false=>rw [if_neg (by simp)];rw [ih];simp [hp]
def cH6 {g:XG} {te:XR W} {all:List PyData} {h:aA} (f:PyData->PyData) (I:DSt->Prop) (xs:List PyData) (δ:DSt) (i:I δ)
  (hx:∀ x∈xs,∀ δ,I δ->∃ δ',g (.d x) δ h=some (δ',h)/\I δ'/\te δ' h=some (.d (f x),h)):aO g (aC true) te none all xs δ h []=some (xs.map f,h):=by
 have:=dW (g:=g) (tt:=aC true) (te:=te) (all:=all) (h:=h) (fun _=>true) f I xs δ [] i fun x m δ i=>by
  obtain ⟨δ',a,b,c⟩:=hx x m δ i;exact ⟨δ',a,b,rfl,fun _=>c⟩
 rw [this,List.filter_eq_self.mpr (fun _ _=>rfl),List.nil_append]
def wO {σ α:Type} {g:XG} {tb:XS} {all:List PyData} {P:DSt->aA->Prop} (F:α->PyData) (st:σ->α->σ) (R:σ->DSt->aA->Prop) (s:σ) (qs:List α) {δ:DSt} {h:aA} (hi:R s δ h) (hP:∀ δ h,R (qs.foldl st s) δ h->P δ h)
  (ht:∀ q∈qs,∀ s δ h,R s δ h->∃ δ1 h1,g (.d (F q)) δ h=some (δ1,h1)/\∃ δ2 h2,tb δ1 h1=some (.nx δ2,h2)/\R (st s q) δ2 h2):∃ δ' h',bC g tb none all (qs.map F) δ h=some (.nx δ',h')/\P δ' h':=by
 suffices H:∀ (qs:List α) (s:σ) (δ:DSt) (h:aA),R s δ h->(∀ q∈qs,∀ s δ h,R s δ h->∃ δ1 h1,g (.d (F q)) δ h=some (δ1,h1)/\∃ δ2 h2,tb δ1 h1=some (.nx δ2,h2)/\R (st s q) δ2 h2)->∃ δ' h',bC g tb none all (qs.map F) δ h=some (.nx δ',h')/\R (qs.foldl st s) δ' h' by
  obtain ⟨δ',h',e,r⟩:=H qs s δ h hi ht;exact ⟨δ',h',e,hP _ _ r⟩
 clear hP hi ht;intro qs;induction qs with
 | nil=>exact fun s δ h i _=>⟨δ,h,by simp [bC],i⟩
 | cons q r ih =>
  intro s δ h i ht;obtain ⟨δ1,h1,e1,δ2,h2,e2,i2⟩:=ht q List.mem_cons_self s δ h i;obtain ⟨δ3,h3,e3,i3⟩:=ih _ δ2 h2 i2 fun y hy=>ht y (List.mem_cons_of_mem _ hy);refine ⟨δ3,h3,?_,i3⟩;rw [List.map_cons,bC,bX,if_pos rfl,e1];simp only [bs,e2];exact e3
def aF0 {α β:Type} {g:XG} {tb:XS} {all:List PyData} {h:aA} (F:α->PyData) (fd:α->Option β) (wd:β->W) (I:DSt->Prop) (qs:List α) {δ:DSt} (hi:I δ)
  (ht:∀ q∈qs,∀ δ,I δ->∃ δ1,g (.d (F q)) δ h=some (δ1,h)/\((∃ b,fd q=some b/\tb δ1 h=some (.rt (wd b),h))\/(fd q=none/\∃ δ2,tb δ1 h=some (.nx δ2,h)/\I δ2))) :
  (∃ b,qs.findSome? fd=some b/\bC g tb none all (qs.map F) δ h=some (.rt (wd b),h))\/(qs.findSome? fd=none/\∃ δ',I δ'/\bC g tb none all (qs.map F) δ h=some (.nx δ',h)):=by
 induction qs generalizing δ with
 | nil=>exact .inr ⟨rfl,δ,hi,by simp [bC]⟩
 | cons q r ih =>
  obtain ⟨δ1,e1,hh⟩:=ht q List.mem_cons_self δ hi;rw [List.map_cons,bC,bX,if_pos rfl,e1];rcases hh with ⟨b,e2,e3⟩ | ⟨e2,δ2,e3,i2⟩
  ·refine .inl ⟨b,by rw [List.findSome?_cons,e2],?_⟩;simp only [bs,e3]
  ·rw [List.findSome?_cons,e2];simp only [bs,e3];exact ih i2 fun y hy=>ht y (List.mem_cons_of_mem _ hy)
def dG {g:XG} {tb:XS} {all:List PyData} {P:DSt->aA->Prop} (I:Nat->DSt->aA->Prop) {rest:List PyData} {δ:DSt} {h:aA} (hi:I 0 δ h) (hP:∀ δ h,I rest.length δ h->P δ h)
  (ht:∀ n (hn:n < rest.length) δ h,I n δ h->∃ δ1 h1,g (.d rest[n]) δ h=some (δ1,h1)/\∃ δ2 h2,tb δ1 h1=some (.nx δ2,h2)/\I (n+1) δ2 h2):∃ δ' h',bC g tb none all rest δ h=some (.nx δ',h')/\P δ' h':=by
 suffices H:∀ (r:List PyData) (n:Nat) (δ:DSt) (h:aA),(∃ p,rest=p++r/\p.length=n)->I n δ h->∃ δ' h',bC g tb none all r δ h=some (.nx δ',h')/\I rest.length δ' h' by
  obtain ⟨δ',h',e,i⟩:=H rest 0 δ h ⟨[],rfl,rfl⟩ hi;exact ⟨δ',h',e,hP δ' h' i⟩
 intro r;induction r with
 | nil =>
  rintro n δ h ⟨p,e1,e2⟩ i;subst e2;simp at e1;subst e1;exact ⟨δ,h,by simp [bC],i⟩
 | cons x r ih =>
  rintro n δ h ⟨p,e1,e2⟩ i;have hn:n < rest.length:=by rw [e1];simp;omega
  have hx:rest[n]=x:=by subst e2;subst e1;simp
  obtain ⟨δ1,h1,e1',δ2,h2,e2',i2⟩:=ht n hn δ h i;rw [hx] at e1';obtain ⟨δ3,h3,e3,i3⟩:=ih (n+1) δ2 h2 ⟨p++[x],by simp [e1],by simp [e2]⟩ i2;refine ⟨δ3,h3,?_,i3⟩;rw [bC,bX,if_pos rfl,e1'];simp only [bs,e2'];exact e3
def rng_len (lo:Int) (n:Nat):(rng lo n).length=n:=by simp [rng]
@[simp] theorem at4 (a b c e f:PyData) (r:List PyData):atI (a::b::c::e::f::r) 4=some f:=fO (j:=4) (by simp)
@[simp] theorem at5 (a b c e f g:PyData) (r:List PyData):atI (a::b::c::e::f::g::r) 5=some g:=fO (j:=5) (by simp)
end CI
namespace CI
open PySem PySem.Spec PyProof.Rows L2 DL
noncomputable def gcl (b:List Stmt):List (Str×PyData):=b.filterMap fun s=>match s with
 | .Assign [.Name y _] e _=>if !(y==("__name__":Str)) then (aS6 4 e).map (y,·) else none
 | _=>none
def cH7 {b:List Stmt} {x:Str} {z:PyData} (h:cG7 b x=some z):(x,z)∈gcl b:=by
 obtain ⟨s,hs,e⟩:=List.exists_of_findSome?_eq_some h;refine List.mem_filterMap.mpr ⟨s,hs,?_⟩;split at e
 ·rename_i y p e0 q;split at e
  ·rename_i hc;rw [Bool.and_eq_true] at hc;have:y=x:=eq_of_beq hc.1;subst this;try simp only []
   rw [if_pos hc.2,e];rfl
  ·cases e
 ·cases e
noncomputable def tkl (b:List Stmt):List (Str×List (Str×Int)):=b.filterMap fun s=>match s with
 | .Assign [.Name y _] (.Dict ks vs _) _=>(cG8 ks vs).map (y,·)
 | _=>none
def cH8 {b:List Stmt} {x:Str} {f:Str->Option Int} (h:cG9 b x=some f):∃ t,(x,t)∈tkl b/\f=fun z=>t.lookup z:=by
 obtain ⟨s,hs,e⟩:=List.exists_of_findSome?_eq_some h;split at e
 ·rename_i y p ks vs p2 q;split at e
  ·rename_i hc;have:y=x:=eq_of_beq hc;subst this;obtain ⟨t,et,rfl⟩:=Option.map_eq_some_iff.mp e;refine ⟨t,List.mem_filterMap.mpr ⟨_,hs,?_⟩,rfl⟩;simp only [];rw [et];rfl
  ·cases e
 ·cases e
noncomputable def dfl (b:List Stmt):List (Str×Stmt):=b.filterMap fun s=>match s with
 | .FunctionDef n _ _ _ _ _ _ _ _ _=>some (n,s)
 | _=>none
def cH9 {b:List Stmt} {x:Str} {s:Stmt} (h:wN b x=some s):(x,s)∈dfl b:=by
 have h1:=List.find?_some h;have h2:=List.mem_of_find?_eq_some h;refine List.mem_filterMap.mpr ⟨s,h2,?_⟩;unfold aS5 at h1;split at h1
 ·simp only [eq_of_beq h1]
 ·cases h1
section
variable {P:Program} {w:World} {K:Frag} {mg:Str->Option Value} {base:Heap}
def law_fn {t:Top} {x:Str} {s:Stmt} {f:Addr} {fd:FuncData} {k:Nat} (T:TopOk t P w K mg base) (hs:t.defs x=some s) (F:Fun K x x s f fd):FnOk P w K mg base CX0 (k+1) f fd (aR s) (mC K (nN (aD t (k+1) x))):=by
 have e:aD t (k+1) x=kO t (fnT t fun y=>aD t k y) (obT t (fun y=>callW t k y) (fun y=>callI t k y) fun y=>callM t k y) x s:=by
  rw [aD,hs]
 rw [e];exact bP6 T F (wM T k)
theorem kB (K:Frag) (A:List Addr) (H:Hp):∀ ns:List Int,Reps K A H (ns.map .int) (ns.map V.int)
 | []=>.nil
 | n::r=>.cons iX (kB K A H r)
def cI0 {t:Top} {x:Str} {d:Nat} (hL:∀ ns:List Int,∃ h',aD t d x [.d (.list (ns.map .int))] []=some (.bool true,h')) (K:Frag) (H:Hp) (a:Addr) (ns:List Int) (hS:SqL K H a (ns.map V.int)):mC K (nN (aD t d x)) [.ref a] H (fun v _=>v=.bl true) fun _ _ _=>False:=by
 obtain ⟨h',e⟩:=hL ns;refine ⟨[.d (.list (ns.map .int))],[],[],[],fun z _=>z=.bool true,⟨rfl,List.nodup_nil,fun _ z=>(nomatch z),fun _ z=>(nomatch z),fun i a xs e=>by simp at e⟩,⟨_,[],rfl,?_,rfl⟩,⟨.bool true,h',e,rfl⟩,fun z h' v H' A' e _ _ r=>?_⟩
 ·show Rep K [] H (.list (ns.map .int)) (.ref a);rw [Rep];refine ⟨a,_,rfl,?_,kB K [] H ns⟩;rcases hS with h | h
  ·exact .inl ⟨by simp,h⟩
  ·exact .inr h
 ·subst e;rw [Rep] at r;exact r
def uE {x k:Str} {hh:Int} {t:Tok} {v:Value} {es:List DictEntry}:findBy Value.isStrOf (⟨hh,.str k t,v⟩::es).toArray x=if k=x then some v else findBy Value.isStrOf es.toArray x:=by
 unfold findBy;simp only [List.find?_toArray,List.find?_cons,Value.isStrOf]
 by_cases e:k=x
 ·simp [e]
 ·have:(k==x)=false:=beq_eq_false_iff_ne.mpr e;simp [e,this]
end
theorem uF {K:Frag} {A:List Addr} {H:Hp}:∀ {ws:List Str},(ws.all PyData.strOk)=true->Reps K A H (ws.map .str) (ws.map V.str)
 | [],_=>by rw [List.map_nil,List.map_nil,Reps]
 | x::r,h=>by
  rw [List.all_cons,Bool.and_eq_true] at h;rw [List.map_cons,List.map_cons,Reps];exact ⟨_,_,rfl,by rw [Rep];exact ⟨rfl,h.1⟩,uF h.2⟩
def cI1 {K:Frag} {a:Addr} {n:Nat} {ws:List Str} {its:Array Value} (h:K.lookup a=some ⟨.type "tuple",none,.seq its n,#[]⟩) (hv:Vals (ws.map V.str) its.toList) (hs:its.size<=sizeLine) (ho:(ws.all PyData.strOk)=true) (A:List Addr) (H:Hp):Rep K A H (.tuple (ws.map .str)) (.ref a):=by
 rw [Rep];exact ⟨a,ws.map V.str,rfl,.inr ⟨_,its,n,h,rfl,rfl,rfl,hs,hv⟩,uF ho⟩
def FI (K:Frag) (n:Str) (s:Stmt):Prop:=∃ (f:Addr) (od an:Option Addr) (sl:Array (Option Value)) (oc kV dc pm cd ct:Value),PySem.W.nsIn K mainGlobals n=some (some (.ref f))/\K.lookup f=some ⟨oc,od,.func (PySem.W.fnOf n n (cA s) (bJ s) (aH s) .none kV dc pm an cd ct),sl⟩/\PySem.W.codeIn K cd n=true/\PySem.W.keepIn K (.ref f)=true
def fi_mk {K:Frag} {n:Str} {s:Stmt} {f:Addr} {od an:Option Addr} {sl:Array (Option Value)} {oc kV dc pm cd ct:Value} (a:PySem.W.nsIn K mainGlobals n=some (some (.ref f))) (l:K.lookup f=some ⟨oc,od,.func (PySem.W.fnOf n n (cA s) (bJ s) (aH s) .none kV dc pm an cd ct),sl⟩) (c:PySem.W.codeIn K cd n=true) (k:PySem.W.keepIn K (.ref f)=true):FI K n s:=⟨_,_,_,_,_,_,_,_,_,_,a,l,c,k⟩
def FI.ok {K:Frag} {n:Str} {s:Stmt} {h:Heap} {mg:Str->Option Value} {ps:List Str} (a:FI K n s) (X:K.In h) (G:h.Ns mainGlobals mg) (hp:aR s=ps)
  (hb:∀ (kV doc pm:Value) (an:Option Addr) (cdv ct:Value) (us:List Value),us.length=ps.length->bindArgs (PySem.W.fnOf n n (cA s) (bJ s) (aH s) .none kV doc pm an cdv ct) ⟨us,[]⟩=pure (ps.zip us)):∃ f fd,Fun K n n s f fd/\mg n=some (.ref f)/\Binds K fd (aR s) []:=by
 obtain ⟨f,od,an,sl,oc,kV,dc,pm,cd,ct,a,l,c,k⟩:=a;have F:=vT (st:=s) l c k;exact ⟨f,_,F,PySem.W.mg_of X G a,by rw [hp];exact F.binds hb⟩
def cI2 {K:Frag} {a:Addr} {n:Nat} {ws:List Int} {its:Array Value} (h:K.lookup a=some ⟨.type "tuple",none,.seq its n,#[]⟩) (hv:Vals (ws.map V.int) its.toList) (hs:its.size<=sizeLine) (A:List Addr) (H:Hp):Rep K A H (.tuple (ws.map .int)) (.ref a):=by
 rw [Rep];exact ⟨a,ws.map V.int,rfl,.inr ⟨_,its,n,h,rfl,rfl,rfl,hs,hv⟩,kB K A H ws⟩
def FI.ok1 {K:Frag} {n:Str} {s:Stmt} {h:Heap} {mg:Str->Option Value} (a:FI K n s) (X:K.In h) (G:h.Ns mainGlobals mg) (hn:(aR s).length=1) (hb:∀ (kV doc pm:Value) (an:Option Addr) (cdv ct u:Value),bindArgs (PySem.W.fnOf n n (cA s) (bJ s) (aH s) .none kV doc pm an cdv ct) ⟨[u],[]⟩=pure ((aR s).zip [u])):∃ f fd,Fun K n n s f fd/\mg n=some (.ref f)/\Binds K fd (aR s) []:=a.ok X G rfl fun kV doc pm an cdv ct us hl=>by
 rw [hn] at hl
 match us,hl with
 | [u],_=>exact hb kV doc pm an cdv ct u
def FI.ok2 {K:Frag} {n:Str} {s:Stmt} {h:Heap} {mg:Str->Option Value} (a:FI K n s) (X:K.In h) (G:h.Ns mainGlobals mg) (hn:(aR s).length=2) (hb:∀ (kV doc pm:Value) (an:Option Addr) (cdv ct u v:Value),bindArgs (PySem.W.fnOf n n (cA s) (bJ s) (aH s) .none kV doc pm an cdv ct) ⟨[u,v],[]⟩=pure ((aR s).zip [u,v])):∃ f fd,Fun K n n s f fd/\mg n=some (.ref f)/\Binds K fd (aR s) []:=a.ok X G rfl fun kV doc pm an cdv ct us hl=>by
 rw [hn] at hl
 match us,hl with
 | [u,v],_=>exact hb kV doc pm an cdv ct u v
def FI.ok3 {K:Frag} {n:Str} {s:Stmt} {h:Heap} {mg:Str->Option Value} (a:FI K n s) (X:K.In h) (G:h.Ns mainGlobals mg) (hn:(aR s).length=3) (hb:∀ (kV doc pm:Value) (an:Option Addr) (cdv ct u v x:Value),bindArgs (PySem.W.fnOf n n (cA s) (bJ s) (aH s) .none kV doc pm an cdv ct) ⟨[u,v,x],[]⟩=pure ((aR s).zip [u,v,x])):∃ f fd,Fun K n n s f fd/\mg n=some (.ref f)/\Binds K fd (aR s) []:=a.ok X G rfl fun kV doc pm an cdv ct us hl=>by
 rw [hn] at hl
 match us,hl with
 | [u,v,x],_=>exact hb kV doc pm an cdv ct u v x
def FM (K:Frag) (C:Addr) (n q:Str) (s:Stmt):Prop:=∃ (f:Addr) (od an:Option Addr) (sl:Array (Option Value)) (oc kV dc pm cd ct:Value),PySem.W.findIn K (.ref C) n=some (some (.ref f))/\PySem.W.isFn K (.ref f)=true/\K.lookup f=some ⟨oc,od,.func (PySem.W.fnOf n q (cA s) (bJ s) (aH s) .none kV dc pm an cd ct),sl⟩/\PySem.W.codeIn K cd q=true/\PySem.W.keepIn K (.ref f)=true
def fm_mk {K:Frag} {C:Addr} {n q:Str} {s:Stmt} {f:Addr} {od an:Option Addr} {sl:Array (Option Value)} {oc kV dc pm cd ct:Value} (a:PySem.W.findIn K (.ref C) n=some (some (.ref f))) (i:PySem.W.isFn K (.ref f)=true) (l:K.lookup f=some ⟨oc,od,.func (PySem.W.fnOf n q (cA s) (bJ s) (aH s) .none kV dc pm an cd ct),sl⟩) (c:PySem.W.codeIn K cd q=true) (k:PySem.W.keepIn K (.ref f)=true):FM K C n q s:=⟨_,_,_,_,_,_,_,_,_,_,a,i,l,c,k⟩
def FM.ok {K:Frag} {C:Addr} {n q:Str} {s:Stmt} {ps:List Str} (a:FM K C n q s) (hp:aR s=ps)
  (hb:∀ (kV doc pm:Value) (an:Option Addr) (cdv ct:Value) (us:List Value),us.length=ps.length->bindArgs (PySem.W.fnOf n q (cA s) (bJ s) (aH s) .none kV doc pm an cdv ct) ⟨us,[]⟩=pure (ps.zip us)):∃ f fd,Fun K n q s f fd/\Meth K C n f/\Binds K fd (aR s) []:=by
 obtain ⟨f,od,an,sl,oc,kV,dc,pm,cd,ct,a,i,l,c,k⟩:=a;have F:=vT (st:=s) l c k;exact ⟨f,_,F,⟨a,i,k⟩,by rw [hp];exact F.binds hb⟩
end CI
namespace CI
open PySem DL
variable {h L:aA} {i:Nat} {c c':Cell}
open Classical in
@[simp] theorem cI3 (h0:aA) (z:PyData) (h1:aA):ends h0 (.rt (.d z),h1)=if okP h0 h1 then some (z,h1.take h0.length) else none:=rfl
open Classical in
@[simp] theorem dM0 (h0:aA) (δ:DSt) (h1:aA):ends h0 (.nx δ,h1)=if okP h0 h1 then some (PyData.none,h1.take h0.length) else none:=rfl
def yM (xs:List PyData):okP (h.set i c) (h.set i (.l xs)):=by
 have:=cH0 i xs (fZ (h.set i c))
 rwa [List.set_set] at this
@[simp] theorem dN9 (xs:List PyData):okP (h.set i c) (h.set i (.l xs))=True:=eq_true (yM xs)
@[simp] theorem dO0 (s:S3):okP (h.set i c) (h.set i (stL s))=True:=eq_true (yM _)
@[simp] theorem dO1 (xs:List PyData):okP (h.set i c) (h.set i (.l xs)++L)=True:=eq_true (mU L (by simp) (yM xs))
@[simp] theorem cI4 (s:S3):okP (h.set i c) (h.set i (stL s)++L)=True:=eq_true (mU L (by simp) (yM _))
@[simp] theorem yN (s:S3) (hi:i < h.length):okP (h.set i c) ((h++L).set i (stL s))=True:=by rw [<- dF hi,cI4]
@[simp] theorem dM1:(h.set i c).take h.length=h.set i c:=List.take_of_length_le (by simp)
@[simp] theorem cW0:(h.set i c++L).take h.length=h.set i c:=by rw [List.take_append_of_le_length (by simp),dM1]
@[simp] theorem yO (hi:i < h.length):((h++L).set i c).take h.length=h.set i c:=by rw [<- dF hi,cW0]
end CI
noncomputable section
namespace K16
open PySem PySem.Spec PyProof.Rows L2 DL CI SJ
noncomputable def body:List Stmt:=PySem.Challenge.pw_storejudge_k16_the_fault_of_a_row.main.body
noncomputable def cv (x:Str):List Str:=if x="law" then ["_law_state"] else if x="_law_problem" then ["_law_state"] else if x="_law_items" then ["_law_options","_law_items_here"] else if x="_law_pairs" then ["_law_pairs_here"] else if x="_law_triples" then ["_law_triples_here"] else if x="deal_done" then ["answers"] else if x="_law_line" then ["_law_line_here"] else if x="row_fault" then ["placed"] else []
noncomputable def wf (x:Str):Bool:=decide (x="ways_of")
def methOf (m:Str):Option Stmt:=body.findSome? fun s=>match s with
 | .ClassDef n _ _ b _ _ _ _ _ _ _=>if n="Ways" then b.find? (aS5 m) else none
 | _=>none
def ini (x:Str):Option (Addr×Stmt):=if x="Ways" then (methOf "__init__").map fun s=>(289,s) else none
def mt (x:Str):Option (Addr×Stmt):=if x="stand_behind" then (methOf "stand_behind").map fun s=>(289,s) else if x="may_follow" then (methOf "may_follow").map fun s=>(289,s) else if x="missing" then (methOf "missing").map fun s=>(289,s) else none
noncomputable def fo (C:Addr) (f:Str):Bool:=decide (C=289)&&(["first","listed","musts","ahead","later","gaps"]:List Str).contains f
def T:Top:=cU5 body (fun _=>[]) cv 1000 60 wf ini mt fo
end K16
namespace K16
open PySem PySem.Spec PyProof.Rows L2 DL CI
noncomputable def YE:Fl×aA->Option (Fl×aA):=fun p=>match p.1 with
  | Fl.nx δ'=>some (Fl.nx δ',p.2)
  | f=>some (f,p.2)
@[simp] theorem dP9 :YE=fun p=>match p.1 with
  | Fl.nx δ'=>some (Fl.nx δ',p.2)
  | f=>some (f,p.2):=rfl
noncomputable def YN:W->XR (List W):=fun w=>xb (aC []) fun ws=>aC (w::ws)
@[simp] theorem dQ0 :YN=fun w=>xb (aC []) fun ws=>aC (w::ws):=rfl
noncomputable def YC (w:W):List W->XR (List W):=fun ws=>aC (w::ws)
@[simp] theorem dQ1 (w:W):YC w=fun ws=>aC (w::ws):=rfl
noncomputable def YF (d:Nat) (s:String):List W->XR W:=fun ws x h=>Option.bind (aD T d (Str.ofString s) ws h) fun p=>some (W.d p.1,p.2)
@[simp] theorem dQ2 (d:Nat) (s:String):YF d s=fun ws x h=>Option.bind (aD T d (Str.ofString s) ws h) fun p=>some (W.d p.1,p.2):=rfl
noncomputable def YI (n:Int):W->XR W:=fun x=>xb (aC (W.d (PyData.int n))) fun y x_1 h=>xIx x y h
@[simp] theorem dQ3 (n:Int):YI n=fun x=>xb (aC (W.d (PyData.int n))) fun y x_1 h=>xIx x y h:=rfl
noncomputable def YB (o:Operator) (n:Int):W->XR W:=fun u=>xb (aC (W.d (PyData.int n))) fun w x h=>fB o u w h
@[simp] theorem dQ4 (o:Operator) (n:Int):YB o n=fun u=>xb (aC (W.d (PyData.int n))) fun w x h=>fB o u w h:=rfl
noncomputable def YO (o:Operator) (u:W):W->XR W:=fun w x h=>fB o u w h
@[simp] theorem dQ5 (o:Operator) (u:W):YO o u=fun w x h=>fB o u w h:=rfl
noncomputable def YT:List PyData->XR W:=fun xs=>aC (W.d (PyData.tuple xs))
@[simp] theorem dQ6 :YT=fun xs=>aC (W.d (PyData.tuple xs)):=rfl
noncomputable def YW:W×aA->Option (Fl×aA):=fun p=>some (Fl.rt p.1,p.2)
@[simp] theorem dQ7 :YW=fun p=>some (Fl.rt p.1,p.2):=rfl
noncomputable def YS (s:String):XR W:=aC (W.d (PyData.str (Str.ofString s)))
@[simp] theorem dQ8 (s:String):YS s=aC (W.d (PyData.str (Str.ofString s))):=rfl
noncomputable def YJ (n:Int):XR W:=aC (W.d (PyData.int n))
@[simp] theorem dQ9 (n:Int):YJ n=aC (W.d (PyData.int n)):=rfl
noncomputable def YK (f:List W->aA->Option (W×aA)):List W->XR W:=fun ws x h=>f ws h
@[simp] theorem dR0 (f:List W->aA->Option (W×aA)):YK f=fun ws x h=>f ws h:=rfl
noncomputable def YQ (k:DSt->Fl×aA->Option (Fl×aA)):Fl×aA->Option (Fl×aA):=fun p=>match p.1 with
  | Fl.nx δ'=>k δ' p
  | f=>some (f,p.2)
@[simp] theorem nO (k:DSt->Fl×aA->Option (Fl×aA)):YQ k=fun p=>match p.1 with
  | Fl.nx δ'=>k δ' p
  | f=>some (f,p.2):=rfl
noncomputable def YP {α β:Type} (x:Option α) (f:α->Option β):Option β:=Option.bind x f
@[simp] theorem mV {α β:Type} (x:Option α) (f:α->Option β):YP x f=Option.bind x f:=rfl
noncomputable def YG (i:Nat):XG:=fun w δ h=>some (List.set δ i (some w),h)
@[simp] theorem dM2 (i:Nat):YG i=fun w δ h=>some (List.set δ i (some w),h):=rfl
def YZ:XR W:=aC (W.d PyData.none)
@[simp] theorem dR1:YZ=aC (W.d PyData.none):=rfl
noncomputable def YV (i:Nat) (n:Int):XR W:=xb (aB i) (YI n)
@[simp] theorem dR2 (i:Nat) (n:Int):YV i n=xb (aB i) (YI n):=rfl
noncomputable def YL (s:String):W->XR W:=fun w x h=>match w with
  | W.c j=>match h[j]? with
    | some (Cell.o C fs)=>if Top.fo T C (Str.ofString s)=true then Option.map (fun (w:W)=>(w,h)) (List.lookup (Str.ofString s) fs) else none
    | x=>none
  | x=>none
@[simp] theorem dR3 (s:String):YL s=fun w x h=>match w with
  | W.c j=>match h[j]? with
    | some (Cell.o C fs)=>if Top.fo T C (Str.ofString s)=true then Option.map (fun (w:W)=>(w,h)) (List.lookup (Str.ofString s) fs) else none
    | x=>none
  | x=>none:=rfl
noncomputable def YM (s:String) (δ:DSt) (v:W):W×aA->Option (Fl×aA):=fun q=>match q.1 with
  | W.c j=>match (q.2)[j]? with
    | some (Cell.o C fs)=>if Top.fo T C (Str.ofString s)=true/\List.length fs < 1000 then some (Fl.nx δ,List.set (q.2) j (Cell.o C (jW (Str.ofString s) v fs))) else none
    | x=>none
  | x=>none
@[simp] theorem dR4 (s:String) (δ:DSt) (v:W):YM s δ v=fun q=>match q.1 with
  | W.c j=>match (q.2)[j]? with
    | some (Cell.o C fs)=>if Top.fo T C (Str.ofString s)=true/\List.length fs < 1000 then some (Fl.nx δ,List.set (q.2) j (Cell.o C (jW (Str.ofString s) v fs))) else none
    | x=>none
  | x=>none:=rfl
noncomputable def YA (e:XR (List W)):W->XR W:=fun w δ h=>if jE (Str.ofString "append") w h=true then Option.bind (e δ h) fun p=>match w,p.1 with
  | W.c j,[W.d x]=>match p.2[j]? with
    | some (Cell.l xs)=>if List.length xs < sizeLine then some (W.d PyData.none,List.set p.2 j (Cell.l (xs++[x]))) else none
    | x=>none
  | x,x_2=>none else none
@[simp] theorem dR5 (e:XR (List W)):YA e=fun w δ h=>if jE (Str.ofString "append") w h=true then Option.bind (e δ h) fun p=>match w,p.1 with
  | W.c j,[W.d x]=>match p.2[j]? with
    | some (Cell.l xs)=>if List.length xs < sizeLine then some (W.d PyData.none,List.set p.2 j (Cell.l (xs++[x]))) else none
    | x=>none
  | x,x_2=>none else none:=rfl
noncomputable def YR :W->XR (List PyData×Option Nat):=fun w x h=>match w with
  | W.d (PyData.int j)=>if fV 0 j=true then some ((rng 0 (Int.toNat j),none),h) else none
  | x=>none
@[simp] theorem dR6 :YR =fun w x h=>match w with
  | W.d (PyData.int j)=>if fV 0 j=true then some ((rng 0 (Int.toNat j),none),h) else none
  | x=>none:=rfl
noncomputable def YD :W->XR Bool:=fun w=>match w with
  | W.d (PyData.bool b)=>aC b
  | x=>xno
@[simp] theorem dR7 :YD =fun w=>match w with
  | W.d (PyData.bool b)=>aC b
  | x=>xno:=rfl
noncomputable def YU :W->XR (Option Int):=fun w=>match w with
  | W.d (PyData.int i)=>aC (some i)
  | x=>xno
@[simp] theorem dR8 :YU =fun w=>match w with
  | W.d (PyData.int i)=>aC (some i)
  | x=>xno:=rfl
noncomputable def YH (d:Nat) (s:String) (e:XR (List W)):W->XR W:=fun w δ h=>match w with
  | W.c j=>match h[j]? with
    | some (Cell.o C' fs)=>if C'=289/\List.lookup (Str.ofString s) fs=none then Option.bind (e δ h) fun p=>callM T d (Str.ofString s) (W.c j::p.1) p.2 else none
    | x=>none
  | x=>none
@[simp] theorem dR9 (d:Nat) (s:String) (e:XR (List W)):YH d s e=fun w δ h=>match w with
  | W.c j=>match h[j]? with
    | some (Cell.o C' fs)=>if C'=289/\List.lookup (Str.ofString s) fs=none then Option.bind (e δ h) fun p=>callM T d (Str.ofString s) (W.c j::p.1) p.2 else none
    | x=>none
  | x=>none:=rfl
noncomputable def YX (x:W):W->XR W:=fun y _ h=>xIx x y h
@[simp] theorem dS0 (x:W):YX x=fun y _ h=>xIx x y h:=rfl
noncomputable def YS3 (x:W) (l:Option Int):Option Int->XR W:=fun u _ h=>xSl x l u h
@[simp] theorem dO2 (x:W) (l:Option Int):YS3 x l=fun u _ h=>xSl x l u h:=rfl
noncomputable def YT2 (b:Bool) (δ:DSt):Bool×aA->Option (Fl×aA):=fun p=>if p.1=true then YP (YP (aC (W.d (PyData.bool b)) δ p.2) YW) YE else some (Fl.nx δ,p.2)
@[simp] theorem dO3 (b:Bool) (δ:DSt):YT2 b δ=fun p=>if p.1=true then YP (YP (aC (W.d (PyData.bool b)) δ p.2) YW) YE else some (Fl.nx δ,p.2):=rfl
noncomputable def YI2 (s:String):W->XR W:=fun w x h=>Option.bind (ref h w) fun d=>some (W.d (PyData.bool (isi d s)),h)
@[simp] theorem dO4 (s:String):YI2 s=fun w x h=>Option.bind (ref h w) fun d=>some (W.d (PyData.bool (isi d s)),h):=rfl
noncomputable def YNg :W->XR W:=fun w=>match w with
  | W.d (PyData.int i)=>aC (W.d (PyData.int (-i)))
  | x=>xno
@[simp] theorem dO5 :YNg =fun w=>match w with
  | W.d (PyData.int i)=>aC (W.d (PyData.int (-i)))
  | x=>xno:=rfl
noncomputable def Y1 (a:XR W):XR (List W):=xb a YN
@[simp] theorem dS1 (a:XR W):Y1 a=xb a YN:=rfl
noncomputable def Y2 (a b:XR W):XR (List W):=xb a fun w=>xb (Y1 b) (YC w)
@[simp] theorem dS2 (a b:XR W):Y2 a b=xb a fun w=>xb (Y1 b) (YC w):=rfl
noncomputable def Y3 (a b c:XR W):XR (List W):=xb a fun w=>xb (Y2 b c) (YC w)
@[simp] theorem dS3 (a b c:XR W):Y3 a b c=xb a fun w=>xb (Y2 b c) (YC w):=rfl
noncomputable def Y4 (a b c e:XR W):XR (List W):=xb a fun w=>xb (Y3 b c e) (YC w)
@[simp] theorem dS4 (a b c e:XR W):Y4 a b c e=xb a fun w=>xb (Y3 b c e) (YC w):=rfl
noncomputable def Y5 (a b c e f:XR W):XR (List W):=xb a fun w=>xb (Y4 b c e f) (YC w)
@[simp] theorem dS5 (a b c e f:XR W):Y5 a b c e f=xb a fun w=>xb (Y4 b c e f) (YC w):=rfl
noncomputable def Y6 (a b c e f g:XR W):XR (List W):=xb a fun w=>xb (Y5 b c e f g) (YC w)
@[simp] theorem dS6 (a b c e f g:XR W):Y6 a b c e f g=xb a fun w=>xb (Y5 b c e f g) (YC w):=rfl
noncomputable def Y7 (a b c e f g i:XR W):XR (List W):=xb a fun w=>xb (Y6 b c e f g i) (YC w)
@[simp] theorem dS7 (a b c e f g i:XR W):Y7 a b c e f g i=xb a fun w=>xb (Y6 b c e f g i) (YC w):=rfl
def wP (d:Nat) (w0:W) (h:aA):aD T (d+1) "is_whole" [w0] h =
 YP
 (YP
 (YP
 (xb (xb (aB 0) (YI2 "int"))
 (fun (w:W) =>
 match w with
     | W.d (PyData.bool true) =>
      xb (xb (aB 0) (YI2 "bool")) fun (w:W) =>
 match w with
       | W.d (PyData.bool b)=>aC (W.d (PyData.bool !b))
       | x=>xno
     | W.d (PyData.bool false)=>aC (W.d (PyData.bool false))
     | x=>xno)
 [some w0] h)
 YW)
 YE)
 (ends h):=by kernel_rfl
def rJ (d:Nat) (w0 w1 w2:W) (h:aA):aD T (d+1) "is_between" [w0,w1,w2] h =
 YP
 (YP
 (YP
 (xb (xb (Y1 (aB 0)) (YF d "is_whole"))
 (fun (w:W) =>
 match w with
     | W.d (PyData.bool true)=>cE (xC2 CmpOp.LtE CmpOp.LtE (aB 1) (aB 0) (aB 2))
     | W.d (PyData.bool false)=>aC (W.d (PyData.bool false))
     | x=>xno)
 [some w0,some w1,some w2] h)
 YW)
 YE)
 (ends h):=by kernel_rfl
def nP (d:Nat) (w0 w1:W) (h:aA):aD T (d+1) "is_tuple_of" [w0,w1] h =
 YP
 (YP
 (YP
 (xb (xb (aB 0) (YI2 "tuple"))
 (fun (w:W) =>
 match w with
     | W.d (PyData.bool true)=>cE (xC1 CmpOp.Eq (xb (Y1 (aB 0)) (YK bU)) (aB 1))
     | W.d (PyData.bool false)=>aC (W.d (PyData.bool false))
     | x=>xno)
 [some w0,some w1] h)
 YW)
 YE)
 (ends h):=by kernel_rfl
def uG (d:Nat) (w0:W) (h:aA):aD T (d+1) "are_whole" [w0] h =
 YP
 (YP (YP (xb (Y1 (aK (xb (bN (aB 0)) fun p δ h=>aO (YG 0) (aC true) (xb (Y1 (aB 0)) (YF d "is_whole")) p.2 p.1 p.1 (aX [none] δ) h []))) (YK jC) [some w0] h) YW) YE)
 (ends h):=by kernel_rfl
def rK (d:Nat) (w0:W) (h:aA):aD T (d+1) "are_rising" [w0] h =
 YP
 (YP
 (YP
 (xb
 (Y1 (aK
 (xb
 (xb (xb (xb (Y1 (aB 0)) (YK bU)) (YB .Sub 1)) YR)
 fun p δ h=>aO (YG 0) (aC true) (cE (xC1 CmpOp.Lt (xb (aB 1) fun x=>xb (aB 0) (YX x)) (xb (aB 1) fun x=>xb (xb (aB 0) (YB .Add 1)) (YX x)))) p.2 p.1 p.1 (aX [none,some 0] δ) h [])))
 (YK jC) [some w0] h)
 YW)
 YE)
 (ends h):=by kernel_rfl
def aS9 (d:Nat) (w0:W) (h:aA):aD T (d+1) "is_key" [w0] h =
 YP
 (YP (YP (xb (Y3 (aB 0) (YJ 0) (YJ 7)) ((YF d "is_between")) [some w0] h) YW) YE)
 (ends h):=by kernel_rfl
def aF1 (d:Nat) (w0:W) (h:aA):aD T (d+1) "word_of" [w0] h =
 YP
 (YP
 (YP
 (xb
 (xb (xb (aB 0) (YI2 "tuple")) YD)
 (fun c =>
 if c=true then
 xb (xC1 CmpOp.Gt (xb (Y1 (aB 0)) (YK bU)) (YJ 0)) fun c =>
 if c=true then
 xb (xb (YV 0 0) (YI2 "str")) YD
 else aC false
 else aC false)
 [some w0] h)
 fun p =>
 if p.1=true then
 YP (YP (xb (aB 0) (YI 0) [some w0] p.2) YW) YE
 else some (Fl.nx [some w0],p.2))
 (YQ fun δ' p =>
 YP (YP (YZ δ' p.2) YW) YE))
 (ends h):=by kernel_rfl
def uH (d:Nat) (w0 w1 w2:W) (h:aA):aD T (d+1) "is_worded" [w0,w1,w2] h =
 YP
 (YP
 (YP
 (xb (cE (xC1 CmpOp.Eq (xb (Y1 (aB 0)) (YF d "word_of")) (aB 1)))
 (fun (w:W) =>
 match w with
     | W.d (PyData.bool true)=>cE (xC1 CmpOp.Eq (xb (Y1 (aB 0)) (YK bU)) (aB 2))
     | W.d (PyData.bool false)=>aC (W.d (PyData.bool false))
     | x=>xno)
 [some w0,some w1,some w2] h)
 YW)
 YE)
 (ends h):=by kernel_rfl
def uI (d:Nat) (w0:W) (h:aA):aD T (d+1) "is_single" [w0] h =
 YP
 (YP (aQ 1 (xb (Y1 (aB 0)) (YF d "word_of")) [some w0,none] h) (YQ fun δ' p =>
   YP
    (YP
     (xb (pC (fun (z:Str)=>List.lookup z [(Str.ofString "read",0),(Str.ofString "write",1),(Str.ofString "add",1),(Str.ofString "swap",2)]) (aB 1))
      (fun c =>
       if c=true then aC true
       else
        xC1 CmpOp.NotEq (xb (Y1 (aB 0)) (YK bU))
         (xb (YJ 2) fun (u:W) =>
          xb
           (xb (aB 1) fun (w:W) =>
            match w with
            | W.d (PyData.str z) =>
             match List.lookup z [(Str.ofString "read",0),(Str.ofString "write",1),(Str.ofString "add",1),(Str.ofString "swap",2)] with
             | some i=>aC (W.d (PyData.int i))
             | none=>xno
            | x=>xno)
           (YO .Add u)))
      δ' p.2)
     (YT2 false δ'))
    (YQ fun δ' p =>
     YP
      (YP
       (xb (xb (Y1 (YV 0 1)) (YF d "is_key"))
        (fun (w:W) =>
         match w with
         | W.d (PyData.bool true) =>
          xb
           (Y1 (xb (aB 0) fun (x:W) =>
             xb
              (xb (YJ 2) YU)
              fun (l:Option Int)=>xb (aC none) (YS3 x l)))
           (YF d "are_whole")
         | W.d (PyData.bool false)=>aC (W.d (PyData.bool false))
         | x=>xno)
        δ' p.2)
       YW)
      YE)))
 (ends h):=by kernel_rfl
def aF2 (d:Nat) (w0:W) (h:aA):aD T (d+1) "is_span" [w0] h =
 YP
 (YP
 (YP
 (xb
 (xb
 (xb (xb (Y3 (aB 0) (YS "span") (YJ 3)) (YF d "is_worded")) YD)
 fun (b:Bool)=>aC !b)
 (fun c =>
 if c=true then aC true
 else
 xb
 (xb
 (xb
 (Y1 (xb (aB 0) fun (x:W) =>
 xb
 (xb (YJ 1) YU)
 fun (l:Option Int)=>xb (aC none) (YS3 x l)))
 (YF d "are_whole"))
 YD)
 fun (b:Bool)=>aC !b)
 [some w0] h)
 (YT2 false [some w0]))
 (YQ fun δ' p =>
 YP (YP (cE (xC3 CmpOp.LtE CmpOp.Lt CmpOp.LtE (YJ 0) (YV 0 1) (YV 0 2) (xb (YJ 7) (YB .Add 1))) δ' p.2) YW) YE))
 (ends h):=by kernel_rfl
def aF3 (d:Nat) (w0:W) (h:aA):aD T (d+1) "is_deal" [w0] h =
 YP
 (YP
 (YP
 (xb
 (xb
 (xb (xb (Y3 (aB 0) (YS "deal") (YJ 2)) (YF d "is_worded")) YD)
 fun (b:Bool)=>aC !b)
 (fun c =>
 if c=true then aC true
 else
 xb
 (xb (xb (YV 0 1) (YI2 "tuple")) YD)
 fun (b:Bool)=>aC !b)
 [some w0] h)
 (YT2 false [some w0]))
 (YQ fun δ' p =>
 YP
 (YP
 (xb (cE (xC2 CmpOp.LtE CmpOp.LtE (YJ 1) (xb (Y1 (YV 0 1)) (YK bU)) (YJ 4)))
 (fun (w:W) =>
 match w with
       | W.d (PyData.bool true)=>xb (Y1 (aK (xb (bN (YV 0 1)) fun p δ h=>aO (YG 0) (aC true) (xb (Y1 (aB 0)) (YF d "is_single")) p.2 p.1 p.1 (aX [none] δ) h []))) (YK jC)
       | W.d (PyData.bool false)=>aC (W.d (PyData.bool false))
       | x=>xno)
 δ' p.2)
 YW)
 YE))
 (ends h):=by kernel_rfl
def aF4 (d:Nat) (w0:W) (h:aA):aD T (d+1) "is_call" [w0] h =
 YP
 (YP
 (YP
 (xb (xb (Y1 (aB 0)) (YF d "is_single"))
 (fun (w:W) =>
 match w with
     | W.d (PyData.bool true)=>aC (W.d (PyData.bool true))
     | W.d (PyData.bool false) =>
      xb (xb (Y1 (aB 0)) (YF d "is_span")) fun (w:W) =>
 match w with
       | W.d (PyData.bool true)=>aC (W.d (PyData.bool true))
       | W.d (PyData.bool false)=>xb (Y1 (aB 0)) (YF d "is_deal")
       | x=>xno
     | x=>xno)
 [some w0] h)
 YW)
 YE)
 (ends h):=by kernel_rfl
def aF5 (d:Nat) (w0:W) (h:aA):aD T (d+1) "is_look" [w0] h =
 YP
 (YP
 (YP
 (xb (xb (Y3 (aB 0) (YS "look") (YJ 2)) (YF d "is_worded"))
 (fun (w:W) =>
 match w with
     | W.d (PyData.bool true)=>xb (Y1 (YV 0 1)) (YF d "is_call")
     | W.d (PyData.bool false)=>aC (W.d (PyData.bool false))
     | x=>xno)
 [some w0] h)
 YW)
 YE)
 (ends h):=by kernel_rfl
def kZ (d:Nat) (w0:W) (h:aA):aD T (d+1) "is_value_pair" [w0] h =
 YP
 (YP
 (YP
 (xb (xb (Y2 (aB 0) (YJ 2)) (YF d "is_tuple_of"))
 (fun (w:W) =>
 match w with
     | W.d (PyData.bool true) =>
      xb (xb (Y1 (YV 0 0)) (YF d "is_key")) fun (w:W) =>
 match w with
       | W.d (PyData.bool true)=>xb (Y1 (YV 0 1)) (YF d "is_whole")
       | W.d (PyData.bool false)=>aC (W.d (PyData.bool false))
       | x=>xno
     | W.d (PyData.bool false)=>aC (W.d (PyData.bool false))
     | x=>xno)
 [some w0] h)
 YW)
 YE)
 (ends h):=by kernel_rfl
def aT1 (d:Nat) (w0:W) (h:aA):aD T (d+1) "is_lay" [w0] h =
 YP
 (YP
 (YP
 (xb
 (xb
 (xb (xb (Y3 (aB 0) (YS "lay") (YJ 2)) (YF d "is_worded")) YD)
 fun (b:Bool)=>aC !b)
 (fun c =>
 if c=true then aC true
 else
 xb
 (xb
 (xb (xb (YV 0 1) (YI2 "tuple")) YD)
 fun (b:Bool)=>aC !b)
 fun c=>if c=true then aC true else xC1 CmpOp.Eq (xb (Y1 (YV 0 1)) (YK bU)) (YJ 0))
 [some w0] h)
 (YT2 false [some w0]))
 (YQ fun δ' p =>
 YP
 (YP
 (xb
 (xb (xb (Y1 (aK (xb (bN (YV 0 1)) fun p δ h=>aO (YG 0) (aC true) (xb (Y1 (aB 0)) (YF d "is_value_pair")) p.2 p.1 p.1 (aX [none] δ) h []))) (YK jC)) YD)
 (fun (b:Bool)=>aC !b) δ' p.2)
 (YT2 false δ'))
 (YQ fun δ' p =>
 YP (YP (xb (Y1 (aK (xb (bN (YV 0 1)) fun p δ h=>aO (YG 0) (aC true) (YV 0 0) p.2 p.1 p.1 (aX [none] δ) h []))) ((YF d "are_rising")) δ' p.2) YW) YE)))
 (ends h):=by kernel_rfl
def aF6 (d:Nat) (w0:W) (h:aA):aD T (d+1) "is_step" [w0] h =
 YP
 (YP
 (YP
 (xb (xb (Y1 (aB 0)) (YF d "is_call"))
 (fun (w:W) =>
 match w with
     | W.d (PyData.bool true)=>aC (W.d (PyData.bool true))
     | W.d (PyData.bool false) =>
      xb (xb (Y1 (aB 0)) (YF d "is_look")) fun (w:W) =>
 match w with
       | W.d (PyData.bool true)=>aC (W.d (PyData.bool true))
       | W.d (PyData.bool false)=>xb (Y1 (aB 0)) (YF d "is_lay")
       | x=>xno
     | x=>xno)
 [some w0] h)
 YW)
 YE)
 (ends h):=by kernel_rfl
def gU (d:Nat) (w0 w1:W) (h:aA):aD T (d+1) "is_answer" [w0,w1] h =
 YP
 (YP
 (YP
 (xb
 (xb (xb (Y1 (aB 0)) (YF d "is_step")) YD)
 (fun (b:Bool)=>aC !b) [some w0,some w1] h)
 (YT2 false [some w0,some w1]))
 (YQ fun δ' p =>
 YP
 (YP
 (xb (xb (Y3 (aB 1) (YS "refused") (YJ 1)) (YF d "is_worded"))
 (YD)
 δ' p.2)
 fun p =>
 if p.1=true then
 YP (YP (xb (Y1 (aB 0)) ((YF d "is_call")) δ' p.2) YW) YE
 else some (Fl.nx δ',p.2))
 (YQ fun δ' p =>
 YP (YP (xb (Y2 (aB 0) (aB 1)) ((YF d "is_own_answer")) δ' p.2) YW) YE)))
 (ends h):=by kernel_rfl
def aY (d:Nat) (w0 w1:W) (h:aA):aD T (d+1) "is_own_answer" [w0,w1] h =
 YP
 (YP (aQ 2 (YV 0 0) [some w0,some w1,none] h) (YQ fun δ' p =>
 YP
 (YP (xC1 CmpOp.In (aB 2) (xb (xPl (Y2 (YS "read") (YS "add"))) YT) δ' p.2) fun p =>
 if p.1=true then
 YP
 (YP
 (xb (xb (Y3 (aB 1) (YS "got") (YJ 2)) (YF d "is_worded"))
 (fun (w:W) =>
 match w with
          | W.d (PyData.bool true)=>xb (Y1 (YV 1 1)) (YF d "is_whole")
          | W.d (PyData.bool false)=>aC (W.d (PyData.bool false))
          | x=>xno)
 δ' p.2)
 YW)
 YE
 else some (Fl.nx δ',p.2))
 (YQ fun δ' p =>
 YP
 (YP (xC1 CmpOp.In (aB 2) (xb (xPl (Y2 (YS "write") (YS "lay"))) YT) δ' p.2) fun p =>
 if p.1=true then
 YP (YP (xb (Y3 (aB 1) (YS "done") (YJ 1)) ((YF d "is_worded")) δ' p.2) YW) YE
 else some (Fl.nx δ',p.2))
 (YQ fun δ' p =>
 YP
 (YP (xC1 CmpOp.Eq (aB 2) (YS "swap") δ' p.2) fun p =>
 if p.1=true then
 YP
 (YP
 (xb (xb (Y3 (aB 1) (YS "yes") (YJ 1)) (YF d "is_worded"))
 (fun (w:W) =>
 match w with
              | W.d (PyData.bool true)=>aC (W.d (PyData.bool true))
              | W.d (PyData.bool false)=>xb (Y3 (aB 1) (YS "no") (YJ 1)) (YF d "is_worded")
              | x=>xno)
 δ' p.2)
 YW)
 YE
 else some (Fl.nx δ',p.2))
 (YQ fun δ' p =>
 YP
 (YP (xC1 CmpOp.Eq (aB 2) (YS "span") δ' p.2) fun p =>
 if p.1=true then
 YP
 (YP
 (xb (xb (Y3 (aB 1) (YS "all") (YJ 2)) (YF d "is_worded"))
 (fun (w:W) =>
 match w with
                | W.d (PyData.bool true) =>
                 xb (xb (Y2 (YV 1 1) (xb (YV 0 2) fun u=>xb (YV 0 1) (YO .Sub u))) (YF d "is_tuple_of")) fun (w:W) =>
 match w with
                  | W.d (PyData.bool true)=>xb (Y1 (YV 1 1)) (YF d "are_whole")
                  | W.d (PyData.bool false)=>aC (W.d (PyData.bool false))
                  | x=>xno
                | W.d (PyData.bool false)=>aC (W.d (PyData.bool false))
                | x=>xno)
 δ' p.2)
 YW)
 YE
 else some (Fl.nx δ',p.2))
 (YQ fun δ' p =>
 YP
 (YP (xC1 CmpOp.Eq (aB 2) (YS "look") δ' p.2) fun p =>
 if p.1=true then
 YP (YP (xb (Y2 (YV 0 1) (aB 1)) ((YF d "is_own_answer")) δ' p.2) YW) YE
 else some (Fl.nx δ',p.2))
 (YQ fun δ' p =>
 YP
 (YP
 (xb
 (xb
 (xb (xb (Y3 (aB 1) (YS "each") (YJ 2)) (YF d "is_worded")) YD)
 fun (b:Bool)=>aC !b)
 (fun c =>
 if c=true then aC true
 else
 xb
 (xb (xb (Y2 (YV 1 1) (xb (Y1 (YV 0 1)) (YK bU))) (YF d "is_tuple_of")) YD)
 fun (b:Bool)=>aC !b)
 δ' p.2)
 (YT2 false δ'))
 (YQ fun δ' p =>
 YP
 (YP
 (xb
 (Y1 (aK
 (xb
 (xb (YV 0 1) fun (u:W) =>
 xb (YV 1 1) fun (w:W) (x:DSt) (h:aA) =>
 match fU u,fU w with
                       | some xs,some ys=>some ((mH xs ys,none),h)
                       | x,x_1=>none)
 fun p δ h=>aO (dQ [YG 0,YG 1]) (aC true) (xb (Y2 (aB 0) (aB 1)) (YF d "is_own_answer")) p.2 p.1 p.1 (aX [none,none] δ) h [])))
 (YK jC) δ' p.2)
 YW)
 YE))))))))
 (ends h):=by kernel_rfl
def wQ (d:Nat) (w0:W) (h:aA):aD T (d+1) "is_stand" [w0] h =
 YP
 (YP
 (YP
 (xb (xb (Y2 (aB 0) (xb (Y1 (aC (W.d (PyData.tuple (List.reverse [PyData.int 0,PyData.int 0,PyData.int 0,PyData.int 0,PyData.int 0,PyData.int 0,PyData.int 0,PyData.int 0]))))) (YK bU))) (YF d "is_tuple_of"))
 (fun (w:W) =>
 match w with
     | W.d (PyData.bool true)=>xb (Y1 (aB 0)) (YF d "are_whole")
     | W.d (PyData.bool false)=>aC (W.d (PyData.bool false))
     | x=>xno)
 [some w0] h)
 YW)
 YE)
 (ends h):=by kernel_rfl
def rL (d:Nat) (w0 w1 w2:W) (h:aA):aD T (d+1) "with_value" [w0,w1,w2] h =
 YP
 (YP
 (YP
 (xb
 (xb
 (xb (aB 0) fun (x:W) =>
 xb (aC none) fun (l:Option Int) =>
 xb
 (xb (aB 1) YU)
 (YS3 x l))
 fun u=>xb (xb (xPl (Y1 (aB 2))) YT) (YO .Add u))
 (fun (u:W) =>
 xb
 (xb (aB 0) fun (x:W) =>
 xb
 (xb (xb (aB 1) (YB .Add 1)) YU)
 fun (l:Option Int)=>xb (aC none) (YS3 x l))
 (YO .Add u))
 [some w0,some w1,some w2] h)
 YW)
 YE)
 (ends h):=by kernel_rfl
def mW (d:Nat) (w0 w1:W) (h:aA):aD T (d+1) "done" [w0,w1] h =
 YP
 (YP (aQ 2 (YV 1 0) [some w0,some w1,none] h) (YQ fun δ' p =>
 YP
 (YP (xC1 CmpOp.Eq (aB 2) (YS "span") δ' p.2) fun p =>
 if p.1=true then
 YP
 (YP
 (xb
 (xPl
 (Y2 (xb
 (xPl
 (xb (YS "all") fun (w:W) =>
 xb
 (Y1 (xb (aB 0) fun (x:W) =>
 xb
 (xb (YV 1 1) YU)
 fun (l:Option Int) =>
 xb
 (xb (YV 1 2) YU)
 (YS3 x l)))
 (YC w)))
 YT) (aB 0)))
 (YT) δ' p.2)
 YW)
 YE
 else some (Fl.nx δ',p.2))
 (YQ fun δ' p =>
 YP
 (YP (xC1 CmpOp.Eq (aB 2) (YS "deal") δ' p.2) fun p =>
 if p.1=true then
 YP (YP (xb (Y2 (aB 0) (YV 1 1)) ((YF d "deal_done")) δ' p.2) YW) YE
 else some (Fl.nx δ',p.2))
 (YQ fun δ' p =>
 YP
 (YP (xC1 CmpOp.Eq (aB 2) (YS "look") δ' p.2) fun p =>
 if p.1=true then
 YP (YP (xb (xPl (Y2 (xb (xb (Y2 (aB 0) (YV 1 1)) (YF d "done")) (YI 0)) (aB 0))) (YT) δ' p.2) YW) YE
 else some (Fl.nx δ',p.2))
 (YQ fun δ' p =>
 YP
 (YP (xC1 CmpOp.Eq (aB 2) (YS "lay") δ' p.2) fun p =>
 if p.1=true then
 YP (YP (xb (xPl (Y2 (xb (xPl (Y1 (YS "done"))) YT) (xb (Y2 (aB 0) (YV 1 1)) (YF d "laid")))) (YT) δ' p.2) YW) YE
 else some (Fl.nx δ',p.2))
 (YQ fun δ' p =>
 YP (YP (xb (Y2 (aB 0) (aB 1)) ((YF d "single_done")) δ' p.2) YW) YE))))))
 (ends h):=by kernel_rfl
def cM (d:Nat) (w0 w1:W) (h:aA):aD T (d+1) "single_done" [w0,w1] h =
 YP
 (YP (aQ 2 (YV 1 0) [some w0,some w1,none,none,none] h) (YQ fun δ' p =>
 YP (aQ 3 (YV 1 1) δ' p.2) (YQ fun δ' p =>
 YP (aQ 4 (xb (aB 0) fun x=>xb (aB 3) (YX x)) δ' p.2) (YQ fun δ' p =>
 YP
 (YP (xC1 CmpOp.Eq (aB 2) (YS "write") δ' p.2) fun p =>
 if p.1=true then
 YP (YP (xb (xPl (Y2 (xb (xPl (Y1 (YS "done"))) YT) (xb (Y3 (aB 0) (aB 3) (YV 1 2)) (YF d "with_value")))) (YT) δ' p.2) YW) YE
 else some (Fl.nx δ',p.2))
 (YQ fun δ' p =>
 YP
 (YP (xC1 CmpOp.Eq (aB 2) (YS "add") δ' p.2) fun p =>
 if p.1=true then
 YP (YP (xb (xPl (Y2 (xb (xPl (Y2 (YS "got") (xb (aB 4) fun u=>xb (YV 1 2) (YO .Add u)))) YT) (xb (Y3 (aB 0) (aB 3) (xb (aB 4) fun u=>xb (YV 1 2) (YO .Add u))) (YF d "with_value")))) (YT) δ' p.2) YW) YE
 else some (Fl.nx δ',p.2))
 (YQ fun δ' p =>
 YP
 (YP (xb (xC1 CmpOp.Eq (aB 2) (YS "swap")) (fun c=>if c=true then xC1 CmpOp.Eq (aB 4) (YV 1 2) else aC false) δ' p.2) fun p =>
 if p.1=true then
 YP (YP (xb (xPl (Y2 (xb (xPl (Y1 (YS "yes"))) YT) (xb (Y3 (aB 0) (aB 3) (YV 1 3)) (YF d "with_value")))) (YT) δ' p.2) YW) YE
 else some (Fl.nx δ',p.2))
 (YQ fun δ' p =>
 YP
 (YP (xC1 CmpOp.Eq (aB 2) (YS "swap") δ' p.2) fun p =>
 if p.1=true then
 YP (YP (xb (xPl (Y2 (xb (xPl (Y1 (YS "no"))) YT) (aB 0))) (YT) δ' p.2) YW) YE
 else some (Fl.nx δ',p.2))
 (YQ fun δ' p =>
 YP (YP (xb (xPl (Y2 (xb (xPl (Y2 (YS "got") (aB 4))) YT) (aB 0))) (YT) δ' p.2) YW) YE))))))))
 (ends h):=by kernel_rfl
def uJ (d:Nat) (w0 w1:W) (h:aA):aD T (d+1) "deal_done" [w0,w1] h =
 YP
 (YP (aQ 2 (bZ (xPl (aC []))) [some w0,some w1,none,none,none] h) (YQ fun δ' p =>
 YP
 (YP (bN (aB 1) δ' p.2) fun (p:(List PyData×Option Nat)×aA) =>
 bC (YG 3)
 (fun (x:DSt) (x_1:aA) =>
 YP (aQ 4 (xb (Y2 (aB 0) (aB 3)) (YF d "single_done")) x x_1) (YQ fun δ' p =>
 YP
 (YP
 (xb (aB 2)
 ((YA (Y1 (YV 4 0))))
 δ' p.2)
 fun p=>some (Fl.nx δ',p.2))
 (YQ fun δ' p =>
 YP (aQ 0 (YV 4 1) δ' p.2) YE)))
 (Prod.snd p.1) (Prod.fst p.1) (Prod.fst p.1) δ' p.2)
 (YQ fun δ' p =>
 YP (YP (xb (xPl (Y2 (xb (xPl (Y2 (YS "each") (xb (Y1 (aB 2)) (YK cJ)))) YT) (aB 0))) (YT) δ' p.2) YW) YE)))
 (ends h):=by kernel_rfl
def cI5 (d:Nat) (w0 w1:W) (h:aA):aD T (d+1) "laid" [w0,w1] h =
 YP
 (YP
 (YP (bN (aB 1) [some w0,some w1,none,none] h) fun (p:(List PyData×Option Nat)×aA) =>
 bC (dQ [YG 2,YG 3])
 (fun (x:DSt) (x_1:aA) =>
 YP (aQ 0 (xb (Y3 (aB 0) (aB 2) (aB 3)) (YF d "with_value")) x x_1) YE)
 (Prod.snd p.1) (Prod.fst p.1) (Prod.fst p.1) [some w0,some w1,none,none] p.2)
 (YQ fun δ' p =>
 YP (YP (aB 0 δ' p.2) YW) YE))
 (ends h):=by kernel_rfl
def pO (d:Nat) (w0:W) (h:aA):aD T (d+1) "is_item" [w0] h =
 YP
 (YP
 (YP
 (xb
 (xb
 (xb (xb (Y2 (aB 0) (YJ 3)) (YF d "is_tuple_of")) YD)
 fun (b:Bool)=>aC !b)
 (fun c =>
 if c=true then aC true
 else
 xb
 (xb (xb (Y1 (YV 0 0)) (YF d "is_step")) YD)
 fun (b:Bool)=>aC !b)
 [some w0] h)
 (YT2 false [some w0]))
 (YQ fun δ' p =>
 YP
 (YP
 (xb (xC1 CmpOp.IsNot (YV 0 1) (YZ))
 (fun c =>
 if c=true then
 xb
 (xb (xb (Y2 (YV 0 0) (YV 0 1)) (YF d "is_answer")) YD)
 fun (b:Bool)=>aC !b
 else aC false)
 δ' p.2)
 (YT2 false δ'))
 (YQ fun δ' p =>
 YP
 (YP
 (xb (xb (YV 0 2) (YI2 "str"))
 (fun (w:W) =>
 match w with
         | W.d (PyData.bool true)=>cE (xC1 CmpOp.In (YV 0 2) (aC (W.d (PyData.tuple (List.reverse [PyData.str (Str.ofString "out"),PyData.str (Str.ofString "may"),PyData.str (Str.ofString "must")])))))
         | W.d (PyData.bool false)=>aC (W.d (PyData.bool false))
         | x=>xno)
 δ' p.2)
 YW)
 YE)))
 (ends h):=by kernel_rfl
def uK (d:Nat) (w0:W) (h:aA):aD T (d+1) "are_items" [w0] h =
 YP
 (YP
 (YP
 (xb (xb (aB 0) (YI2 "tuple"))
 (fun (w:W) =>
 match w with
     | W.d (PyData.bool true) =>
      xb (cE (xC1 CmpOp.LtE (xb (Y1 (aB 0)) (YK bU)) (YJ 120))) fun (w:W) =>
 match w with
       | W.d (PyData.bool true)=>xb (Y1 (aK (xb (bN (aB 0)) fun p δ h=>aO (YG 0) (aC true) (xb (Y1 (aB 0)) (YF d "is_item")) p.2 p.1 p.1 (aX [none] δ) h []))) (YK jC)
       | W.d (PyData.bool false)=>aC (W.d (PyData.bool false))
       | x=>xno
     | W.d (PyData.bool false)=>aC (W.d (PyData.bool false))
     | x=>xno)
 [some w0] h)
 YW)
 YE)
 (ends h):=by kernel_rfl
def iH (d:Nat) (w0 w1:W) (h:aA):aD T (d+1) "are_numbers" [w0,w1] h =
 YP
 (YP (YP (xb (Y1 (aK (xb (bN (aB 0)) fun p δ h=>aO (YG 0) (aC true) (xb (Y3 (aB 0) (YJ 0) (xb (aB 1) (YB .Sub 1))) (YF d "is_between")) p.2 p.1 p.1 (aX [none,some 1] δ) h []))) (YK jC) [some w0,some w1] h) YW) YE)
 (ends h):=by kernel_rfl
def rM (d:Nat) (w0 w1 w2:W) (h:aA):aD T (d+1) "are_unlike" [w0,w1,w2] h =
 YP
 (YP
 (YP
 (xb (xb (Y2 (aB 0) (aB 1)) (YF d "is_tuple_of"))
 (fun (w:W) =>
 match w with
     | W.d (PyData.bool true) =>
      xb (xb (Y2 (aB 0) (aB 2)) (YF d "are_numbers")) fun (w:W) =>
 match w with
       | W.d (PyData.bool true)=>cE (xC1 CmpOp.Eq (xb (Y1 (aB 0)) fun (ws:List W) (x:DSt) (h:aA)=>xLS ws h) (aB 1))
       | W.d (PyData.bool false)=>aC (W.d (PyData.bool false))
       | x=>xno
     | W.d (PyData.bool false)=>aC (W.d (PyData.bool false))
     | x=>xno)
 [some w0,some w1,some w2] h)
 YW)
 YE)
 (ends h):=by kernel_rfl
def uL (d:Nat) (w0 w1:W) (h:aA):aD T (d+1) "are_pairs" [w0,w1] h =
 YP
 (YP
 (YP
 (xb
 (xb
 (xb (xb (aB 0) (YI2 "tuple")) YD)
 fun (b:Bool)=>aC !b)
 (fun c=>if c=true then aC true else xC1 CmpOp.Gt (xb (Y1 (aB 0)) (YK bU)) (YJ 4000)) [some w0,some w1] h)
 (YT2 false [some w0,some w1]))
 (YQ fun δ' p =>
 YP (YP (xb (Y1 (aK (xb (bN (aB 0)) fun p δ h=>aO (YG 0) (aC true) (xb (Y3 (aB 0) (YJ 2) (aB 1)) (YF d "are_unlike")) p.2 p.1 p.1 (aX [none,some 1] δ) h []))) (YK jC) δ' p.2) YW) YE))
 (ends h):=by kernel_rfl
def nQ (d:Nat) (w0 w1:W) (h:aA):aD T (d+1) "are_triples" [w0,w1] h =
 YP
 (YP
 (YP
 (xb
 (xb
 (xb (xb (aB 0) (YI2 "tuple")) YD)
 fun (b:Bool)=>aC !b)
 (fun c=>if c=true then aC true else xC1 CmpOp.Gt (xb (Y1 (aB 0)) (YK bU)) (YJ 4000)) [some w0,some w1] h)
 (YT2 false [some w0,some w1]))
 (YQ fun δ' p =>
 YP
 (YP
 (xb
 (xb (xb (Y1 (aK (xb (bN (aB 0)) fun p δ h=>aO (YG 0) (aC true) (xb (Y3 (aB 0) (YJ 3) (xb (Y1 (aB 1)) (YK bU))) (YF d "are_unlike")) p.2 p.1 p.1 (aX [none,some 1] δ) h []))) (YK jC)) YD)
 (fun (b:Bool)=>aC !b) δ' p.2)
 (YT2 false δ'))
 (YQ fun δ' p =>
 YP
 (YP
 (xb
 (Y1 (aK
 (xb (bN (aB 0)) fun p δ h =>
 aO (dQ [YG 0,YG 1,YG 2]) (aC true)
 (xb (cE (xC1 CmpOp.Eq (xb (xb (aB 3) fun x=>xb (aB 0) (YX x)) (YI 2)) (YS "must"))) fun (w:W) =>
 match w with
             | W.d (PyData.bool true)=>cE (xC1 CmpOp.Eq (xb (xb (aB 3) fun x=>xb (aB 1) (YX x)) (YI 2)) (YS "must"))
             | W.d (PyData.bool false)=>aC (W.d (PyData.bool false))
             | x=>xno)
 p.2 p.1 p.1 (aX [none,none,none,some 1] δ) h [])))
 (YK jC) δ' p.2)
 YW)
 YE)))
 (ends h):=by kernel_rfl
def rN (d:Nat) (w0:W) (h:aA):aD T (d+1) "is_problem" [w0] h =
 YP
 (YP
 (YP
 (xb
 (xb
 (xb (xb (Y2 (aB 0) (YJ 4)) (YF d "is_tuple_of")) YD)
 fun (b:Bool)=>aC !b)
 (fun c =>
 if c=true then aC true
 else
 xb
 (xb
 (xb (xb (Y1 (YV 0 0)) (YF d "is_stand")) YD)
 fun (b:Bool)=>aC !b)
 fun c =>
 if c=true then aC true
 else
 xb
 (xb (xb (Y1 (YV 0 1)) (YF d "are_items")) YD)
 fun (b:Bool)=>aC !b)
 [some w0] h)
 (YT2 false [some w0]))
 (YQ fun δ' p =>
 YP
 (YP
 (xb (xb (Y2 (YV 0 2) (xb (Y1 (YV 0 1)) (YK bU))) (YF d "are_pairs"))
 (fun (w:W) =>
 match w with
       | W.d (PyData.bool true)=>xb (Y2 (YV 0 3) (YV 0 1)) (YF d "are_triples")
       | W.d (PyData.bool false)=>aC (W.d (PyData.bool false))
       | x=>xno)
 δ' p.2)
 YW)
 YE))
 (ends h):=by kernel_rfl
def lB (d:Nat) (w0:W) (h:aA):aD T (d+1) "check_problem" [w0] h =
 YP
 (YP
 (YP
 (xb
 (xb (xb (Y1 (aB 0)) (YF d "is_problem")) YD)
 (fun (b:Bool)=>aC !b) [some w0] h)
 fun p =>
 if p.1=true then
 YP none YE
 else some (Fl.nx [some w0],p.2))
 YE)
 (ends h):=by kernel_rfl
def kQ (d:Nat) (w0 w1:W) (h:aA):aD T (d+1) "row_fault" [w0,w1] h =
 YP
 (YP (aQ 2 (xb (Y1 (aB 0)) fun (ws:List W) (x:DSt) (h:aA)=>callW T d (Str.ofString "ways_of") ws h) [some w0,some w1,none,none,none,none,none,none] h) (YQ fun δ' p =>
 YP
 (YP
 (xb
 (xb
 (xb (xb (aB 1) fun (w:W) (x:DSt) (h:aA)=>YP (ref h w) fun (d:PyData)=>some (W.d (PyData.bool (isi d "list"||isi d "tuple")),h)) YD)
 fun (b:Bool)=>aC !b)
 (fun c =>
 if c=true then aC true
 else
 xb
 (xb (xb (Y2 (aB 1) (xb (Y1 (YV 0 1)) (YK bU))) (YF d "are_numbers")) YD)
 fun (b:Bool)=>aC !b)
 δ' p.2)
 fun p =>
 if p.1=true then
 YP (YP (xb (xPl (Y1 (YS "form"))) (YT) δ' p.2) YW) YE
 else some (Fl.nx δ',p.2))
 (YQ fun δ' p =>
 YP (aQ 3 tS δ' p.2) (YQ fun δ' p =>
 YP
 (aQ 4
 (xb (aB 2) (YL "first"))
 δ' p.2)
 (YQ fun δ' p =>
 YP
 (YP
 (xb (aB 1)
 (fun (u:W) (x:DSt) (h:aA) =>
 match fU u with
             | some xs=>some ((fJ xs,none),h)
             | none=>none)
 δ' p.2)
 fun (p:(List PyData×Option Nat)×aA) =>
 bC (dQ [YG 5,YG 6])
 (fun (x:DSt) (x_1:aA) =>
 YP
 (YP
 (xb
 (xb
 (xb (aB 2) (YH d "may_follow" (Y2 (aB 3) (aB 6))))
 YD)
 (fun (b:Bool)=>aC !b) x x_1)
 fun p =>
 if p.1=true then
 YP (YP (xb (xPl (Y2 (YS "place") (aB 5))) (YT) x p.2) YW) YE
 else some (Fl.nx x,p.2))
 (YQ fun δ' p =>
 YP
 (aQ 4
 (xb (aB 2) (YH d "stand_behind" (Y2 (aB 4) (aB 6))))
 δ' p.2)
 (YQ fun δ' p =>
 YP
 (YP (xC1 CmpOp.Is (aB 4) (YZ) δ' p.2) fun p =>
 if p.1=true then
 YP (YP (xb (xPl (Y2 (YS "answer") (aB 5))) (YT) δ' p.2) YW) YE
 else some (Fl.nx δ',p.2))
 (YQ fun δ' p =>
 YP
 (YP (aC (W.d (PyData.bool true)) δ' p.2) fun p =>
 YP
 (YP (aB 3 δ' p.2) fun (p_1:W×aA) =>
 YP (aB 6 δ' (p_1.2)) fun (q:W×aA) =>
 match p_1.1,q.1,p.1 with
                        | W.c j,W.d y,W.d x =>
                         match (q.2)[j]?,y with
                         | some (Cell.l xs),PyData.int k=>Option.map (fun (n:Nat)=>(δ',List.set (q.2) j (Cell.l (List.set xs n x)))) (L2.ixN (List.length xs) k)
                         | some (Cell.k kvs),x_2=>if Option.isSome (bA y)=true/\List.length kvs < sizeLine then some (δ',List.set (q.2) j (Cell.k (mF kvs y x))) else none
                         | x,x_2=>none
                        | x,x_2,x_3=>none)
 fun (q:DSt×aA)=>some (Fl.nx (q.1),q.2))
 YE))))
 (Prod.snd p.1) (Prod.fst p.1) (Prod.fst p.1) δ' p.2)
 (YQ fun δ' p =>
 YP
 (aQ 7
 (xb (aB 2) (YH d "missing" (Y1 (aB 3))))
 δ' p.2)
 (YQ fun δ' p =>
 YP (YP (xb (xC1 CmpOp.Gt (xb (Y1 (aB 7)) (YK bU)) (YJ 0)) (fun (t:Bool)=>if t=true then xb (xPl (Y2 (YS "missing") (YV 7 0))) YT else YZ) δ' p.2) YW) YE)))))))
 (ends h):=by kernel_rfl
def mX (d:Nat) (w0 w1:W) (h:aA):aD T (d+1) "_law_cell_at" [w0,w1] h =
 YP
 (YP
 (YP (xC1 CmpOp.Lt (aB 1) (xb (Y1 (aB 0)) (YK bU)) [some w0,some w1] h) fun p =>
 if p.1=true then
 YP (YP (xb (aB 0) (fun x=>xb (aB 1) (YX x)) [some w0,some w1] p.2) YW) YE
 else some (Fl.nx [some w0,some w1],p.2))
 (YQ fun δ' p =>
 YP (YP (YJ 0 δ' p.2) YW) YE))
 (ends h):=by kernel_rfl
def jI (d:Nat) (w0 w1:W) (h:aA):aD T (d+1) "_law_digit" [w0,w1] h =
 YP
 (YP
 (YP (xC1 CmpOp.Eq (xb (Y1 (aB 0)) (YK bU)) (YJ 1) [some w0,some w1,none,none] h) fun p =>
 if p.1=true then
 YP
 (YP
 (xb (aB 0)
 (fun (w:W) (δ:DSt) (h:aA) =>
 match w with
        | W.c j =>
         match h[j]? with
         | some (Cell.l xs) =>
          YP (xPl (Y2 (xb (YV 0 0) (YB .Mod 2147483647)) (YJ 0)) δ h) fun (p:List PyData×aA) =>
 match p.2[j]? with
           | some (Cell.l xs)=>if List.length xs+List.length p.1<=sizeLine then some (W.d PyData.none,List.set p.2 j (Cell.l (xs++p.1))) else none
           | x=>none
         | x=>none
        | x=>none)
 [some w0,some w1,none,none] p.2)
 fun p=>some (Fl.nx [some w0,some w1,none,none],p.2))
 YE
 else some (Fl.nx [some w0,some w1,none,none],p.2))
 (YQ fun δ' p =>
 YP
 (YP (xC1 CmpOp.Gt (YV 0 0) (YJ 0) δ' p.2) fun p =>
 if p.1=true then
 YP (aQ 2 (xb (YV 0 0) fun u=>xb (aB 1) (YO .Mod u)) δ' p.2) (YQ fun δ' p =>
 YP
 (YP (xb (YV 0 0) (fun u=>xb (aB 1) (YO .FloorDiv u)) δ' p.2) fun p =>
 YP
 (YP (aB 0 δ' p.2) fun (p_1:W×aA) =>
 YP (YJ 0 δ' (p_1.2)) fun (q:W×aA) =>
 match p_1.1,q.1,p.1 with
             | W.c j,W.d y,W.d x =>
              match (q.2)[j]?,y with
              | some (Cell.l xs),PyData.int k=>Option.map (fun (n:Nat)=>(δ',List.set (q.2) j (Cell.l (List.set xs n x)))) (L2.ixN (List.length xs) k)
              | some (Cell.k kvs),x_1=>if Option.isSome (bA y)=true/\List.length kvs < sizeLine then some (δ',List.set (q.2) j (Cell.k (mF kvs y x))) else none
              | x,x_1=>none
             | x,x_1,x_2=>none)
 fun (q:DSt×aA)=>some (Fl.nx (q.1),q.2))
 (YQ fun δ' p =>
 YP (YP (aB 2 δ' p.2) YW) YE))
 else some (Fl.nx δ',p.2))
 (YQ fun δ' p =>
 YP
 (YP (xb (YV 0 2) ((YB .Add 1)) δ' p.2) fun p =>
 YP
 (YP (aB 0 δ' p.2) fun (p_1:W×aA) =>
 YP (YJ 2 δ' (p_1.2)) fun (q:W×aA) =>
 match p_1.1,q.1,p.1 with
          | W.c j,W.d y,W.d x =>
           match (q.2)[j]?,y with
           | some (Cell.l xs),PyData.int k=>Option.map (fun (n:Nat)=>(δ',List.set (q.2) j (Cell.l (List.set xs n x)))) (L2.ixN (List.length xs) k)
           | some (Cell.k kvs),x_1=>if Option.isSome (bA y)=true/\List.length kvs < sizeLine then some (δ',List.set (q.2) j (Cell.k (mF kvs y x))) else none
           | x,x_1=>none
          | x,x_1,x_2=>none)
 fun (q:DSt×aA)=>some (Fl.nx (q.1),q.2))
 (YQ fun δ' p =>
 YP (aQ 3 (xb (xb (xb (xb (YV 0 1) fun u=>xb (xb (YJ 7919) fun u=>xb (YV 0 2) (YO .Mult u)) (YO .Add u)) (YB .Add 1)) (YB .Mult 48271)) (YB .Mod 2147483647)) δ' p.2) (YQ fun δ' p =>
 YP (aQ 3 (xb (xb (aB 3) fun u=>xb (xb (xb (aB 3) (YB .FloorDiv 1009)) (YB .Add 69621)) (YO .Mult u)) (YB .Mod 2147483647)) δ' p.2) (YQ fun δ' p =>
 YP (YP (xb (xb (xb (aB 3) fun u=>xb (xb (xb (aB 3) (YB .FloorDiv 2003)) (YB .Add 40692)) (YO .Mult u)) (YB .Mod 2147483399)) (fun u=>xb (aB 1) (YO .Mod u)) δ' p.2) YW) YE))))))
 (ends h):=by kernel_rfl
def gA (d:Nat) (w0:W) (h:aA):aD T (d+1) "_law_value" [w0] h =
 YP
 (YP (YP (xb (aK (xPl (Y3 (xb (Y2 (aB 0) (YJ 3)) (YF d "_law_digit")) (xb (xb (Y2 (aB 0) (YJ 2)) (YF d "_law_digit")) (YB .Sub 1)) (xb (Y2 (aB 0) (xb (YJ 10) (YB .Pow 12))) (YF d "_law_digit"))))) (fun x=>xb (xb (xb (Y2 (aB 0) (YJ 8)) (YF d "_law_digit")) (YB .FloorDiv 3)) (YX x)) [some w0] h) YW) YE)
 (ends h):=by kernel_rfl
def cH (d:Nat) (w0:W) (h:aA):aD T (d+1) "_law_plain_call" [w0] h =
 YP
 (YP (aQ 1 (xb (Y2 (aB 0) (YJ 4)) (YF d "_law_digit")) [some w0,none,none] h) (YQ fun δ' p =>
 YP (aQ 2 (xb (aK (xPl (Y2 (xb (Y2 (aB 0) (YJ 2)) (YF d "_law_digit")) (xb (Y2 (aB 0) (YJ 8)) (YF d "_law_digit"))))) fun x=>xb (xb (xb (Y2 (aB 0) (YJ 4)) (YF d "_law_digit")) (YB .FloorDiv 3)) (YX x)) δ' p.2) (YQ fun δ' p =>
 YP
 (YP (xC1 CmpOp.Eq (aB 1) (YJ 0) δ' p.2) fun p =>
 if p.1=true then
 YP (YP (xb (xPl (Y2 (YS "read") (aB 2))) (YT) δ' p.2) YW) YE
 else some (Fl.nx δ',p.2))
 (YQ fun δ' p =>
 YP
 (YP (xC1 CmpOp.Eq (aB 1) (YJ 1) δ' p.2) fun p =>
 if p.1=true then
 YP (YP (xb (xPl (Y3 (YS "write") (aB 2) (xb (Y1 (aB 0)) (YF d "_law_value")))) (YT) δ' p.2) YW) YE
 else some (Fl.nx δ',p.2))
 (YQ fun δ' p =>
 YP
 (YP (xC1 CmpOp.Eq (aB 1) (YJ 2) δ' p.2) fun p =>
 if p.1=true then
 YP (YP (xb (xPl (Y3 (YS "add") (aB 2) (xb (Y1 (aB 0)) (YF d "_law_value")))) (YT) δ' p.2) YW) YE
 else some (Fl.nx δ',p.2))
 (YQ fun δ' p =>
 YP (YP (xb (xPl (Y4 (YS "swap") (aB 2) (xb (Y1 (aB 0)) (YF d "_law_value")) (xb (Y1 (aB 0)) (YF d "_law_value")))) (YT) δ' p.2) YW) YE))))))
 (ends h):=by kernel_rfl
def bT (d:Nat) (w0:W) (h:aA):aD T (d+1) "_law_step" [w0] h =
 YP
 (YP (aQ 1 (xb (Y2 (aB 0) (YJ 9)) (YF d "_law_digit")) [some w0,none,none,none,none] h) (YQ fun δ' p =>
   YP
    (YP (xC1 CmpOp.Lt (aB 1) (YJ 5) δ' p.2) fun p =>
     if p.1=true then
      YP (YP (xb (Y1 (aB 0)) ((YF d "_law_plain_call")) δ' p.2) YW) YE
     else some (Fl.nx δ',p.2))
    (YQ fun δ' p =>
     YP
      (YP (xC1 CmpOp.Eq (aB 1) (YJ 5) δ' p.2) fun p =>
       if p.1=true then
        YP (aQ 2 (xb (Y2 (aB 0) (YJ 8)) (YF d "_law_digit")) δ' p.2) (YQ fun δ' p =>
          YP (YP (xb (xPl (Y3 (YS "span") (aB 2) (xb (xb (aB 2) (YB .Add 1)) fun u=>xb (xb (Y2 (aB 0) (xb (YJ 8) fun u=>xb (aB 2) (YO .Sub u))) (YF d "_law_digit")) (YO .Add u)))) (YT) δ' p.2) YW) YE)
       else some (Fl.nx δ',p.2))
      (YQ fun δ' p =>
       YP
        (YP (xC1 CmpOp.Eq (aB 1) (YJ 6) δ' p.2) fun p =>
         if p.1=true then
          YP
           (YP
            (xb
             (xPl
              (xb (YS "deal") fun (w:W) =>
               xb
                (Y1 (xb
                  (Y1 (aK
                    (xb
                     (xb (xb (YJ 1) fun u=>xb (xb (Y2 (aB 0) (YJ 4)) (YF d "_law_digit")) (YO .Add u)) YR)
                     fun p δ h=>aO (YG 0) (aC true) (xb (Y1 (aB 1)) (YF d "_law_plain_call")) p.2 p.1 p.1 (aX [none,some 0] δ) h [])))
                  (YK cJ)))
                (YC w)))
             (YT) δ' p.2)
            YW)
           YE
         else some (Fl.nx δ',p.2))
        (YQ fun δ' p =>
         YP
          (YP (xC1 CmpOp.Eq (aB 1) (YJ 7) δ' p.2) fun p =>
           if p.1=true then
            YP (aQ 2 (xb (Y2 (aB 0) (YJ 8)) (YF d "_law_digit")) δ' p.2) (YQ fun δ' p =>
              YP (aQ 3 (aK (xPl (Y3 (xb (Y1 (aB 0)) (YF d "_law_plain_call")) (xb (xPl (Y3 (YS "span") (aB 2) (YJ 8))) YT) (xb (xPl (Y2 (YS "deal") (xb (xPl (Y2 (xb (Y1 (aB 0)) (YF d "_law_plain_call")) (xb (Y1 (aB 0)) (YF d "_law_plain_call")))) YT))) YT)))) δ' p.2) (YQ fun δ' p =>
                YP (YP (xb (xPl (Y2 (YS "look") (xb (aB 3) fun x=>xb (xb (Y2 (aB 0) (YJ 3)) (YF d "_law_digit")) (YX x)))) (YT) δ' p.2) YW) YE))
           else some (Fl.nx δ',p.2))
          (YQ fun δ' p =>
           YP
            (aQ 4
             (aK
              (xb
               (xb (YJ 8) YR)
               fun p δ h=>aO (YG 0) (xC1 CmpOp.Eq (xb (Y2 (aB 1) (YJ 3)) (YF d "_law_digit")) (YJ 0)) (xb (xPl (Y2 (aB 0) (xb (Y1 (aB 1)) (YF d "_law_value")))) YT) p.2 p.1 p.1 (aX [none,some 0] δ) h []))
             δ' p.2)
            (YQ fun δ' p =>
             YP
              (YP
               (xb
                (xPl
                 (xb (YS "lay") fun (w:W) =>
                  xb
                   (Y1 (xb
                     (Y1 (xb (aB 4) fun (u:W) =>
                       xb
                        (xb (aK (xPl (Y1 (xb (xPl (Y2 (YJ 7) (xb (Y1 (aB 0)) (YF d "_law_value")))) YT)))) fun (x:W) =>
                         xb
                          (xb
                           (xb
                            (Y1 (xb (cE (xC1 CmpOp.NotEq (aB 4) (aK (xPl (aC []))))) fun (w:W) =>
                              match w with
                              | W.d (PyData.bool true) =>
                               cE
                                (xC1 CmpOp.Eq
                                 (xb
                                  (xb (aB 4) fun (x:W) =>
                                   xb
                                    (xb (YJ 1) YNg)
                                    (YX x))
                                  (YI 0))
                                 (YJ 7))
                              | W.d (PyData.bool false)=>aC (W.d (PyData.bool false))
                              | x=>xno))
                            fun (ws:List W) (x:DSt) (h:aA)=>wC ws h)
                           YU)
                          fun (l:Option Int)=>xb (aC none) (YS3 x l))
                        (YO .Add u)))
                     (YK cJ)))
                   (YC w)))
                (YT) δ' p.2)
               YW)
              YE)))))))
 (ends h):=by kernel_rfl
def eR (d:Nat) (w0:W) (h:aA):aD T (d+1) "_law_altered" [w0] h =
 YP
 (YP
 (YP (xC1 CmpOp.Eq (YV 0 0) (YS "got") [some w0] h) fun p =>
 if p.1=true then
 YP (YP (xb (xPl (Y2 (YS "got") (xb (YV 0 1) (YB .Add 1)))) (YT) [some w0] p.2) YW) YE
 else some (Fl.nx [some w0],p.2))
 (YQ fun δ' p =>
 YP
 (YP (xC1 CmpOp.Eq (YV 0 0) (YS "yes") δ' p.2) fun p =>
 if p.1=true then
 YP (YP (xb (xPl (Y1 (YS "no"))) (YT) δ' p.2) YW) YE
 else some (Fl.nx δ',p.2))
 (YQ fun δ' p =>
 YP
 (YP (xC1 CmpOp.Eq (YV 0 0) (YS "no") δ' p.2) fun p =>
 if p.1=true then
 YP (YP (xb (xPl (Y1 (YS "yes"))) (YT) δ' p.2) YW) YE
 else some (Fl.nx δ',p.2))
 (YQ fun δ' p =>
 YP
 (YP (xC1 CmpOp.Eq (YV 0 0) (YS "all") δ' p.2) fun p =>
 if p.1=true then
 YP
 (YP
 (xb
 (xPl
 (xb (YS "all") fun (w:W) =>
 xb
 (Y1 (xb (xb (xPl (Y1 (xb (xb (YV 0 1) (YI 0)) (YB .Sub 1)))) YT) fun (u:W) =>
 xb
 (xb (YV 0 1) fun (x:W) =>
 xb
 (xb (YJ 1) YU)
 fun (l:Option Int)=>xb (aC none) (YS3 x l))
 (YO .Add u)))
 (YC w)))
 (YT) δ' p.2)
 YW)
 YE
 else some (Fl.nx δ',p.2))
 (YQ fun δ' p =>
 YP
 (YP (xC1 CmpOp.Eq (YV 0 0) (YS "each") δ' p.2) fun p =>
 if p.1=true then
 YP (YP (xb (xPl (Y2 (YS "each") (xb (Y1 (aK (xb (bN (YV 0 1)) fun p δ h=>aO (YG 0) (aC true) (xb (Y1 (aB 0)) (YF d "_law_altered")) p.2 p.1 p.1 (aX [none] δ) h []))) (YK cJ)))) (YT) δ' p.2) YW) YE
 else some (Fl.nx δ',p.2))
 (YQ fun δ' p =>
 YP (YP (aB 0 δ' p.2) YW) YE))))))
 (ends h):=by kernel_rfl
def rO (d:Nat) (w0 w1 w2:W) (h:aA):aD T (d+1) "_law_items" [w0,w1,w2] h =
 YP
 (YP (aQ 3 (aB 1) [some w0,some w1,some w2,none,none,none,none,none,none,none,none] h) (YQ fun δ' p =>
 YP
 (aQ 4
 (bZ
 (xb (Y1 (aB 2)) fun (ws:List W) (x:DSt) (h:aA) =>
 match ws with
       | [W.d (PyData.int j)]=>if -2^62<=j/\j < 2^62/\j<=16000000 then some (rng 0 (Int.toNat j),h) else none
       | x=>none))
 δ' p.2)
 (YQ fun δ' p =>
 YP (aQ 5 tS δ' p.2) (YQ fun δ' p =>
 YP
 (YP
 (xb (aB 2)
 (YR)
 δ' p.2)
 fun (p:(List PyData×Option Nat)×aA) =>
 bC (YG 6)
 (fun (x:DSt) (x_1:aA) =>
 YP (aQ 7 (xb (Y1 (aB 0)) (YF d "_law_step")) x x_1) (YQ fun δ' p =>
 YP (YP (xb (Y2 (aB 3) (aB 7)) ((YF d "done")) δ' p.2) fun p=>YP (dQ [YG 8,YG 3] p.1 δ' p.2) fun (q:DSt×aA)=>some (Fl.nx (q.1),q.2)) (YQ fun δ' p =>
 YP (aQ 9 (xb (Y2 (aB 0) (YJ 7)) (YF d "_law_digit")) δ' p.2) (YQ fun δ' p =>
 YP
 (YP (xC1 CmpOp.Eq (aB 9) (YJ 0) δ' p.2) fun p =>
 if p.1=true then
 YP (aQ 8 (YZ) δ' p.2) YE
 else some (Fl.nx δ',p.2))
 (YQ fun δ' p =>
 YP
 (YP (xC1 CmpOp.Eq (aB 9) (YJ 1) δ' p.2) fun p =>
 if p.1=true then
 YP (aQ 8 (xb (Y1 (aB 8)) (YF d "_law_altered")) δ' p.2) YE
 else some (Fl.nx δ',p.2))
 (YQ fun δ' p =>
 YP
 (YP (xb (xC1 CmpOp.Eq (aB 9) (YJ 2)) (fun c=>if c=true then xb (xC1 CmpOp.NotEq (YV 7 0) (YS "look")) fun c=>if c=true then xb (xC1 CmpOp.NotEq (YV 7 0) (YS "lay")) fun c=>if c=true then xC1 CmpOp.Eq (xb (Y2 (aB 0) (YJ 4)) (YF d "_law_digit")) (YJ 0) else aC false else aC false else aC false) δ' p.2) fun p =>
 if p.1=true then
 YP (aQ 8 (xb (xPl (Y1 (YS "refused"))) YT) δ' p.2) YE
 else some (Fl.nx δ',p.2))
 (YQ fun δ' p =>
 YP (aQ 10 (xb (aK (xPl (Y7 (YS "must") (YS "must") (YS "must") (YS "must") (YS "may") (YS "may") (YS "out")))) fun x=>xb (xb (Y2 (aB 0) (YJ 7)) (YF d "_law_digit")) (YX x)) δ' p.2) (YQ fun δ' p =>
 YP
 (YP (xb (xPl (Y3 (aB 7) (aB 8) (aB 10))) (YT) δ' p.2) fun p =>
 YP
 (YP (aB 5 δ' p.2) fun (p_1:W×aA) =>
 YP
 (xb (aB 4)
 (fun (w:W) (δ:DSt) (h:aA) =>
 match w with
                                | W.c j =>
                                 match h[j]? with
                                 | some (Cell.l xs)=>YP (Y1 (xb (Y2 (aB 0) (xb (Y1 (aB 4)) (YK bU))) (YF d "_law_digit")) δ h) fun (p:List W×aA)=>aP5 j p.1 p.2
                                 | x=>none
                                | x=>none)
 δ' (p_1.2))
 fun (q:W×aA) =>
 match p_1.1,q.1,p.1 with
                              | W.c j,W.d y,W.d x =>
                               match (q.2)[j]?,y with
                               | some (Cell.l xs),PyData.int k=>Option.map (fun (n:Nat)=>(δ',List.set (q.2) j (Cell.l (List.set xs n x)))) (L2.ixN (List.length xs) k)
                               | some (Cell.k kvs),x_2=>if Option.isSome (bA y)=true/\List.length kvs < sizeLine then some (δ',List.set (q.2) j (Cell.k (mF kvs y x))) else none
                               | x,x_2=>none
                              | x,x_2,x_3=>none)
 fun (q:DSt×aA)=>some (Fl.nx (q.1),q.2))
 YE))))))))
 (Prod.snd p.1) (Prod.fst p.1) (Prod.fst p.1) δ' p.2)
 (YQ fun δ' p =>
 YP
 (YP
 (xb
 (Y1 (aK
 (xb
 (xb (aB 2) YR)
 fun p δ h=>aO (YG 0) (aC true) (xb (aB 1) fun x=>xb (aB 0) (YX x)) p.2 p.1 p.1 (aX [none,some 5] δ) h [])))
 (YK cJ) δ' p.2)
 YW)
 YE)))))
 (ends h):=by kernel_rfl
def rP (d:Nat) (w0 w1:W) (h:aA):aD T (d+1) "_law_pairs" [w0,w1] h =
 YP
 (YP (aQ 2 (bZ (xPl (aC []))) [some w0,some w1,none,none,none] h) (YQ fun δ' p =>
 YP
 (YP
 (xb (xb (Y2 (aB 0) (YJ 5)) (YF d "_law_digit"))
 (YR)
 δ' p.2)
 fun (p:(List PyData×Option Nat)×aA) =>
 bC (YG 3)
 (fun (x:DSt) (x_1:aA) =>
 YP
 (YP (xC1 CmpOp.Gt (aB 1) (YJ 1) x x_1) fun p =>
 if p.1=true then
 YP (aQ 4 (xb (Y2 (aB 0) (aB 1)) (YF d "_law_digit")) x p.2) (YQ fun δ' p =>
 YP
 (YP
 (xb (aB 2)
 ((YA (Y1 (xb (xPl (Y2 (aB 4) (xb (xb (xb (aB 4) (YB .Add 1)) fun u=>xb (xb (Y2 (aB 0) (xb (aB 1) (YB .Sub 1))) (YF d "_law_digit")) (YO .Add u)) fun u=>xb (aB 1) (YO .Mod u)))) YT))))
 δ' p.2)
 fun p=>some (Fl.nx δ',p.2))
 YE)
 else some (Fl.nx x,p.2))
 YE)
 (Prod.snd p.1) (Prod.fst p.1) (Prod.fst p.1) δ' p.2)
 (YQ fun δ' p =>
 YP (YP (xb (Y1 (aB 2)) (YK cJ) δ' p.2) YW) YE)))
 (ends h):=by kernel_rfl
def mY (d:Nat) (w0 w1:W) (h:aA):aD T (d+1) "_law_triples" [w0,w1] h =
 YP
 (YP
 (aQ 3
 (aK
 (xb
 (xb (xb (Y1 (aB 1)) (YK bU)) YR)
 fun p δ h=>aO (YG 0) (xC1 CmpOp.Eq (xb (xb (aB 1) fun x=>xb (aB 0) (YX x)) (YI 2)) (YS "must")) (aB 0) p.2 p.1 p.1 (aX [none,some 1] δ) h []))
 [some w0,some w1,none,none,none,none,none,none] h)
 (YQ fun δ' p =>
 YP (aQ 4 (bZ (xPl (aC []))) δ' p.2) (YQ fun δ' p =>
 YP
 (YP
 (xb (xb (Y2 (aB 0) (YJ 4)) (YF d "_law_digit"))
 (YR)
 δ' p.2)
 fun (p:(List PyData×Option Nat)×aA) =>
 bC (YG 5)
 (fun (x:DSt) (x_1:aA) =>
 YP
 (YP (xb (xC1 CmpOp.Gt (xb (Y1 (aB 3)) (YK bU)) (YJ 1)) (fun c=>if c=true then xC1 CmpOp.Gt (xb (Y1 (aB 1)) (YK bU)) (YJ 2) else aC false) x x_1) fun p =>
 if p.1=true then
 YP (aQ 2 (xb (Y2 (aB 0) (xb (Y1 (aB 3)) (YK bU))) (YF d "_law_digit")) x p.2) (YQ fun δ' p =>
 YP (aQ 6 (xb (xb (xb (aB 2) (YB .Add 1)) fun u=>xb (xb (Y2 (aB 0) (xb (xb (Y1 (aB 3)) (YK bU)) (YB .Sub 1))) (YF d "_law_digit")) (YO .Add u)) fun u=>xb (xb (Y1 (aB 3)) (YK bU)) (YO .Mod u)) δ' p.2) (YQ fun δ' p =>
 YP
 (aQ 7
 (aK
 (xb
 (xb (xb (Y1 (aB 1)) (YK bU)) YR)
 fun p δ h=>aO (YG 0) (xb (xC1 CmpOp.NotEq (aB 0) (xb (aB 1) fun x=>xb (aB 2) (YX x))) fun c=>if c=true then xC1 CmpOp.NotEq (aB 0) (xb (aB 1) fun x=>xb (aB 3) (YX x)) else aC false) (aB 0) p.2 p.1 p.1 (aX [none,some 3,some 2,some 6] δ) h []))
 δ' p.2)
 (YQ fun δ' p =>
 YP
 (YP
 (xb (aB 4)
 ((YA (Y1 (xb (xPl (Y3 (xb (aB 3) fun x=>xb (aB 2) (YX x)) (xb (aB 3) fun x=>xb (aB 6) (YX x)) (xb (aB 7) fun x=>xb (xb (Y2 (aB 0) (xb (Y1 (aB 7)) (YK bU))) (YF d "_law_digit")) (YX x)))) YT))))
 δ' p.2)
 fun p=>some (Fl.nx δ',p.2))
 YE)))
 else some (Fl.nx x,p.2))
 YE)
 (Prod.snd p.1) (Prod.fst p.1) (Prod.fst p.1) δ' p.2)
 (YQ fun δ' p =>
 YP (YP (xb (Y1 (aB 4)) (YK cJ) δ' p.2) YW) YE))))
 (ends h):=by kernel_rfl
def mZ (d:Nat) (w0 w1:W) (h:aA):aD T (d+1) "_law_problem" [w0,w1] h =
 YP
 (YP (aQ 2 (bZ (xPl (Y1 (aB 0)))) [some w0,some w1,none,none,none,none] h) (YQ fun δ' p =>
 YP (aQ 3 (xb (Y2 (aB 2) (xb (aB 1) (YB .Add 1))) (YF d "_law_digit")) δ' p.2) (YQ fun δ' p =>
 YP (aQ 4 (aC (W.d (PyData.tuple (List.reverse [PyData.int 0,PyData.int 0,PyData.int 0,PyData.int 0,PyData.int 0,PyData.int 0,PyData.int 0,PyData.int 0])))) δ' p.2) (YQ fun δ' p =>
 YP
 (YP (xC1 CmpOp.Eq (xb (Y2 (aB 2) (YJ 3)) (YF d "_law_digit")) (YJ 0) δ' p.2) fun p =>
 if p.1=true then
 YP
 (aQ 4
 (xb
 (Y1 (aK
 (xb
 (xb (YJ 8) YR)
 fun p δ h=>aO (YG 0) (aC true) (xb (Y1 (aB 1)) (YF d "_law_value")) p.2 p.1 p.1 (aX [none,some 2] δ) h [])))
 (YK cJ))
 δ' p.2)
 YE
 else some (Fl.nx δ',p.2))
 (YQ fun δ' p =>
 YP (aQ 5 (xb (Y3 (aB 2) (aB 4) (aB 3)) (YF d "_law_items")) δ' p.2) (YQ fun δ' p =>
 YP (YP (xb (xPl (Y4 (aB 4) (aB 5) (xb (Y2 (aB 2) (aB 3)) (YF d "_law_pairs")) (xb (Y2 (aB 2) (aB 5)) (YF d "_law_triples")))) (YT) δ' p.2) YW) YE))))))
 (ends h):=by kernel_rfl
def wR (d:Nat) (w0 w1 w2:W) (h:aA):aD T (d+1) "_law_may" [w0,w1,w2] h =
 YP
 (YP
 (YP (xb (xC1 CmpOp.In (aB 2) (aB 1)) (fun c=>if c=true then aC true else xC1 CmpOp.Eq (xb (xb (YV 0 1) fun x=>xb (aB 2) (YX x)) (YI 2)) (YS "out")) [some w0,some w1,some w2,none,none,none] h) (YT2 false [some w0,some w1,some w2,none,none,none]))
 (YQ fun δ' p =>
 YP
 (YP (bN (YV 0 2) δ' p.2) fun (p:(List PyData×Option Nat)×aA) =>
 bC (dQ [YG 3,YG 4])
 (fun (x:DSt) (x_1:aA) =>
 YP
 (YP (xb (xb (xC1 CmpOp.Eq (aB 4) (aB 2)) fun c=>if c=true then xb (xC1 CmpOp.Eq (xb (xb (YV 0 1) fun x=>xb (aB 3) (YX x)) (YI 2)) (YS "must")) fun c=>if c=true then xC1 CmpOp.NotIn (aB 3) (aB 1) else aC false else aC false) (fun c=>if c=true then aC true else xb (xC1 CmpOp.Eq (aB 3) (aB 2)) fun c=>if c=true then xC1 CmpOp.In (aB 4) (aB 1) else aC false) x x_1) (YT2 false x))
 YE)
 (Prod.snd p.1) (Prod.fst p.1) (Prod.fst p.1) δ' p.2)
 (YQ fun δ' p =>
 YP
 (YP (bN (YV 0 3) δ' p.2) fun (p:(List PyData×Option Nat)×aA) =>
 bC (dQ [YG 3,YG 4,YG 5])
 (fun (x:DSt) (x_1:aA) =>
 YP
 (YP (xb (xC1 CmpOp.Eq (aB 5) (aB 2)) (fun c=>if c=true then xb (xC1 CmpOp.In (aB 3) (aB 1)) fun c=>if c=true then xC1 CmpOp.NotIn (aB 4) (aB 1) else aC false else aC false) x x_1) (YT2 false x))
 YE)
 (Prod.snd p.1) (Prod.fst p.1) (Prod.fst p.1) δ' p.2)
 (YQ fun δ' p =>
 YP (YP (aC (W.d (PyData.bool true)) δ' p.2) YW) YE))))
 (ends h):=by kernel_rfl
def jJ (d:Nat) (w0 w1 w2:W) (h:aA):aD T (d+1) "_law_later" [w0,w1,w2] h =
 YP
 (YP (YP (xb (Y2 (aB 1) (xb (xb (YV 0 1) fun x=>xb (aB 2) (YX x)) (YI 0))) ((YF d "done")) [some w0,some w1,some w2,none,none] h) fun p=>YP (dQ [YG 3,YG 4] p.1 [some w0,some w1,some w2,none,none] p.2) fun (q:DSt×aA)=>some (Fl.nx (q.1),q.2)) (YQ fun δ' p =>
 YP
 (YP (xb (xC1 CmpOp.IsNot (xb (xb (YV 0 1) fun x=>xb (aB 2) (YX x)) (YI 1)) (YZ)) (fun c=>if c=true then xC1 CmpOp.NotEq (aB 3) (xb (xb (YV 0 1) fun x=>xb (aB 2) (YX x)) (YI 1)) else aC false) δ' p.2) fun p =>
 if p.1=true then
 YP (YP (YZ δ' p.2) YW) YE
 else some (Fl.nx δ',p.2))
 (YQ fun δ' p =>
 YP (YP (aB 4 δ' p.2) YW) YE)))
 (ends h):=by kernel_rfl
def wS (d:Nat) (w0 w1:W) (h:aA):aD T (d+1) "_law_due" [w0,w1] h =
 YP
 (YP (aQ 2 (YV 0 0) [some w0,some w1,none,none,none] h) (YQ fun δ' p =>
 YP
 (YP
 (xb (xb (Y1 (aB 1)) (YK bU))
 (YR)
 δ' p.2)
 fun (p:(List PyData×Option Nat)×aA) =>
 bC (YG 3)
 (fun (x:DSt) (x_1:aA) =>
 YP
 (YP
 (xb
 (xb
 (xb
 (xb (aB 0) fun (w:W) =>
 xb
 (Y2 (xb (aB 1) fun (x:W) =>
 xb (aC none) fun (l:Option Int) =>
 xb
 (xb (aB 3) YU)
 (YS3 x l)) (xb (aB 1) fun x=>xb (aB 3) (YX x)))
 (YC w))
 (YF d "_law_may"))
 YD)
 (fun (b:Bool)=>aC !b) x x_1)
 fun p =>
 if p.1=true then
 YP (YP (xb (xPl (Y2 (YS "place") (aB 3))) (YT) x p.2) YW) YE
 else some (Fl.nx x,p.2))
 (YQ fun δ' p =>
 YP (aQ 2 (xb (Y3 (aB 0) (aB 2) (xb (aB 1) fun x=>xb (aB 3) (YX x))) (YF d "_law_later")) δ' p.2) (YQ fun δ' p =>
 YP
 (YP (xC1 CmpOp.Is (aB 2) (YZ) δ' p.2) fun p =>
 if p.1=true then
 YP (YP (xb (xPl (Y2 (YS "answer") (aB 3))) (YT) δ' p.2) YW) YE
 else some (Fl.nx δ',p.2))
 YE)))
 (Prod.snd p.1) (Prod.fst p.1) (Prod.fst p.1) δ' p.2)
 (YQ fun δ' p =>
 YP
 (YP
 (xb (xb (Y1 (YV 0 1)) (YK bU))
 (YR)
 δ' p.2)
 fun (p:(List PyData×Option Nat)×aA) =>
 bC (YG 4)
 (fun (x:DSt) (x_1:aA) =>
 YP
 (YP (xb (xC1 CmpOp.Eq (xb (xb (YV 0 1) fun x=>xb (aB 4) (YX x)) (YI 2)) (YS "must")) (fun c=>if c=true then xC1 CmpOp.NotIn (aB 4) (aB 1) else aC false) x x_1) fun p =>
 if p.1=true then
 YP (YP (xb (xPl (Y2 (YS "missing") (aB 4))) (YT) x p.2) YW) YE
 else some (Fl.nx x,p.2))
 YE)
 (Prod.snd p.1) (Prod.fst p.1) (Prod.fst p.1) δ' p.2)
 (YQ fun δ' p =>
 YP (YP (YZ δ' p.2) YW) YE))))
 (ends h):=by kernel_rfl
def uM (d:Nat) (w0 w1:W) (h:aA):aD T (d+1) "_law_line" [w0,w1] h =
 YP
 (YP (aQ 2 (bZ (xPl (aC []))) [some w0,some w1,none,none,none,none,none] h) (YQ fun δ' p =>
 YP (aQ 3 (YV 0 0) δ' p.2) (YQ fun δ' p =>
 YP (aQ 4 (cE (xC1 CmpOp.Gt (xb (Y2 (aB 1) (YJ 4)) (YF d "_law_digit")) (YJ 0))) δ' p.2) (YQ fun δ' p =>
 YP
 (YP
 (xb (xb (Y1 (YV 0 1)) (YK bU))
 (YR)
 δ' p.2)
 fun (p:(List PyData×Option Nat)×aA) =>
 bC (YG 5)
 (fun (x:DSt) (x_1:aA) =>
 YP
 (aQ 6
 (aK
 (xb
 (xb (xb (Y1 (YV 0 1)) (YK bU)) YR)
 fun p δ h=>aO (YG 0) (xC1 CmpOp.NotIn (aB 0) (aB 1)) (aB 0) p.2 p.1 p.1 (aX [none,some 2] δ) h []))
 x x_1)
 (YQ fun δ' p =>
 YP
 (YP
 (xb (aB 4)
 (YD)
 δ' p.2)
 fun p =>
 if p.1=true then
 YP
 (aQ 6
 (aK
 (xb (bN (aB 6)) fun p δ h =>
 aO (YG 0)
 (xb
 (xb (xb (Y3 (aB 2) (aB 1) (aB 0)) (YF d "_law_may")) YD)
 fun c=>if c=true then xC1 CmpOp.IsNot (xb (Y3 (aB 2) (aB 3) (aB 0)) (YF d "_law_later")) (YZ) else aC false)
 (aB 0) p.2 p.1 p.1 (aX [none,some 2,some 0,some 3] δ) h []))
 δ' p.2)
 YE
 else some (Fl.nx δ',p.2))
 (YQ fun δ' p =>
 YP
 (YP (xC1 CmpOp.NotEq (aB 6) (aK (xPl (aC []))) δ' p.2) fun p =>
 if p.1=true then
 YP
 (YP
 (xb (aB 2)
 ((YA (Y1 (xb (aB 6) fun x=>xb (xb (Y2 (aB 1) (xb (Y1 (aB 6)) (YK bU))) (YF d "_law_digit")) (YX x)))))
 δ' p.2)
 fun p=>some (Fl.nx δ',p.2))
 (YQ fun δ' p =>
 YP
 (YP
 (xb (aB 4)
 (YD)
 δ' p.2)
 fun p =>
 if p.1=true then
 YP
 (aQ 3
 (xb
 (xb (aB 0) fun (w:W) =>
 xb
 (xb (aB 3) fun (w:W) =>
 xb
 (Y1 (xb (aB 2) fun (x:W) =>
 xb
 (xb (YJ 1) YNg)
 (YX x)))
 (YC w))
 (YC w))
 (YF d "_law_later"))
 δ' p.2)
 YE
 else some (Fl.nx δ',p.2))
 YE)
 else some (Fl.nx δ',p.2))
 YE)))
 (Prod.snd p.1) (Prod.fst p.1) (Prod.fst p.1) δ' p.2)
 (YQ fun δ' p =>
 YP (YP (aB 2 δ' p.2) YW) YE)))))
 (ends h):=by kernel_rfl
def uN (d:Nat) (w0 w1 w2:W) (h:aA):aD T (d+1) "_law_bent" [w0,w1,w2] h =
 YP
 (YP (aQ 3 (xb (Y2 (aB 1) (YJ 9)) (YF d "_law_digit")) [some w0,some w1,some w2,none,none,none] h) (YQ fun δ' p =>
 YP (aQ 4 (xb (Y2 (aB 1) (xb (xb (Y1 (aB 0)) (YK bU)) (YB .Add 1))) (YF d "_law_digit")) δ' p.2) (YQ fun δ' p =>
 YP
 (YP (xC1 CmpOp.Eq (aB 3) (YJ 0) δ' p.2) fun p =>
 if p.1=true then
 YP
 (YP
 (xb
 (xb (aB 0) fun (x:W) =>
 xb (aC none) fun (l:Option Int) =>
 xb
 (xb (aB 4) YU)
 (YS3 x l))
 (fun (u:W) =>
 xb
 (xb (aB 0) fun (x:W) =>
 xb
 (xb (xb (aB 4) (YB .Add 1)) YU)
 fun (l:Option Int)=>xb (aC none) (YS3 x l))
 (YO .Add u))
 δ' p.2)
 YW)
 YE
 else some (Fl.nx δ',p.2))
 (YQ fun δ' p =>
 YP
 (YP (xb (xC1 CmpOp.Eq (aB 3) (YJ 1)) (fun c=>if c=true then xC1 CmpOp.NotEq (aB 0) (aK (xPl (aC []))) else aC false) δ' p.2) fun p =>
 if p.1=true then
 YP
 (YP
 (xb
 (xb
 (xb (aB 0) fun (x:W) =>
 xb (aC none) fun (l:Option Int) =>
 xb
 (xb (aB 4) YU)
 (YS3 x l))
 fun u=>xb (aK (xPl (Y1 (xb (aB 0) fun x=>xb (xb (Y2 (aB 1) (xb (Y1 (aB 0)) (YK bU))) (YF d "_law_digit")) (YX x))))) (YO .Add u))
 (fun (u:W) =>
 xb
 (xb (aB 0) fun (x:W) =>
 xb
 (xb (aB 4) YU)
 fun (l:Option Int)=>xb (aC none) (YS3 x l))
 (YO .Add u))
 δ' p.2)
 YW)
 YE
 else some (Fl.nx δ',p.2))
 (YQ fun δ' p =>
 YP
 (aQ 5
 (aK
 (xb
 (xb (aB 2) YR)
 fun p δ h=>aO (YG 0) (xC1 CmpOp.NotIn (aB 0) (aB 1)) (aB 0) p.2 p.1 p.1 (aX [none,some 0] δ) h []))
 δ' p.2)
 (YQ fun δ' p =>
 YP
 (YP (xb (xC1 CmpOp.Eq (aB 3) (YJ 3)) (fun c=>if c=true then xC1 CmpOp.NotEq (aB 5) (aK (xPl (aC []))) else aC false) δ' p.2) fun p =>
 if p.1=true then
 YP
 (YP
 (xb
 (xb
 (xb (aB 0) fun (x:W) =>
 xb (aC none) fun (l:Option Int) =>
 xb
 (xb (aB 4) YU)
 (YS3 x l))
 fun u=>xb (aK (xPl (Y1 (xb (aB 5) fun x=>xb (xb (Y2 (aB 1) (xb (Y1 (aB 5)) (YK bU))) (YF d "_law_digit")) (YX x))))) (YO .Add u))
 (fun (u:W) =>
 xb
 (xb (aB 0) fun (x:W) =>
 xb
 (xb (aB 4) YU)
 fun (l:Option Int)=>xb (aC none) (YS3 x l))
 (YO .Add u))
 δ' p.2)
 YW)
 YE
 else some (Fl.nx δ',p.2))
 (YQ fun δ' p =>
 YP
 (YP (xb (xC1 CmpOp.Eq (aB 3) (YJ 2)) (fun c=>if c=true then xC1 CmpOp.Gt (aB 4) (YJ 0) else aC false) δ' p.2) fun p =>
 if p.1=true then
 YP
 (YP
 (xb
 (xb
 (xb (aB 0) fun (x:W) =>
 xb (aC none) fun (l:Option Int) =>
 xb
 (xb (xb (aB 4) (YB .Sub 1)) YU)
 (YS3 x l))
 fun (u:W) =>
 xb
 (xb (aB 0) fun (x:W) =>
 xb
 (xb (aB 4) YU)
 fun (l:Option Int)=>xb (aC none) (YS3 x l))
 (YO .Add u))
 (fun u=>xb (aK (xPl (Y1 (xb (aB 0) fun x=>xb (xb (aB 4) (YB .Sub 1)) (YX x))))) (YO .Add u)) δ' p.2)
 YW)
 YE
 else some (Fl.nx δ',p.2))
 (YQ fun δ' p =>
 YP (YP (aB 0 δ' p.2) YW) YE))))))))
 (ends h):=by kernel_rfl
def cW1 (d:Nat) (w0:W) (h:aA):aD T (d+1) "law" [w0] h =
 YP
 (YP (aQ 1 (cE (xC1 CmpOp.Eq (xb (xb (Y2 (aB 0) (YJ 0)) (YF d "_law_cell_at")) (YB .Mod 8)) (YJ 7))) [some w0,none,none,none,none,none,none,none,none] h) (YQ fun δ' p =>
 YP (aQ 2 (xb (Y2 (xb (xb (Y2 (aB 0) (YJ 0)) (YF d "_law_cell_at")) (YB .FloorDiv 8)) (xb (aK (xPl (Y2 (YJ 7) (YJ 60)))) fun x=>xb (xb (Y1 (aB 1)) fun (ws:List W) (x:DSt) (h:aA)=>wC ws h) (YX x))) (YF d "_law_problem")) δ' p.2) (YQ fun δ' p =>
 YP (aQ 3 (xb (Y1 (YV 2 1)) (YK bU)) δ' p.2) (YQ fun δ' p =>
 YP
 (YP
 (bN
 (xb (aB 0) fun (x:W) =>
 xb
 (xb (YJ 1) YU)
 fun (l:Option Int) =>
 xb
 (xb (xb (aK (xPl (Y2 (YJ 11) (YJ 2)))) fun x=>xb (xb (Y1 (aB 1)) fun (ws:List W) (x:DSt) (h:aA)=>wC ws h) (YX x)) YU)
 (YS3 x l))
 δ' p.2)
 fun (p:(List PyData×Option Nat)×aA) =>
 bC (YG 4)
 (fun (x:DSt) (x_1:aA) =>
 YP (aQ 5 (bZ (xPl (Y1 (aB 4)))) x x_1) (YQ fun δ' p =>
 YP (aQ 6 (xb (Y3 (xb (Y2 (aB 2) (aB 5)) (YF d "_law_line")) (aB 5) (aB 3)) (YF d "_law_bent")) δ' p.2) (YQ fun δ' p =>
 YP (aQ 7 (xb (Y2 (aB 2) (aB 6)) (YF d "_law_due")) δ' p.2) (YQ fun δ' p =>
 YP
 (YP (xb (xC1 CmpOp.NotEq (xb (Y2 (aB 2) (aB 6)) (YF d "row_fault")) (aB 7)) (fun c=>if c=true then aC true else xC1 CmpOp.NotEq (xb (Y2 (aB 2) (xb (Y1 (aB 6)) (YK cJ))) (YF d "row_fault")) (aB 7)) δ' p.2) (YT2 false δ'))
 (YQ fun δ' p =>
 YP
 (YP
 (bN
 (aK
 (xPl
 (xb (xb (aB 6) fun u=>xb (aK (xPl (Y1 (aB 3)))) (YO .Add u)) fun (w:W) =>
 xb
 (Y6 (xb
 (aK
 (xPl
 (Y1 (xb (YJ 1) YNg))))
 fun u=>xb (aB 6) (YO .Add u)) (xb (aB 6) fun u=>xb (aK (xPl (Y1 (aC (W.d (PyData.bool true)))))) (YO .Add u)) (xb (aB 6) fun u=>xb (aK (xPl (Y1 (YZ)))) (YO .Add u)) (YS "row") (YZ) (YJ 0))
 (YC w))))
 δ' p.2)
 fun (p:(List PyData×Option Nat)×aA) =>
 bC (YG 8)
 (fun (x:DSt) (x_2:aA) =>
 YP
 (YP (xC1 CmpOp.NotEq (xb (Y2 (aB 2) (aB 8)) (YF d "row_fault")) (xb (xPl (Y1 (YS "form"))) YT) x x_2) (YT2 false x))
 YE)
 (Prod.snd p.1) (Prod.fst p.1) (Prod.fst p.1) δ' p.2)
 YE)))))
 (Prod.snd p.1) (Prod.fst p.1) (Prod.fst p.1) δ' p.2)
 (YQ fun δ' p =>
 YP (YP (aC (W.d (PyData.bool true)) δ' p.2) YW) YE)))))
 (ends h):=by kernel_rfl
def wT (d:Nat) (w0:W) (h:aA):callW T (d+1) "ways_of" [w0] h =
 YP
 (YP (YP (xb (Y1 (aB 0)) ((YF d "check_problem")) [some w0] h) fun p=>some (Fl.nx [some w0],p.2)) (YQ fun δ' p =>
 YP (YP (xb (Y1 (aB 0)) (fun (ws:List W) (x:DSt) (h:aA)=>xMk 289 (callI T d (Str.ofString "Ways")) ws h) δ' p.2) YW) YE))
 iG:=by kernel_rfl
def bH6 (d:Nat) (w0 w1:W) (h:aA):callI T (d+2) "Ways" [w0,w1] h =
 YP
 (YP
 (YP (xb (aB 1) (YI 0) [some w0,some w1,none,none,none] h) fun p =>
 YP (aB 0 [some w0,some w1,none,none,none] p.2) (YM "first" [some w0,some w1,none,none,none] p.1))
 (YQ fun δ' p =>
 YP
 (YP (xb (aB 1) (YI 1) δ' p.2) fun p =>
 YP (aB 0 δ' p.2) (YM "listed" δ' p.1))
 (YQ fun δ' p =>
 YP
 (YP
 (aK
 (xb
 (xb
 (xb (aB 0) (YL "listed"))
 fun (u:W) (x:DSt) (h:aA) =>
 match fU u with
          | some xs=>some ((fJ xs,none),h)
          | none=>none)
 fun p δ h=>aO (dQ [YG 0,YG 1]) (xC1 CmpOp.Eq (YV 1 2) (YS "must")) (aB 0) p.2 p.1 p.1 (aX [none,none] δ) h [])
 δ' p.2)
 fun p =>
 YP (aB 0 δ' p.2) (YM "musts" δ' p.1))
 (YQ fun δ' p =>
 YP
 (YP
 (xb
 (bN
 (xb (aB 0) (YL "listed")))
 (fun p δ h=>YP (dD (YG 0) (aC true) (bZ (xPl (aC []))) p.2 p.1 p.1 (aX [none] δ) h []) fun (q:List Nat×aA)=>some (W.c (List.length (q.2)),q.2++[Cell.r (q.1)])) δ' p.2)
 fun p =>
 YP (aB 0 δ' p.2) (YM "ahead" δ' p.1))
 (YQ fun δ' p =>
 YP
 (YP
 (xb
 (bN
 (xb (aB 0) (YL "listed")))
 (fun p δ h=>YP (dD (YG 0) (aC true) (bZ (xPl (aC []))) p.2 p.1 p.1 (aX [none] δ) h []) fun (q:List Nat×aA)=>some (W.c (List.length (q.2)),q.2++[Cell.r (q.1)])) δ' p.2)
 fun p =>
 YP (aB 0 δ' p.2) (YM "later" δ' p.1))
 (YQ fun δ' p =>
 YP
 (YP
 (xb
 (bN
 (xb (aB 0) (YL "listed")))
 (fun p δ h=>YP (dD (YG 0) (aC true) (bZ (xPl (aC []))) p.2 p.1 p.1 (aX [none] δ) h []) fun (q:List Nat×aA)=>some (W.c (List.length (q.2)),q.2++[Cell.r (q.1)])) δ' p.2)
 fun p =>
 YP (aB 0 δ' p.2) (YM "gaps" δ' p.1))
 (YQ fun δ' p =>
 YP
 (YP (bN (YV 1 2) δ' p.2) fun (p:(List PyData×Option Nat)×aA) =>
 bC (dQ [YG 2,YG 3])
 (fun (x:DSt) (x_1:aA) =>
 YP
 (YP
 (xb
 (xb
 (xb (aB 0) (YL "later"))
 fun x=>xb (aB 2) (YX x))
 ((YA (Y1 (aB 3))))
 x x_1)
 fun p=>some (Fl.nx x,p.2))
 (YQ fun δ' p =>
 YP
 (YP
 (xC1 CmpOp.Eq
 (xb
 (xb
 (xb (aB 0) (YL "listed"))
 fun x=>xb (aB 2) (YX x))
 (YI 2))
 (YS "must") δ' p.2)
 fun p =>
 if p.1=true then
 YP
 (YP
 (xb
 (xb
 (xb (aB 0) (YL "ahead"))
 fun x=>xb (aB 3) (YX x))
 ((YA (Y1 (aB 2))))
 δ' p.2)
 fun p=>some (Fl.nx δ',p.2))
 YE
 else some (Fl.nx δ',p.2))
 YE))
 (Prod.snd p.1) (Prod.fst p.1) (Prod.fst p.1) δ' p.2)
 (YQ fun δ' p =>
 YP
 (YP (bN (YV 1 3) δ' p.2) fun (p:(List PyData×Option Nat)×aA) =>
 bC (dQ [YG 2,YG 3,YG 4])
 (fun (x:DSt) (x_1:aA) =>
 YP
 (YP
 (xb
 (xb
 (xb (aB 0) (YL "gaps"))
 fun x=>xb (aB 4) (YX x))
 ((YA (Y1 (xb (xPl (Y2 (aB 2) (aB 3))) YT))))
 x x_1)
 fun p=>some (Fl.nx x,p.2))
 YE)
 (Prod.snd p.1) (Prod.fst p.1) (Prod.fst p.1) δ' p.2)
 YE))))))))
 iG:=by kernel_rfl
def gH (d:Nat) (w0 w1 w2:W) (h:aA):callM T (d+1) "stand_behind" [w0,w1,w2] h =
 YP
 (YP
 (aQ 3
 (xb
 (xb (aB 1) fun (w:W) =>
 xb
 (Y1 (xb
 (xb
 (xb (aB 0) (YL "listed"))
 fun x=>xb (aB 2) (YX x))
 (YI 0)))
 (YC w))
 (YF d "done"))
 [some w0,some w1,some w2,none,none] h)
 (YQ fun δ' p =>
 YP
 (aQ 4
 (xb
 (xb
 (xb (aB 0) (YL "listed"))
 fun x=>xb (aB 2) (YX x))
 (YI 1))
 δ' p.2)
 (YQ fun δ' p =>
 YP (YP (xb (xb (xC1 CmpOp.Is (aB 4) (YZ)) fun c=>if c=true then aC true else xC1 CmpOp.Eq (aB 4) (YV 3 0)) (fun (t:Bool)=>if t=true then xb (aB 3) (YI 1) else YZ) δ' p.2) YW) YE)))
 iG:=by kernel_rfl
def nR (d:Nat) (w0 w1 w2:W) (h:aA):callM T (d+1) "may_follow" [w0,w1,w2] h =
 YP
 (YP
 (YP
 (xb (xC1 CmpOp.In (aB 2) (aB 1))
 (fun c =>
 if c=true then aC true
 else
 xC1 CmpOp.Eq
 (xb
 (xb
 (xb (aB 0) (YL "listed"))
 fun x=>xb (aB 2) (YX x))
 (YI 2))
 (YS "out"))
 [some w0,some w1,some w2,none,none,none,none] h)
 (YT2 false [some w0,some w1,some w2,none,none,none,none]))
 (YQ fun δ' p =>
 YP
 (YP
 (bN
 (xb
 (xb (aB 0) (YL "ahead"))
 fun x=>xb (aB 2) (YX x))
 δ' p.2)
 fun (p:(List PyData×Option Nat)×aA) =>
 bC (YG 3)
 (fun (x:DSt) (x_1:aA) =>
 YP
 (YP (xC1 CmpOp.NotIn (aB 3) (aB 1) x x_1) (YT2 false x))
 YE)
 (Prod.snd p.1) (Prod.fst p.1) (Prod.fst p.1) δ' p.2)
 (YQ fun δ' p =>
 YP
 (YP
 (bN
 (xb
 (xb (aB 0) (YL "later"))
 fun x=>xb (aB 2) (YX x))
 δ' p.2)
 fun (p:(List PyData×Option Nat)×aA) =>
 bC (YG 4)
 (fun (x:DSt) (x_1:aA) =>
 YP
 (YP (xC1 CmpOp.In (aB 4) (aB 1) x x_1) (YT2 false x))
 YE)
 (Prod.snd p.1) (Prod.fst p.1) (Prod.fst p.1) δ' p.2)
 (YQ fun δ' p =>
 YP
 (YP
 (bN
 (xb
 (xb (aB 0) (YL "gaps"))
 fun x=>xb (aB 2) (YX x))
 δ' p.2)
 fun (p:(List PyData×Option Nat)×aA) =>
 bC (dQ [YG 5,YG 6])
 (fun (x:DSt) (x_1:aA) =>
 YP
 (YP (xb (xC1 CmpOp.In (aB 5) (aB 1)) (fun c=>if c=true then xC1 CmpOp.NotIn (aB 6) (aB 1) else aC false) x x_1) (YT2 false x))
 YE)
 (Prod.snd p.1) (Prod.fst p.1) (Prod.fst p.1) δ' p.2)
 (YQ fun δ' p =>
 YP (YP (aC (W.d (PyData.bool true)) δ' p.2) YW) YE)))))
 iG:=by kernel_rfl
def wU (d:Nat) (w0 w1:W) (h:aA):callM T (d+1) "missing" [w0,w1] h =
 YP
 (YP
 (YP
 (aK
 (xb
 (bN
 (xb (aB 0) (YL "musts")))
 fun p δ h=>aO (YG 0) (xC1 CmpOp.NotIn (aB 0) (aB 1)) (aB 0) p.2 p.1 p.1 (aX [none,some 1] δ) h [])
 [some w0,some w1] h)
 YW)
 YE)
 iG:=by kernel_rfl
end K16
namespace K16
open PySem PySem.Spec PyProof.Rows L2 DL CI SJ
variable (d:Nat) (h:aA)
def bQ0 (cs:List One):PyData:=.tuple [.str "deal",.tuple (cs.map One.dat)]
end K16
namespace K16
open PySem PySem.Spec PyProof.Rows L2 DL CI SJ
variable (d:Nat) (x:PyData) (h:aA)
@[simp] theorem gB:aD T (d+1) "is_whole" [.d x] h=some (.bool (gJ x),h):=by
 cases x<;>simp [wP,isi,fF,gJ]
@[simp] theorem rQ (lo hi:Int):aD T (d+2) "is_between" [.d x,.d (.int lo),.d (.int hi)] h=some (.bool (bW x lo hi),h):=by
 cases x<;>simp [rJ,gB,bW,gJ];split<;>simp_all;omega
@[simp] theorem nS (n:Int):aD T (d+1) "is_tuple_of" [.d x,.d (.int n)] h=some (.bool (iD x n),h):=by
 cases x<;>simp [nP,isi,fF,iD]
@[simp] theorem dJ (xs:List PyData):aD T (d+2) "are_whole" [.d (.tuple xs)] h=some (.bool (xs.all gJ),h):=by
 simp [uG];rw [bY (fun x=>.bool (gJ x)) 0 (fun _ _ _=>rfl)]
 ·simp [bools_map]
 ·intro y _ u;simp [gB]
@[simp] theorem nB:aD T (d+3) "is_key" [.d x] h=some (.bool (jA x),h):=by
 simp [aS9,rQ,jA]
@[simp] theorem pQ:aD T (d+1) "word_of" [.d x] h=some (fT x,h):=by
 cases x<;>simp [aF1,isi,fF,fT];rename_i xs;cases xs with
 | nil=>simp
 | cons y r=>cases y<;>simp [fT,isi,fF]
end K16
namespace K16
open PySem PySem.Spec PyProof.Rows L2 DL CI SJ
variable (d:Nat) (x:PyData) (h:aA)
@[simp] theorem gW (s:Str) (n:Int):aD T (d+2) "is_worded" [.d x,.d (.str s),.d (.int n)] h=some (.bool (aG x s n),h):=by
 simp [uH,pQ];cases x<;>simp [fT,aG];rename_i xs;cases xs with
 | nil=>simp [fT,aG]
 | cons y r=>cases y<;>simp [fT,aG];rename_i t;cases e:(t==s)<;>simp
def lk (s:Str):List.lookup s [(Str.ofString "read",(0:Int)),(Str.ofString "write",1),(Str.ofString "add",1),(Str.ofString "swap",2)]=nb s:=by
 unfold nb;simp only [List.lookup]
 repeat' split
 all_goals simp_all
def dM3 (a b:PyData) (r:List PyData):cut (a::b::r) (some 2) none=r:=by
 have e1:HT.sIx (a::b::r).length 0 (some 2)=2:=by simp [HT.sIx]
 have e2:HT.sIx (a::b::r).length (a::b::r).length none=r.length+2:=by simp [HT.sIx]
 rw [cut,e1,e2];simp
def cI6 (a:PyData) (r:List PyData):cut (a::r) (some 1) none=r:=by
 have e1:HT.sIx (a::r).length 0 (some 1)=1:=by simp [HT.sIx]
 have e2:HT.sIx (a::r).length (a::r).length none=r.length+1:=by simp [HT.sIx]
 rw [cut,e1,e2];simp
@[simp] theorem kR:aD T (d+4) "is_single" [.d x] h=some (.bool (bM x),h):=by
 simp [uI,pQ,nB,dJ,lk];cases x<;>simp [fT,bM];rename_i xs;cases xs with
 | nil=>simp [fT,bM]
 | cons y r =>
  cases y<;>simp [fT,bM];rename_i t;cases e:nb t with
  | none=>simp
  | some n =>
   have hn:0<=n:=by
    unfold nb at e
    repeat' split at e
    all_goals simp at e
    all_goals omega
   by_cases hl:(r.length:Int)+1=2+n
   ·cases r with
    | nil=>simp at hl;omega
    | cons k vs =>
     cases ek:jA k<;>simp_all [nB,dM3,dJ]
   ·simp [hl,e]
def gC {x:PyData} {s:Str} (e:aG x s 2=true):∃ a,x=.tuple [.str s,a]:=by
 unfold aG at e;split at e
 ·rename_i t r;simp at e;obtain ⟨rfl,e⟩:=e
  match r,e with
  | [a],_=>exact ⟨a,rfl⟩
  | [],e=>simp at e
  | _::_::_,e=>simp at e;omega
 ·cases e
def bH7 {x:PyData} {s:Str} (e:aG x s 3=true):∃ a b,x=.tuple [.str s,a,b]:=by
 unfold aG at e;split at e
 ·rename_i t r;simp at e;obtain ⟨rfl,e⟩:=e
  match r,e with
  | [a,b],_=>exact ⟨a,b,rfl⟩
  | [],e=>simp at e
  | [_],e=>simp at e
  | _::_::_::_,e=>simp at e;omega
 ·cases e
def bH8 {x:PyData} (e:aG x "span" 3=false):eX x=false:=by
 unfold eX;split
 ·simp [aG] at e;simp [e]
 ·rfl
def bH9 {x:PyData} (e:aG x "deal" 2=false):eO x=false:=by
 unfold eO;split
 ·simp [aG] at e;simp [e]
 ·rfl
def bI0 {x:PyData} (e:aG x "look" 2=false):iL x=false:=by
 unfold iL;split
 ·simp [aG] at e;simp [e]
 ·rfl
def cI7 {x:PyData} (e:aG x "lay" 2=false):kK x=false:=by
 unfold kK;split
 ·simp [aG] at e;simp [e]
 ·rfl
@[simp] theorem aF7:aD T (d+3) "is_span" [.d x] h=some (.bool (eX x),h):=by
 simp [aF2,gW,dJ];cases e:aG x (Str.ofString "span") 3
 ·simp [bH8 e]
 ·obtain ⟨a,b,rfl⟩:=bH7 e;simp [cI6,dJ];cases a<;>cases b<;>simp [gJ,eX];rename_i i j
  by_cases h1:0<=i<;>by_cases h2:i < j<;>simp [h1,h2]
@[simp] theorem aF8:aD T (d+5) "is_deal" [.d x] h=some (.bool (eO x),h):=by
 simp [aF3,gW];cases e:aG x (Str.ofString "deal") 2
 ·simp [bH9 e]
 ·obtain ⟨a,rfl⟩:=gC e;cases a<;>simp [isi,fF,eO];rename_i ps
  by_cases h1:(1:Int)<=ps.length
  ·by_cases h2:(ps.length:Int)<=4
   ·simp [h1,h2];rw [bY (fun x=>.bool (bM x)) 0 (fun _ _ _=>rfl)]
    ·have h3:1<=ps.length:=by omega
     have h4:ps.length<=4:=by omega
     simp [bools_map,h3,h4]
    ·intro y _ u;simp [kR]
   ·have h4:¬ ps.length<=4:=by omega
    simp [h1,h2,h4]
  ·have h4:¬ 1<=ps.length:=by omega
   simp [h1,h4]
@[simp] theorem aF9:aD T (d+6) "is_call" [.d x] h=some (.bool (cI x),h):=by
 simp [aF4,kR,aF7,aF8,cI];cases e1:bM x<;>cases e2:eX x<;>cases e3:eO x<;>simp [e1,e2,e3]
@[simp] theorem cM7:aD T (d+7) "is_look" [.d x] h=some (.bool (iL x),h):=by
 simp [aF5,gW];cases e:aG x (Str.ofString "look") 2
 ·simp [bI0 e]
 ·obtain ⟨a,rfl⟩:=gC e;simp [aF9,iL]
@[simp] theorem aH6:aD T (d+4) "is_value_pair" [.d x] h=some (.bool (dN x),h):=by
 simp [kZ,nS];cases x<;>simp [iD,dN];rename_i xs
 match xs with
 | []=>simp [dN]
 | [a]=>simp [dN]
 | [a,b] =>
  simp [nB,gB,dN];cases jA a<;>simp [gB]
 | a::b::c::r =>
  have:¬ ((r.length:Int)+1+1+1=2):=by omega
  simp [dN,this]
def bP {n:Int} (h0:-5<=n) (h1:n<=100000):fV 0 n=true:=by
 unfold fV;simp;omega
def yP {ns:List Int} {i:Nat} (hi:i < ns.length):atI (ns.map PyData.int) (i:Int)=some (.int (ns.getD i 0)):=by
 unfold atI;rw [cA9 (by simpa using hi)];simp [List.getD,hi]
def cI8 (n:Nat):rng 0 n=(List.range n).map fun (i:Nat)=>PyData.int (i:Int):=by
 unfold rng;simp
def rR (ns:List Int) (hl:ns.length<=1000):aD T (d+1) "are_rising" [.d (.list (ns.map .int))] h=some (.bool (bD5 ns),h):=by
 simp [rK];rw [if_pos (bP (by omega) (by omega))];simp only [Option.bind_some];rw [bY (fun x=>.bool (decide (ns.getD (qT x).toNat 0 < ns.getD ((qT x).toNat+1) 0))) 0 (fun _ _ _=>rfl)]
 ·simp only [List.nil_append,Option.bind_some,all_map];rw [cI8,List.all_map,bH5];rfl
 ·intro y hy u;rw [cI8] at hy;obtain ⟨k,hk,rfl⟩:=List.mem_map.mp hy;have hk:=List.mem_range.mp hk;have e2:((k:Int)+1)=((k+1:Nat):Int):=rfl;simp [yP (show k < ns.length by omega),qT];rw [e2,yP (by omega)];simp
noncomputable def cX:PyData->Bool
 | .tuple [_,.tuple ps]=>decide (ps.length<=1000)
 | _=>true
def aT2 (hs:cX x=true):aD T (d+5) "is_lay" [.d x] h=some (.bool (kK x),h):=by
 simp [aT1];cases e:aG x (Str.ofString "lay") 2
 ·simp [cI7 e]
 ·obtain ⟨a,rfl⟩:=gC e;cases a<;>simp [isi,fF,kK];rename_i ps;simp [cX] at hs
  by_cases hp:ps=[]
  ·subst hp;simp
  ·have hn:¬ ((ps.length:Int)=0):=by
    have:ps.length≠0:=fun z=>hp (List.length_eq_zero_iff.mp z);omega
   simp [hp];rw [bY (fun x=>.bool (dN x)) 0 (fun _ _ _=>rfl)]
   ·simp only [List.nil_append,Option.bind_some,all_map];generalize ea:ps.all dN=b;cases b
    ·simp
    ·simp;rw [bY (fun x=>.int (qT (oT x))) 0 (fun _ _ _=>rfl)]
     ·have e3:(ps.map fun x=>PyData.int (qT (oT x)))=(ps.map fun p=>qT (oT p)).map PyData.int:=by simp
      simp only [List.nil_append,Option.bind_some,e3];rw [rR _ _ _ (by simpa using hs)];simp [hp]
     ·intro y hy u;have:=List.all_eq_true.mp ea y hy;unfold dN at this;split at this
      ·rename_i k v;simp [jA,bW] at this;cases k<;>simp at this;simp [oT,qT]
      ·cases this
   ·intro y _ u;simp
@[simp] theorem eD (hs:cX x=true):aD T (d+8) "is_step" [.d x] h=some (.bool (eY x),h):=by
 simp [aF6,eY];cases e1:cI x<;>cases e2:iL x<;>simp [e2,aT2 _ _ _ hs]
end K16
namespace K16
open PySem PySem.Spec PyProof.Rows L2 DL CI SJ
variable (d:Nat) (t:PyData) (h:aA)
def aT3 {t:PyData} (e:aG t "got" 2=false):cO (.read 0) t=false:=by
 unfold cO;split
 ·split
  ·rename_i s v;cases es:(s==Str.ofString "got")
   ·simp
   ·simp at es;subst es;simp [aG] at e
  ·rfl
 all_goals rename_i e';cases e'
def pU (o:One):aD T (d+3) "is_own_answer" [.d o.dat,.d t] h=some (.bool (cO o t),h):=by
 cases o
 ·simp [aY,One.dat,PyData.eqv,cO,szl];cases e:aG t (Str.ofString "got") 2
  ·simp;exact aT3 e
  ·obtain ⟨v,rfl⟩:=gC e;simp
 ·simp [aY,One.dat,PyData.eqv,cO,szl]
 ·simp [aY,One.dat,PyData.eqv,cO,szl];cases e:aG t (Str.ofString "got") 2
  ·simp;exact aT3 e
  ·obtain ⟨v,rfl⟩:=gC e;simp
 ·simp [aY,One.dat,PyData.eqv,cO,szl];cases e:aG t (Str.ofString "yes") 1<;>simp
end K16
namespace K16
open PySem PySem.Spec PyProof.Rows L2 DL CI SJ
variable (d:Nat) (t:PyData) (h:aA)
def cI9 {t:PyData} {lo hi:Nat} (e:aG t "all" 2=false):bQ (.span lo hi) t=false:=by
 unfold bQ;split
 ·rename_i e';cases e'
 ·split
  ·rename_i s xs;cases es:(s==Str.ofString "all")
   ·simp
   ·simp at es;subst es;simp [aG] at e
  ·rfl
 ·rename_i e';cases e'
def bI1 {t:PyData} {cs:List One} (e:aG t "each" 2=false):bQ (.deal cs) t=false:=by
 unfold bQ;split
 ·rename_i e';cases e'
 ·rename_i e';cases e'
 ·split
  ·rename_i s xs;cases es:(s==Str.ofString "each")
   ·simp
   ·simp at es;subst es;simp [aG] at e
  ·rfl
def zps (cs:List One) (xs:List PyData):List (PyData×PyData):=(cs.zip xs).map fun p=>(.tuple [p.1.dat,p.2],.bool (cO p.1 p.2))
theorem bQ1:∀ (cs:List One) (xs:List PyData),mH (cs.map One.dat) xs=(zps cs xs).map (·.1)
 | [],_=>by simp [mH,zps]
 | _::_,[]=>by simp [mH,zps]
 | c::cs,x::xs=>by
  have:=bQ1 cs xs;unfold mH zps at this ⊢;simp at this ⊢;exact this
def cW2:∀ (cs:List One) (xs:List PyData),(zps cs xs).map (·.2)=((cs.zip xs).map fun p=>cO p.1 p.2).map PyData.bool:=fun cs xs=>by simp [zps]
theorem yQ:∀ (cs:List One) (xs:List PyData),((cs.zip xs).map fun p=>cO p.1 p.2).all id=eU cs xs
 | [],_=>by simp [eU]
 | _::_,[]=>by simp [eU]
 | c::cs,x::xs=>by
  have:=yQ cs xs;simp [eU] at this ⊢;rw [this]
theorem yR:∀ bs:List Bool,dP (bs.map PyData.bool)=some bs
 | []=>rfl
 | b::r=>by simp [dP,yR r]
def wV (lo hi:Nat):aD T (d+4) "is_own_answer" [.d (Call.span lo hi).dat,.d t] h=some (.bool (bQ (.span lo hi) t),h):=by
 simp [aY,Call.dat,PyData.eqv,szl];cases e:aG t (Str.ofString "all") 2
 ·simp;exact cI9 e
 ·obtain ⟨v,rfl⟩:=gC e;cases v<;>simp [iD,bQ];rename_i xs
  by_cases hl:(xs.length:Int)=(hi:Int) - lo<;>simp [hl]
def wW (cs:List One):aD T (d+4) "is_own_answer" [.d (Call.deal cs).dat,.d t] h=some (.bool (bQ (.deal cs) t),h):=by
 simp [aY,Call.dat,PyData.eqv,szl];cases e:aG t (Str.ofString "each") 2
 ·simp;exact bI1 e
 ·obtain ⟨v,rfl⟩:=gC e;cases v<;>simp [iD,bQ];rename_i xs
  by_cases hl:(xs.length:Int)=cs.length
  ·have hl':xs.length=cs.length:=by omega
   simp [hl,hl'];rw [bQ1,iR (fun δ=>∃ a b,δ=[a,b]) _ _ _ ⟨_,_,rfl⟩]
   ·have hz:=yQ cs xs;rw [cW2];generalize ((cs.zip xs).map fun p=>cO p.1 p.2)=L at hz ⊢;simp only [List.nil_append,Option.bind_some,bP9,yR,Option.map_some,hz];simp
   ·intro p hp δ ⟨a,b,e⟩;subst e;obtain ⟨⟨o,x⟩,_,rfl⟩:=List.mem_map.mp hp;refine ⟨[some (.d o.dat),some (.d x)],by simp [dQ,qX],⟨_,_,rfl⟩,?_⟩;simp [pU]
  ·have hl':¬ xs.length=cs.length:=by omega
   simp [hl,hl']
def nC (c:SJ.Call):aD T (d+4) "is_own_answer" [.d c.dat,.d t] h=some (.bool (bQ c t),h):=by
 cases c with
 | one o=>exact pU (d+1) t h o
 | span lo hi=>exact wV d t h lo hi
 | deal cs=>exact wW d t h cs
end K16
namespace K16
open PySem PySem.Spec PyProof.Rows L2 DL CI SJ
variable (d:Nat) (t:PyData) (h:aA)
def nD {c:SJ.Call} (hc:c.ok):cX c.dat=true:=by
 cases c with
 | one o=>cases o<;>simp [Call.dat,One.dat,cX]
 | span lo hi=>simp [Call.dat,cX]
 | deal cs =>
  have:=hc.1;simp [Call.dat,cX];omega
def wX {c:SJ.Call} (hc:c.ok):aD T (d+9) "is_answer" [.d c.dat,.d t] h=some (.bool (aG t "refused" 1||bQ c t),h):=by
 simp [gU,eD (d) c.dat h (nD hc),(fH hc).2.1,(fH hc).1];cases e:aG t (Str.ofString "refused") 1
 ·simp [nC (d+4)]
 ·simp [(fH hc).1]
def wY {ps:List (Nat×Int)} (hn:ps≠[]) (hl:ps.length<=1000) (hk:∀ p∈ps,p.1 < 8) (hr:(ps.map (·.1)).Pairwise (· < ·)):aD T (d+8) "is_step" [.d (.tuple [.str "lay",.tuple (ps.map prP)])] h=some (.bool true,h):=by
 rw [eD _ _ _ (by simpa [cX] using hl)];obtain ⟨q1,q2,q3⟩:=jS hk;have e:=xX hr;rw [List.map_map] at e;have e1:kK (.tuple [.str "lay",.tuple (ps.map prP)])=true:=by
  unfold kK;simp only [q1,q3,List.isEmpty_map];have:ps.isEmpty=false:=by simpa using hn
  rw [this]
  simpa [Function.comp_def] using e
 simp [eY,e1]
end K16
namespace K16
open PySem PySem.Spec PyProof.Rows L2 DL CI SJ
variable (d:Nat) (h:aA)
abbrev Ow {α β:Type} (_:α->Option β):=Option α
noncomputable def bd {α β:Type} (f:α->Option β) (x:Ow f):Option β:=Option.bind x f
@[simp ↓ high] theorem bdi {α β:Type} (x:Option α) (f:α->Option β):x.bind f=bd f x:=rfl
@[simp high] theorem bds {α β:Type} (a:α) (f:α->Option β):bd f (some a)=f a:=id rfl
@[simp ↓ high] theorem xba {α β:Type} (x:XR α) (f:α->XR β) (δ:DSt) (h:aA):xb x f δ h=bd (fun p=>f p.1 δ p.2) (x δ h):=rfl
@[simp ↓ high] theorem xsa (i:Nat) (x:XR W) (δ:DSt) (h:aA):aQ i x δ h=bd (fun p=>some (.nx (δ.set i (some p.1)),p.2)) (x δ h):=rfl
noncomputable def wv (st:List Int) (k:Nat) (v:Int):List Int:=st.take k++v::st.drop (k+1)
def kC {st:List Int} {k:Nat} (hk:k < st.length) (v:Int):(wv st k v).length=st.length:=by
 unfold wv;simp;omega
noncomputable def sd (st:List Int):One->An1×List Int
 | .read k=>(.got (st.getD k 0),st)
 | .write k v=>(.dn,wv st k v)
 | .add k v=>(.got (st.getD k 0+v),wv st k (st.getD k 0+v))
 | .swap k x y=>if st.getD k 0=x then (.yes,wv st k y) else (.no,st)
noncomputable def dr (st:List Int):List One->List An1×List Int
 | []=>([],st)
 | o::r=>((sd st o).1::(dr (sd st o).2 r).1,(dr (sd st o).2 r).2)
def wZ {st:List Int} {o:One} (hk:o.key < st.length):(sd st o).2.length=st.length:=by
 cases o<;>simp only [One.key] at hk<;>simp only [sd]
 ·exact kC hk _
 ·exact kC hk _
 ·split
  ·exact kC hk _
  ·rfl
def yS (st:List Int) (o:One):An1.fits o (sd st o).1:=by
 cases o<;>simp only [sd]<;>first | trivial | (split<;>trivial)
def cJ0 (xs:List PyData) {m:Nat} (hm:m<=xs.length):cut xs none (some (m:Int))=xs.take m:=by
 have e1:HT.sIx xs.length 0 none=0:=by simp [HT.sIx]
 have e2:HT.sIx xs.length xs.length (some (m:Int))=m:=by
  unfold HT.sIx;simp only [];rw [if_neg (by omega)];omega
 rw [cut,e1,e2];simp
def cJ1 (xs:List PyData) {m:Nat} (hm:m<=xs.length):cut xs (some (m:Int)) none=xs.drop m:=by
 have e1:HT.sIx xs.length 0 (some (m:Int))=m:=by
  unfold HT.sIx;simp only [];rw [if_neg (by omega)];omega
 have e2:HT.sIx xs.length xs.length none=xs.length:=by simp [HT.sIx]
 rw [cut,e1,e2];rw [List.take_of_length_le];simp
def yT {st:List Int} {k:Nat} (hk:k < st.length):atI (st.map PyData.int) (k:Int)=some (.int (st.getD k 0)):=fO (by simp [hk])
def aT4 (st:List Int) (k:Nat) (v:Int) (hk:k < 8) (hl:st.length=8):aD T (d+1) "with_value" [.d (.tuple (st.map .int)),.d (.int k),.d (.int v)] h=some (.tuple ((wv st k v).map .int),h):=by
 have c1:=cJ0 (st.map PyData.int) (m:=k) (by simp;omega);have c2:=cJ1 (st.map PyData.int) (m:=k+1) (by simp;omega);have c2':cut (st.map PyData.int) (some ((k:Int)+1)) none=(st.map PyData.int).drop (k+1):=c2;have l1:min k st.length<=16777215:=by omega
 have l2:min k st.length+1+(st.length - (k+1))<=16777216:=by omega
 have l3:min k 8+1+(8 - (k+1))<=16777216:=by omega
 have l4:min k 8<=16777215:=by omega
 have l5:min k 8+1+(7 - k)<=16777216:=by omega
 simp [rL,c1,c2',szl,wv,l1,hl,l3,l4,l5]
def uO (st:List Int) (o:One) (hk:o.key < 8) (hl:st.length=8):aD T (d+2) "single_done" [.d (.tuple (st.map .int)),.d o.dat] h=some (.tuple [(sd st o).1.dat,.tuple ((sd st o).2.map .int)],h):=by
 cases o with
 | read k =>
  have:=yT (st:=st) (k:=k) (by simp [One.key] at hk;omega);simp [cM,One.dat,An1.dat,this,szl,sd]
 | write k v =>
  simp only [One.key] at hk;have:=yT (st:=st) (k:=k) (by omega);simp [cM,One.dat,An1.dat,this,szl,aT4,hk,hl,sd]
 | add k v =>
  simp only [One.key] at hk;have:=yT (st:=st) (k:=k) (by omega);generalize e:st.getD k 0=w at this;simp only [sd,e];simp [cM,One.dat,An1.dat,this,szl,aT4,hk,hl]
 | swap k x y =>
  simp only [One.key] at hk;have:=yT (st:=st) (k:=k) (by omega);generalize e:st.getD k 0=v at this;simp only [sd,e]
  by_cases e:v=x
  ·subst e;simp [cM,One.dat,An1.dat,this,szl,aT4,hk,hl]
  ·simp [cM,One.dat,An1.dat,this,szl,aT4,hk,hl,e]
theorem yU:∀ (cs:List One) (st:List Int) (o:One),dr st (cs++[o])=((dr st cs).1++[(sd (dr st cs).2 o).1],(sd (dr st cs).2 o).2)
 | [],st,o=>rfl
 | c::r,st,o=>by simp [dr,yU r]
theorem xA:∀ (cs:List One) (st:List Int),(∀ o∈cs,o.key < st.length)->(dr st cs).2.length=st.length
 | [],st,_=>rfl
 | o::r,st,hk=>by
  have h1:=hk o List.mem_cons_self;have:=xA r (sd st o).2 fun o' ho=>by rw [wZ h1];exact hk o' (List.mem_cons_of_mem _ ho)
  rw [wZ h1] at this;exact this
theorem bQ2:∀ (cs:List One) (st:List Int),(dr st cs).1.length=cs.length
 | [],st=>rfl
 | o::r,st=>by simp [dr,bQ2 r]
theorem aT5:∀ (cs:List One) (st:List Int),Fit2 cs (dr st cs).1
 | [],st=>.nil
 | o::r,st=>.cons (yS st o) (aT5 r _)
def uP (cs:List One) (hk:∀ o∈cs,o.key < 8) (hc:cs.length<=100) (st:List Int) (hl:st.length=8):aD T (d+3) "deal_done" [.d (.tuple (st.map .int)),.d (.tuple (cs.map One.dat))] h=some (.tuple [.tuple [.str "each",.tuple ((dr st cs).1.map An1.dat)],.tuple ((dr st cs).2.map .int)],h):=by
 rw [show d+3=(d+2)+1 from rfl,uJ];simp [szl];generalize hr:bC _ _ _ _ _ _ _=r;have kk:∃ δ' h',r=some (.nx δ',h')/\∃ (x1 x3 x4:Option W),δ'=[some (.d (.tuple ((dr st cs).2.map .int))),x1,some (.c h.length),x3,x4]/\h'=h++[.l ((dr st cs).1.map An1.dat)]:=by
  rw [<- hr];clear hr;refine dG (fun m δ' h'=>∃ (x1 x3 x4:Option W),δ'=[some (.d (.tuple ((dr st (cs.take m)).2.map .int))),x1,some (.c h.length),x3,x4]/\h'=h++[.l ((dr st (cs.take m)).1.map An1.dat)]) ⟨_,_,_,rfl,rfl⟩ (fun δ h'=>?_) ?_
  ·rw [List.length_map,List.take_length];exact id
  ·rintro m hm δ h' ⟨x1,x3,x4,rfl,rfl⟩;have hm':m < cs.length:=by simpa using hm
   have l2:(dr st (cs.take m)).2.length=8:=by rw [xA _ _ fun o ho=>by rw [hl];exact hk o (List.mem_of_mem_take ho)];exact hl
   have hs':=fun h=>uO d h (dr st (cs.take m)).2 cs[m] (hk _ (List.getElem_mem _)) l2;have ll:(dr st (cs.take m)).1.length < 16777216:=by rw [bQ2,List.length_take];omega
   have e:cs.take (m+1)=cs.take m++[cs[m]]:=by rw [List.take_add_one];simp [hm']
   rw [List.getElem_map,e,yU];generalize dr st (cs.take m)=q at *;obtain ⟨as,st'⟩:=q;have gl:=CI.get_last h (.l (as.map An1.dat));have mp:=CI.mpre_last h (as.map An1.dat);dsimp only at *;generalize sd st' cs[m]=p at hs';refine ⟨_,_,rfl,[some (.d (.tuple (p.2.map .int))),x1,some (.c h.length),some (.d cs[m].dat),some (.d (.tuple [p.1.dat,.tuple (p.2.map .int)]))],h++[.l ((as++[p.1]).map An1.dat)],?_,_,_,_,rfl,rfl⟩;simp [hs',gl,mp,ll,szl]
 obtain ⟨δ',h',rfl,x1,x3,x4,rfl,rfl⟩:=kk;have tl:cJ [.c h.length] (h++[.l ((dr st cs).1.map An1.dat)])=some (.d (.tuple ((dr st cs).1.map An1.dat)),h++[.l ((dr st cs).1.map An1.dat)]):=by
  simp [cJ,ref]
 simp [tl,szl]
noncomputable def ly (st:List Int) (ps:List (Nat×Int)):List Int:=ps.foldl (fun s p=>wv s p.1 p.2) st
theorem aT6:∀ (ps:List (Nat×Int)) (st:List Int),(∀ p∈ps,p.1 < st.length)->(ly st ps).length=st.length
 | [],st,_=>rfl
 | p::r,st,hk=>by
  have h1:=hk p List.mem_cons_self;have:=aT6 r (wv st p.1 p.2) fun q hq=>by rw [kC h1];exact hk q (List.mem_cons_of_mem _ hq)
  rw [kC h1] at this;exact this
def cJ2 (ps:List (Nat×Int)) (hk:∀ p∈ps,p.1 < 8) (st:List Int) (hl:st.length=8):aD T (d+2) "laid" [.d (.tuple (st.map .int)),.d (.tuple (ps.map fun p=>.tuple [.int p.1,.int p.2]))] h=some (.tuple ((ly st ps).map .int),h):=by
 rw [show d+2=(d+1)+1 from rfl,cI5];simp;generalize hr:bC _ _ _ _ _ _ _=r;have kk:∃ δ' h',r=some (.nx δ',h')/\∃ x1 x2 x3,δ'=[some (.d (.tuple ((ly st ps).map .int))),x1,x2,x3]/\h'=h:=by
  rw [<- hr];clear hr;refine wO (fun p:Nat×Int=>.tuple [.int p.1,.int p.2]) (fun s p=>wv s p.1 p.2) (fun s δ' h'=>s.length=8/\∃ x1 x2 x3,δ'=[some (.d (.tuple (s.map .int))),x1,x2,x3]/\h'=h) st ps ⟨hl,_,_,_,rfl,rfl⟩ (fun _ _ z=>z.2) ?_;rintro p hp s δ h' ⟨hs,x1,x2,x3,rfl,rfl⟩;have hk':=hk p hp;have e:=fun h=>aT4 d h s p.1 p.2 hk' hs;refine ⟨[some (.d (.tuple (s.map .int))),x1,some (.d (.int p.1)),some (.d (.int p.2))],h',by simp [qX],[some (.d (.tuple ((wv s p.1 p.2).map .int))),x1,some (.d (.int p.1)),some (.d (.int p.2))],h',?_,by rw [kC (by omega)];exact hs,_,_,_,rfl,rfl⟩;simp [e]
 obtain ⟨δ',h',rfl,x1,x2,x3,rfl,rfl⟩:=kk;simp
def aT7 (o:One) (st:List Int) (hk:o.key < 8) (hl:st.length=8):aD T (d+3) "done" [.d (.tuple (st.map .int)),.d o.dat] h=some (.tuple [(sd st o).1.dat,.tuple ((sd st o).2.map .int)],h):=by
 have e:=fun h=>uO d h st o hk hl;rw [show d+3=(d+2)+1 from rfl,mW];generalize sd st o=p at e;cases o<;>simp [One.dat] at e ⊢<;>simp [e]
def aG0 (cs:List One) (hk:∀ o∈cs,o.key < 8) (hc:cs.length<=100) (st:List Int) (hl:st.length=8):aD T (d+4) "done" [.d (.tuple (st.map .int)),.d (bQ0 cs)] h=some (.tuple [.tuple [.str "each",.tuple ((dr st cs).1.map An1.dat)],.tuple ((dr st cs).2.map .int)],h):=by
 have e:=fun h=>uP d h cs hk hc st hl;rw [show d+4=(d+3)+1 from rfl,mW];simp [bQ0,e]
def aT8 (ps:List (Nat×Int)) (hk:∀ p∈ps,p.1 < 8) (st:List Int) (hl:st.length=8):aD T (d+3) "done" [.d (.tuple (st.map .int)),.d (.tuple [.str "lay",.tuple (ps.map fun p=>.tuple [.int p.1,.int p.2])])] h=some (.tuple [.tuple [.str "done"],.tuple ((ly st ps).map .int)],h):=by
 have e:=fun h=>cJ2 d h ps hk st hl;rw [show d+3=(d+2)+1 from rfl,mW];simp [e,szl]
def aG1 {s A S:PyData} {st:List Int} (e:∀ h,aD T (d+4) "done" [.d (.tuple (st.map .int)),.d s] h=some (.tuple [A,S],h)):aD T (d+5) "done" [.d (.tuple (st.map .int)),.d (.tuple [.str "look",s])] h=some (.tuple [A,.tuple (st.map .int)],h):=by
 rw [show d+5=(d+4)+1 from rfl,mW];simp [e,szl]
def cJ3 (xs:List PyData) {i j:Nat} (hi:i<=j) (hj:j<=xs.length):cut xs (some (i:Int)) (some (j:Int))=(xs.drop i).take (j - i):=by
 have e1:HT.sIx xs.length 0 (some (i:Int))=i:=by
  unfold HT.sIx;simp only [];rw [if_neg (by omega)];omega
 have e2:HT.sIx xs.length xs.length (some (j:Int))=j:=by
  unfold HT.sIx;simp only [];rw [if_neg (by omega)];omega
 rw [cut,e1,e2]
def aG2 (lo hi:Nat) (h1:lo<=hi) (h2:hi<=8) (st:List Int) (hl:st.length=8):aD T (d+1) "done" [.d (.tuple (st.map .int)),.d (.tuple [.str "span",.int lo,.int hi])] h=some (.tuple [.tuple [.str "all",.tuple (((st.drop lo).take (hi - lo)).map .int)],.tuple (st.map .int)],h):=by
 have c:=cJ3 (st.map PyData.int) (i:=lo) (j:=hi) h1 (by simp;omega);rw [<- List.map_drop,<- List.map_take] at c;simp [mW,c,szl]
end K16
namespace K16
open PySem PySem.Spec PyProof.Rows L2 DL CI SJ
variable (d:Nat) (h:aA)
def bI2 (ns:List Int):aD T (d+1) "_law_cell_at" [.d (.list (ns.map .int)),.d (.int 0)] h=some (.int (ns.head?.getD 0),h):=by
 cases ns<;>simp [mX]
@[simp] theorem dO6 {h:aA} {i:Nat} {xs:List PyData} (hi:i < h.length):bU [.c i] (h.set i (.l xs))=some (.d (.int xs.length),h.set i (.l xs)):=by simp [bU,yL hi]
noncomputable def m1 (a n:Int):Int:=(a+7919*n+1)*48271%2147483647
noncomputable def m2 (x:Int):Int:=x*(x / 1009+69621)%2147483647
noncomputable def m3 (x:Int):Int:=x*(x / 2003+40692)%2147483399
noncomputable def aI (s:S3) (b:Int):Int:=if 0 < s.1 then s.1%b else m3 (m2 (m1 s.2.1 (s.2.2+1)))%b
noncomputable def digS (s:S3) (b:Int):S3:=if 0 < s.1 then (s.1 / b,s.2.1,s.2.2) else (s.1,s.2.1,s.2.2+1)
noncomputable def st0 (c:Int):S3:=(c,c%2147483647,0)
def fC (s:S3) {b:Int} (hb:0 < b):0<=aI s b:=by
 unfold aI;split<;>exact Int.emod_nonneg _ (by omega)
def fD (s:S3) {b:Int} (hb:0 < b):aI s b < b:=by
 unfold aI;split<;>exact Int.emod_lt_of_pos _ hb
def aW (s:S3) {b:Int} (hb:0 < b):∃ n:Nat,aI s b=n/\(n:Int) < b:=⟨(aI s b).toNat,by have:=fC s hb;omega,by have:=fC s hb;have:=fD s hb;omega⟩
@[simp] theorem cB {i:Nat} (s:S3) (b:Int) (hi:i < h.length) (hb:0 < b) (hb2:aT b=true):aD T (d+1) "_law_digit" [.c i,.d (.int b)] (h.set i (stL s))=some (.int (aI s b),h.set i (stL (digS s b))):=by
 have e1:aT 1009=true:=by decide
 have e2:aT 2003=true:=by decide
 have h0:=hZ (i:=7919) (by decide) (by decide) (s.2.2+1);have h1:=yK (j:=48271) (by decide) (by decide) (s.2.1+7919*(s.2.2+1)+1);have h2:gF (m1 s.2.1 (s.2.2+1)) (m1 s.2.1 (s.2.2+1) / 1009+69621)=true:=hZ (by unfold m1;omega) (by unfold m1;omega) _;have h3:gF (m2 (m1 s.2.1 (s.2.2+1))) (m2 (m1 s.2.1 (s.2.2+1)) / 2003+40692)=true:=hZ (by unfold m2;omega) (by unfold m2;omega) _;have z1:(s.2.1+7919*(s.2.2+1)+1)*48271%2147483647=m1 s.2.1 (s.2.2+1):=rfl;have z2:m1 s.2.1 (s.2.2+1)*(m1 s.2.1 (s.2.2+1) / 1009+69621)%2147483647=m2 (m1 s.2.1 (s.2.2+1)):=rfl;have z3:m2 (m1 s.2.1 (s.2.2+1))*(m2 (m1 s.2.1 (s.2.2+1)) / 2003+40692)%2147483399=m3 (m2 (m1 s.2.1 (s.2.2+1))):=rfl
 by_cases h4:0 < s.1<;>simp [jI,stL,hi,e1,e2,hb,hb2,h0,h1,h2,h3,h4,z1,z2,z3,aI,digS]
def uQ {i:Nat} (c b:Int) (hi:i < h.length) (hb:0 < b) (hb2:aT b=true):aD T (d+1) "_law_digit" [.c i,.d (.int b)] (h.set i (.l [.int c]))=some (.int (aI (st0 c) b),h.set i (stL (digS (st0 c) b))):=by
 have e1:aT 1009=true:=by decide
 have e2:aT 2003=true:=by decide
 have h0:=hZ (i:=7919) (by decide) (by decide) 1;have h1:=yK (j:=48271) (by decide) (by decide) (c%2147483647+7919+1);have h2:gF (m1 (c%2147483647) 1) (m1 (c%2147483647) 1 / 1009+69621)=true:=hZ (by unfold m1;omega) (by unfold m1;omega) _;have h3:gF (m2 (m1 (c%2147483647) 1)) (m2 (m1 (c%2147483647) 1) / 2003+40692)=true:=hZ (by unfold m2;omega) (by unfold m2;omega) _;have z1:(c%2147483647+7919+1)*48271%2147483647=m1 (c%2147483647) 1:=by simp [m1]
 have z2:m1 (c%2147483647) 1*(m1 (c%2147483647) 1 / 1009+69621)%2147483647=m2 (m1 (c%2147483647) 1):=rfl;have z3:m2 (m1 (c%2147483647) 1)*(m2 (m1 (c%2147483647) 1) / 2003+40692)%2147483399=m3 (m2 (m1 (c%2147483647) 1)):=rfl
 by_cases h4:0 < c<;>simp [jI,stL,hi,e1,e2,hb,hb2,h0,h1,h2,h3,h4,z1,z2,z3,aI,digS,st0,szl]
end K16
namespace K16
open PySem PySem.Spec PyProof.Rows L2 DL CI SJ
def Stf (c:Cell) (s:S3):Prop:=c=stL s\/∃ n:Int,c=.l [.int n]/\s=st0 n
def stf (s:S3):Stf (stL s) s:=.inl rfl
def jK (d:Nat) (h:aA) {i:Nat} {c:Cell} {s:S3} (hc:Stf c s) (b:Int) (hi:i < h.length) (hb:0 < b) (hb2:aT b=true):aD T (d+1) "_law_digit" [.c i,.d (.int b)] (h.set i c)=some (.int (aI s b),h.set i (stL (digS s b))):=by
 rcases hc with rfl | ⟨n,rfl,rfl⟩
 ·exact cB d h s b hi hb hb2
 ·exact uQ d h n b hi hb hb2
def dig_cases (s:S3):aI s 8 / 3=0\/aI s 8 / 3=1\/aI s 8 / 3=2:=by
 have:=fC s (b:=8) (by decide);have:=fD s (b:=8) (by decide);omega
def dig2 (s:S3):aI s 4 / 3=0\/aI s 4 / 3=1:=by
 have:=fC s (b:=4) (by decide);have:=fD s (b:=4) (by decide);omega
def dig4 (s:S3):aI s 4=0\/aI s 4=1\/aI s 4=2\/aI s 4=3:=by
 have:=fC s (b:=4) (by decide);have:=fD s (b:=4) (by decide);omega
def p12:aT 1000000000000=true:=by decide +kernel
def uR (s:S3):∃ r:Int×S3,∀ (d:Nat) (h:aA) (i:Nat) (c:Cell),Stf c s->i < h.length->aD T (d+2) "_law_value" [.c i] (h.set i c)=some (.int r.1,h.set i (stL r.2)):=by
 have e1:tO 10 12=true:=by decide
 have e3:aT 3=true:=by decide
 have e4:aT 2=true:=by decide
 have e5:aT 8=true:=by decide
 have p:=p12;rcases dig_cases (digS (digS (digS s 3) 2) 1000000000000) with e | e | e
 ·refine ⟨(aI s 3,digS (digS (digS (digS s 3) 2) 1000000000000) 8),fun d h i c hc hi=>?_⟩;have g:=jK d h hc 3 hi (by decide) e3;simp [gA,hi,g,e,e1,e3,e4,e5,p,aK,szl]
 ·refine ⟨(aI (digS s 3) 2 - 1,digS (digS (digS (digS s 3) 2) 1000000000000) 8),fun d h i c hc hi=>?_⟩;have g:=jK d h hc 3 hi (by decide) e3;simp [gA,hi,g,e,e1,e3,e4,e5,p,aK,szl]
 ·refine ⟨(aI (digS (digS s 3) 2) 1000000000000,digS (digS (digS (digS s 3) 2) 1000000000000) 8),fun d h i c hc hi=>?_⟩;have g:=jK d h hc 3 hi (by decide) e3;simp [gA,hi,g,e,e1,e3,e4,e5,p,aK,szl]
noncomputable def vF (s:S3):Int×S3:=(uR s).choose
def uS (d:Nat) (h:aA) {i:Nat} {c:Cell} {s:S3} (hc:Stf c s) (hi:i < h.length):aD T (d+2) "_law_value" [.c i] (h.set i c)=some (.int (vF s).1,h.set i (stL (vF s).2)):=(uR s).choose_spec d h i c hc hi
@[simp] theorem dD6 (d:Nat) (h:aA) {i:Nat} (s:S3) (hi:i < h.length):aD T (d+2) "_law_value" [.c i] (h.set i (stL s))=some (.int (vF s).1,h.set i (stL (vF s).2)):=uS d h (stf s) hi
def nE (s:S3):∃ r:One×S3,r.1.ok/\∀ (d:Nat) (h:aA) (i:Nat),i < h.length->aD T (d+3) "_law_plain_call" [.c i] (h.set i (stL s))=some (r.1.dat,h.set i (stL r.2)):=by
 have e3:aT 4=true:=by decide
 have e4:aT 2=true:=by decide
 have e5:aT 8=true:=by decide
 have e6:aT 3=true:=by decide
 obtain ⟨k,hk,ek⟩:∃ k:Nat,k < 8/\atI [PyData.int (aI (digS s 4) 2),.int (aI (digS (digS s 4) 2) 8)] (aI (digS (digS (digS s 4) 2) 8) 4 / 3)=some (.int k):=by
  obtain ⟨a,ea,ha⟩:=aW (digS s 4) (b:=2) (by decide);obtain ⟨b,eb,hb⟩:=aW (digS (digS s 4) 2) (b:=8) (by decide);rcases dig2 (digS (digS (digS s 4) 2) 8) with y | y
  ·exact ⟨a,by omega,by rw [y,ea];simp⟩
  ·exact ⟨b,by omega,by rw [y,eb];simp⟩
 rcases dig4 s with e | e | e | e
 ·refine ⟨(.read k,digS (digS (digS (digS s 4) 2) 8) 4),hk,fun d h i hi=>?_⟩;simp [cH,hi,e,ek,e3,e4,e5,e6,One.dat,szl,aK]
 ·refine ⟨(.write k (vF (digS (digS (digS (digS s 4) 2) 8) 4)).1,(vF (digS (digS (digS (digS s 4) 2) 8) 4)).2),hk,fun d h i hi=>?_⟩;simp [cH,hi,e,ek,e3,e4,e5,e6,One.dat,szl,aK]
 ·refine ⟨(.add k (vF (digS (digS (digS (digS s 4) 2) 8) 4)).1,(vF (digS (digS (digS (digS s 4) 2) 8) 4)).2),hk,fun d h i hi=>?_⟩;simp [cH,hi,e,ek,e3,e4,e5,e6,One.dat,szl,aK]
 ·refine ⟨(.swap k (vF (digS (digS (digS (digS s 4) 2) 8) 4)).1 (vF (vF (digS (digS (digS (digS s 4) 2) 8) 4)).2).1,(vF (vF (digS (digS (digS (digS s 4) 2) 8) 4)).2).2),hk,fun d h i hi=>?_⟩;simp [cH,hi,e,ek,e3,e4,e5,e6,One.dat,szl,aK]
noncomputable def pF (s:S3):One×S3:=(nE s).choose
def aT9 (s:S3):(pF s).1.ok:=(nE s).choose_spec.1
@[simp] theorem dD7 (d:Nat) (h:aA) {i:Nat} (s:S3) (hi:i < h.length):aD T (d+3) "_law_plain_call" [.c i] (h.set i (stL s))=some ((pF s).1.dat,h.set i (stL (pF s).2)):=(nE s).choose_spec.2 d h i hi
theorem uT:∀ (xs:List PyData) (s:S3),∃ cs:List One,(thr (fun _ s=>(pF s).1.dat) (fun _ s=>(pF s).2) xs s).1=cs.map One.dat/\cs.length=xs.length/\∀ c∈cs,c.ok
 | [],s=>⟨[],rfl,rfl,fun _ z=>nomatch z⟩
 | x::r,s=>by
  obtain ⟨cs,e,hl,hc⟩:=uT r (pF s).2;refine ⟨(pF s).1::cs,by simp [thr,e],by simp [hl],fun c hm=>?_⟩;rcases List.mem_cons.mp hm with rfl | hm
  ·exact aT9 s
  ·exact hc c hm
noncomputable def jL (p:PyData->S3->Bool) (n:PyData->S3->S3) (f:PyData->S3->PyData) (n2:PyData->S3->S3):List PyData->S3->List PyData×S3
 | [],s=>([],s)
 | x::r,s=>if p x s=true then (f x (n x s)::(jL p n f n2 r (n2 x (n x s))).1,(jL p n f n2 r (n2 x (n x s))).2) else jL p n f n2 r (n x s)
theorem nF {g:XG} {tt:XR Bool} {te:XR W} {all:List PyData} {h:aA} {i:Nat} (p:PyData->S3->Bool) (n:PyData->S3->S3) (f:PyData->S3->PyData) (n2:PyData->S3->S3) (k:Nat) (hg:∀ w δ h,g w δ h=some (δ.set k (some w),h)) :
  ∀ (rest:List PyData) (δ:DSt) (ac:List PyData) (s:S3),(∀ x∈rest,∀ u s,tt ((δ.set k u).set k (some (.d x))) (h.set i (stL s))=some (p x s,h.set i (stL (n x s))))->(∀ x∈rest,∀ u s,te ((δ.set k u).set k (some (.d x))) (h.set i (stL s))=some (.d (f x s),h.set i (stL (n2 x s)))) ->
   aO g tt te none all rest δ (h.set i (stL s)) ac=some (ac++(jL p n f n2 rest s).1,h.set i (stL (jL p n f n2 rest s).2))
 | [],δ,ac,s,_,_=>by simp [aO,jL]
 | x::r,δ,ac,s,hf,ht=>by
  have e:=hf x List.mem_cons_self none s;rw [List.set_set] at e;have e2:=ht x List.mem_cons_self none;simp only [List.set_set] at e2;have more:∀ ac s',aO g tt te none all r (δ.set k (some (.d x))) (h.set i (stL s')) ac=some (ac++(jL p n f n2 r s').1,h.set i (stL (jL p n f n2 r s').2)):=fun ac s' =>
   nF p n f n2 k hg r _ _ _ (fun y hy u s=>by
    have:=hf y (List.mem_cons_of_mem _ hy) u s;rw [List.set_set] at this ⊢;rw [List.set_set];exact this) fun y hy u s=>by
    have:=ht y (List.mem_cons_of_mem _ hy) u s;rw [List.set_set] at this ⊢;rw [List.set_set];exact this
  rw [aO,bX,if_pos rfl,hg];simp only [Option.bind_some,e];cases hp:p x s
  ·simp [more,jL,hp]
  ·simp [e2,more,jL,hp]
theorem kD (p:PyData->S3->Bool) (n:PyData->S3->S3):∀ (m a:Nat) (s:S3),∃ ps:List (Nat×Int),(jL p n (fun x s=>.tuple [x,.int (vF s).1]) (fun _ s=>(vF s).2) (rng (a:Int) m) s).1=ps.map prP/\(ps.map (·.1)).Pairwise (· < ·)/\(∀ q∈ps,a<=q.1/\q.1 < a+m)/\ps.length<=m
 | 0,a,s=>⟨[],rfl,.nil,(fun _ z=>nomatch z),Nat.le_refl 0⟩
 | m+1,a,s=>by
  have er:rng (a:Int) (m+1)=.int a::rng ((a+1:Nat):Int) m:=by
   unfold rng;rw [List.range_succ_eq_map];simp [Function.comp_def];intro b hb;omega
  rw [er,jL];split
  ·obtain ⟨ps,e,hp,hb,hl⟩:=kD p n m (a+1) ((vF (n (.int a) s)).2);refine ⟨(a,(vF (n (.int a) s)).1)::ps,by simp only [e];rfl,?_,fun q hq=>?_,by simp only [List.length_cons];omega⟩
   ·rw [List.map_cons];refine .cons (fun k hk=>?_) hp;obtain ⟨q,hq,rfl⟩:=List.mem_map.mp hk;have:=hb q hq;show a < q.1;omega
   ·rcases List.mem_cons.mp hq with rfl | hq
    ·exact ⟨Nat.le_refl _,by show a < a+(m+1);omega⟩
    ·have:=hb q hq;omega
  ·obtain ⟨ps,e,hp,hb,hl⟩:=kD p n m (a+1) (n (.int a) s);exact ⟨ps,e,hp,fun q hq=>by have:=hb q hq;omega,by omega⟩
def Sok:Stp->Prop
 | .call c=>c.ok
 | .look c=>c.ok
 | .lay ps=>ps≠[]/\ps.length<=9/\(∀ p∈ps,p.1 < 8)/\(ps.map (·.1)).Pairwise (· < ·)
def aU0 (xs:List PyData) (x:PyData):atI (xs++[x]) (-1)=some x:=by
 simp [atI,L2.ixN];rw [if_pos (by omega),show (-1+((xs.length:Int)+1)).toNat=xs.length by omega];simp
def aG3 (s:S3) (hk:aI s 9 < 5) (d:Nat) (h:aA) {i:Nat} (hi:i < h.length):aD T (d+4) "_law_step" [.c i] (h.set i (stL s))=some ((pF (digS s 9)).1.dat,h.set i (stL (pF (digS s 9)).2)):=by
 have e9:aT 9=true:=by decide
 simp [bT,hi,hk,e9]
def bI3 (s:S3) (hk:aI s 9=5):∃ (r:SJ.Call×S3),r.1.ok/\∀ (d:Nat) (h:aA) (i:Nat),i < h.length->aD T (d+4) "_law_step" [.c i] (h.set i (stL s))=some (r.1.dat,h.set i (stL r.2)):=by
 have e9:aT 9=true:=by decide
 have e8:aT 8=true:=by decide
 obtain ⟨k,ek,hk'⟩:=aW (digS s 9) (b:=8) (by decide);obtain ⟨m,em,hm⟩:=aW (digS (digS s 9) 8) (b:=8 - k) (by omega);refine ⟨(.span k (k+1+m),digS (digS (digS s 9) 8) (8 - k)),⟨by omega,by omega⟩,fun d h i hi=>?_⟩;have h1:(k:Int) < 8:=hk';have h2:aT (8 - (k:Int))=true:=cG (by omega) (by omega);simp [bT,hi,hk,ek,em,h1,h2,e9,e8,Call.dat,szl,aK]
def bI4 (s:S3) (hk:aI s 9=6):∃ (r:SJ.Call×S3),r.1.ok/\∀ (d:Nat) (h:aA) (i:Nat),i < h.length->aD T (d+4) "_law_step" [.c i] (h.set i (stL s))=some (r.1.dat,h.set i (stL r.2)):=by
 have e9:aT 9=true:=by decide
 have e4:aT 4=true:=by decide
 obtain ⟨m,em,hm⟩:=aW (digS s 9) (b:=4) (by decide);obtain ⟨cs,ec,hl,hc⟩:=uT (rng 0 (m+1)) (digS (digS s 9) 4);have hl':cs.length=m+1:=by rw [hl];simp [rng]
 refine ⟨(.deal cs,(thr (fun _ s=>(pF s).1.dat) (fun _ s=>(pF s).2) (rng 0 (m+1)) (digS (digS s 9) 4)).2),⟨by omega,by omega,hc⟩,fun d h i hi=>?_⟩;have er:fV 0 (1+(m:Int))=true:=bP (by omega) (by omega);have et:(1+(m:Int)).toNat=m+1:=by omega
 simp [bT,hi,hk,em,Call.dat,szl,er,et,e9,e4,aK];rw [pK (fun _ s=>(pF s).1.dat) (fun _ s=>(pF s).2) 0 (fun _ _ _=>rfl)]
 ·simp [ec]
 ·intro x _ u s;simp [hi]
def bI5 (s:S3) (hk:aI s 9=7):∃ (r:SJ.Call×S3),r.1.ok/\∀ (d:Nat) (h:aA) (i:Nat),i < h.length->aD T (d+4) "_law_step" [.c i] (h.set i (stL s))=some ((Stp.look r.1).dat,h.set i (stL r.2)):=by
 have e9:aT 9=true:=by decide
 have e8:aT 8=true:=by decide
 have e3:aT 3=true:=by decide
 obtain ⟨k,ek,hk'⟩:=aW (digS s 9) (b:=8) (by decide);have h3:aI (pF (pF (pF (digS (digS s 9) 8)).2).2).2 3=0\/aI (pF (pF (pF (digS (digS s 9) 8)).2).2).2 3=1\/aI (pF (pF (pF (digS (digS s 9) 8)).2).2).2 3=2:=by
  have:=fC (pF (pF (pF (digS (digS s 9) 8)).2).2).2 (b:=3) (by decide);have:=fD (pF (pF (pF (digS (digS s 9) 8)).2).2).2 (b:=3) (by decide);omega
 rcases h3 with e | e | e
 ·refine ⟨(.one (pF (digS (digS s 9) 8)).1,digS (pF (pF (pF (digS (digS s 9) 8)).2).2).2 3),aT9 _,fun d h i hi=>?_⟩;simp [bT,hi,hk,ek,e,e9,e8,e3,Stp.dat,Call.dat,szl,aK]
 ·refine ⟨(.span k 8,digS (pF (pF (pF (digS (digS s 9) 8)).2).2).2 3),⟨by omega,by omega⟩,fun d h i hi=>?_⟩;simp [bT,hi,hk,ek,e,e9,e8,e3,Stp.dat,Call.dat,szl,aK]
 ·refine ⟨(.deal [(pF (pF (digS (digS s 9) 8)).2).1,(pF (pF (pF (digS (digS s 9) 8)).2).2).1],digS (pF (pF (pF (digS (digS s 9) 8)).2).2).2 3),⟨by simp,by simp,fun c hm=>?_⟩,fun d h i hi=>?_⟩
  ·simp at hm;rcases hm with rfl | rfl
   ·exact aT9 _
   ·exact aT9 _
  simp [bT,hi,hk,ek,e,e9,e8,e3,Stp.dat,Call.dat,szl,aK]
theorem plP:∀ (ps:List (Nat×Int)) (m:Nat),plainsB (m+1) (ps.map prP)=true
 | [],m=>by simp
 | a::r,m=>by simp [prP,plP r]
def cJ4 (h:aA):xEq (.d (.list [])) (.d (.list [])) h=some true:=by simp [xEq,ref,PyData.eqv,PyData.eqvAll]
def bI6 (ps:List (Nat×Int)) (hn:ps≠[]) (h:aA):xEq (.d (.list (ps.map prP))) (.d (.list [])) h=some false:=by
 cases ps with
 | nil=>exact absurd rfl hn
 | cons a r =>
  have:=plP (a::r);simp [xEq,ref,PyData.eqv,PyData.eqvAll,prP,plP]
@[simp] theorem dO7 (b:Bool) (h:aA):wC [.d (.bool b)] h=some (.d (.int (if b then 1 else 0)),h):=rfl
@[simp] theorem dO8 (x:PyData):cut [x] (some 0) none=[x]:=rfl
@[simp] theorem dO9 (x:PyData):cut [x] (some 1) none=[]:=cI6 x []
def bI7 (s:S3) (hk:aI s 9=8):∃ (ps:List (Nat×Int)) (s':S3),Sok (.lay ps)/\∀ (d:Nat) (h:aA) (i:Nat),i < h.length->aD T (d+4) "_law_step" [.c i] (h.set i (stL s))=some ((Stp.lay ps).dat,h.set i (stL s')):=by
 have e9:aT 9=true:=by decide
 have e3:aT 3=true:=by decide
 have er:fV 0 8=true:=bP (by omega) (by omega);obtain ⟨ps,ep,hp,hb,hl⟩:=kD (fun _ s=>decide (aI s 3=0)) (fun _ s=>digS s 3) 8 0 (digS s 9);obtain ⟨s1,es⟩:∃ s1,s1=(jL (fun _ s=>decide (aI s 3=0)) (fun _ s=>digS s 3) (fun x s=>.tuple [x,.int (vF s).1]) (fun _ s=>(vF s).2) (rng 0 8) (digS s 9)).2:=⟨_,rfl⟩;have ec:∀ (d:Nat) (h:aA) (i:Nat),i < h.length->∀ (g:XG) (tt:XR Bool) (te:XR W) (all:List PyData) (δ:DSt),(∀ w δ h,g w δ h=some (δ.set 0 (some w),h)) ->
   (∀ x∈rng 0 8,∀ u s,tt ((δ.set 0 u).set 0 (some (.d x))) (h.set i (stL s))=some (decide (aI s 3=0),h.set i (stL (digS s 3)))) ->
   (∀ x∈rng 0 8,∀ u s,te ((δ.set 0 u).set 0 (some (.d x))) (h.set i (stL s))=some (.d (.tuple [x,.int (vF s).1]),h.set i (stL (vF s).2))) ->
   aO g tt te none all (rng 0 8) δ (h.set i (stL (digS s 9))) []=some (ps.map prP,h.set i (stL s1)):=fun d h i hi g tt te all δ hg h1 h2=>by
  rw [nF (fun _ s=>decide (aI s 3=0)) (fun _ s=>digS s 3) (fun x s=>.tuple [x,.int (vF s).1]) (fun _ s=>(vF s).2) 0 hg _ _ _ _ h1 h2,es];have ep':(jL (fun _ s=>decide (aI s 3=0)) (fun _ s=>digS s 3) (fun x s=>.tuple [x,.int (vF s).1]) (fun _ s=>(vF s).2) (rng 0 8) (digS s 9)).1=ps.map prP:=ep;rw [ep'];rfl
 rcases List.eq_nil_or_concat ps with rfl | ⟨qs,q,eq⟩
 ·refine ⟨[(7,(vF s1).1)],(vF s1).2,⟨by simp,by simp,by simp,by simp⟩,fun d h i hi=>?_⟩;simp [bT,hi,hk,er,e9,e3,Stp.dat,szl,aK];rw [ec d h i hi]
  ·simp [prP,hi,aK,szl,cJ4]
  ·exact fun _ _ _=>rfl
  ·intro x _ u s;simp [hi,e3]
  ·intro x _ u s;simp [hi,szl]
 ·rw [List.concat_eq_append] at eq;subst eq;have hz:qs.length+1<=16777216:=by simp at hl;omega
  have hz2:qs.length+1+1<=16777216:=by simp at hl;omega
  have hpr:prP=fun p=>PyData.tuple [.int p.1,.int p.2]:=rfl;have hne:=bI6 (qs++[q]) (by simp);have hat:atI ((qs++[q]).map prP) (-1)=some (prP q):=by rw [List.map_append];exact aU0 _ _
  by_cases h7:q.1=7
  ·refine ⟨qs++[q],(vF s1).2,⟨by simp,by omega,(fun p hp=>by have:=hb p hp;omega),hp⟩,fun d h i hi=>?_⟩;have h7':(q.1:Int)=7:=by omega
   simp [bT,hi,hk,er,e9,e3,Stp.dat,szl,aK];rw [ec d h i hi]
   ·simp [-List.map_append,hne,hat,prP,hi,aK,szl,h7',hz];simp [hpr,h7']
   ·exact fun _ _ _=>rfl
   ·intro x _ u s;simp [hi,e3]
   ·intro x _ u s;simp [hi,szl]
  ·refine ⟨qs++[q]++[(7,(vF s1).1)],(vF s1).2,⟨by simp,by simp at hl ⊢;omega,fun p hp=>?_,?_⟩,fun d h i hi=>?_⟩
   ·rcases List.mem_append.mp hp with hp | hp
    ·have:=hb p hp;omega
    ·simp at hp;rw [hp];show 7 < 8;omega
   ·rw [List.map_append];refine List.pairwise_append.mpr ⟨hp,by simp,fun a ha b hb'=>?_⟩;simp at hb';subst hb';rw [List.map_append] at hp ha;have hlt:=(List.pairwise_append.mp hp).2.2;have hq:=hb q (by simp);rcases List.mem_append.mp ha with ha | ha
    ·have:=hlt a ha q.1 (by simp);omega
    ·simp at ha;omega
   have h7':¬ (q.1:Int)=7:=by omega
   simp [bT,hi,hk,er,e9,e3,Stp.dat,szl,aK];rw [ec d h i hi]
   ·simp [-List.map_append,hne,hat,prP,hi,aK,szl,h7',hz2];simp [hpr]
   ·exact fun _ _ _=>rfl
   ·intro x _ u s;simp [hi,e3]
   ·intro x _ u s;simp [hi,szl]
def rS (s:S3):∃ r:Stp×S3,Sok r.1/\∀ (d:Nat) (h:aA) (i:Nat),i < h.length->aD T (d+4) "_law_step" [.c i] (h.set i (stL s))=some (r.1.dat,h.set i (stL r.2)):=by
 have h0:=fC s (b:=9) (by decide);have h9:=fD s (b:=9) (by decide)
 by_cases k5:aI s 9 < 5
 ·exact ⟨(.call (.one (pF (digS s 9)).1),(pF (digS s 9)).2),aT9 _,fun d h i hi=>aG3 s k5 d h hi⟩
 have:aI s 9=5\/aI s 9=6\/aI s 9=7\/aI s 9=8:=by omega
 rcases this with k | k | k | k
 ·obtain ⟨r,hr,e⟩:=bI3 s k;exact ⟨(.call r.1,r.2),hr,e⟩
 ·obtain ⟨r,hr,e⟩:=bI4 s k;exact ⟨(.call r.1,r.2),hr,e⟩
 ·obtain ⟨r,hr,e⟩:=bI5 s k;exact ⟨(.look r.1,r.2),hr,e⟩
 ·obtain ⟨ps,s',hr,e⟩:=bI7 s k;exact ⟨(.lay ps,s'),hr,e⟩
noncomputable def sF (s:S3):Stp×S3:=(rS s).choose
def bI8 (s:S3):Sok (sF s).1:=(rS s).choose_spec.1
@[simp] theorem cJ5 (d:Nat) (h:aA) {i:Nat} (s:S3) (hi:i < h.length):aD T (d+4) "_law_step" [.c i] (h.set i (stL s))=some ((sF s).1.dat,h.set i (stL (sF s).2)):=(rS s).choose_spec.2 d h i hi
theorem uU {n:Nat}:∀ (l:List Nat) (a:Nat),l.Pairwise (· < ·)->(∀ x∈l,a<=x/\x < n)->a<=n->l.length+a<=n
 | [],a,_,_,h=>by simpa using h
 | x::r,a,hp,hb,h=>by
  have hp':=List.pairwise_cons.mp hp;have hx:=hb x List.mem_cons_self;have:=uU r (x+1) hp'.2 (fun y hy=>⟨hp'.1 y hy,(hb y (List.mem_cons_of_mem _ hy)).2⟩) hx.2;rw [List.length_cons];omega
def yV {ps:List (Nat×Int)} (h:Sok (.lay ps)):ps.length<=8:=by
 have:=uU (n:=8) (ps.map (·.1)) 0 h.2.2.2 (fun x hx=>by
  obtain ⟨p,hp,rfl⟩:=List.mem_map.mp hx;exact ⟨Nat.zero_le _,h.2.2.1 p hp⟩) (by decide)
 simpa using this
variable (d:Nat) (h:aA)
noncomputable def dnC (st:List Int):SJ.Call->SJ.Ans×List Int
 | .one o=>(.one (sd st o).1,(sd st o).2)
 | .span lo hi=>(.all ((st.drop lo).take (hi - lo)),st)
 | .deal cs=>(.each (dr st cs).1,(dr st cs).2)
def bI9 {c:SJ.Call} (hc:c.ok) {st:List Int} (hl:st.length=8):(dnC st c).2.length=8:=by
 cases c with
 | one o=>rw [<- hl];exact wZ (by rw [hl];exact hc)
 | span lo hi=>exact hl
 | deal cs=>rw [<- hl];exact xA cs st fun o ho=>by rw [hl];exact hc.2.2 o ho
def jM {c:SJ.Call} (hc:c.ok) {st:List Int} (hl:st.length=8):Ans.fits c (dnC st c).1:=by
 cases c with
 | one o=>exact yS st o
 | span lo hi =>
  have h1:=hc.1;have h2:=hc.2;show ((st.drop lo).take (hi - lo)).length=hi - lo;simp;omega
 | deal cs=>exact aT5 cs st
def pV {c:SJ.Call} (hc:c.ok) (st:List Int) (hl:st.length=8):aD T (d+4) "done" [.d (.tuple (st.map .int)),.d c.dat] h=some (.tuple [(dnC st c).1.dat,.tuple ((dnC st c).2.map .int)],h):=by
 cases c with
 | one o=>exact aT7 (d+1) h o st hc hl
 | span lo hi=>exact aG2 (d+3) h lo hi (Nat.le_of_lt hc.1) hc.2 st hl
 | deal cs=>exact aG0 d h cs hc.2.2 (by have:=hc.1;omega) st hl
def dnS (st:List Int):Stp->PyData×List Int
 | .call c=>((dnC st c).1.dat,(dnC st c).2)
 | .look c=>((dnC st c).1.dat,st)
 | .lay ps=>(.tuple [.str "done"],ly st ps)
def yW {p:Stp} (hp:Sok p) {st:List Int} (hl:st.length=8):(dnS st p).2.length=8:=by
 cases p with
 | call c=>exact bI9 hp hl
 | look c=>exact hl
 | lay ps=>rw [<- hl];exact aT6 ps st fun p hp'=>by rw [hl];exact hp.2.2.1 p hp'
def xB {p:Stp} (hp:Sok p) {st:List Int} (hl:st.length=8):aD T (d+5) "done" [.d (.tuple (st.map .int)),.d p.dat] h=some (.tuple [(dnS st p).1,.tuple ((dnS st p).2.map .int)],h):=by
 cases p with
 | call c=>exact pV (d+1) h hp st hl
 | look c=>exact aG1 d h fun h=>pV d h hp st hl
 | lay ps=>exact aT8 (d+2) h ps hp.2.2.1 st hl
def lC:Stp->PyData->Bool
 | .call c,t=>aG t "refused" 1||bQ c t
 | .look c,t=>!aG t "refused" 1&&bQ c t
 | .lay _,t=>!aG t "refused" 1&&aG t "done" 1
def cJ6 (a:SJ.Ans):aG a.dat "refused" 1=false:=by
 cases a with
 | one a=>cases a<;>simp [Ans.dat,An1.dat,aG]
 | all ns=>simp [Ans.dat,aG]
 | each as=>simp [Ans.dat,aG]
def jN {c:SJ.Call} (hc:c.ok) {a:SJ.Ans} (hf:Ans.fits c a):lC (.call c) a.dat=true/\lC (.look c) a.dat=true:=by
 simp [lC,aC3 hf hc,cJ6]
end K16
set_option maxHeartbeats 400000
namespace K16
open PySem PySem.Spec PyProof.Rows L2 DL CI SJ
variable (d:Nat) (h:aA) (t:PyData)
def aU1 (c:SJ.Call):aD T (d+5) "is_own_answer" [.d (.tuple [.str "look",c.dat]),.d t] h=some (.bool (bQ c t),h):=by
 rw [show d+5=(d+4)+1 from rfl,aY];simp [PyData.eqv,szl,nC]
def bJ0 (ps:PyData):aD T (d+5) "is_own_answer" [.d (.tuple [.str "lay",ps]),.d t] h=some (.bool (aG t "done" 1),h):=by
 simp [aY,PyData.eqv,szl]
def aU2 {c:SJ.Call} (hc:c.ok):aD T (d+9) "is_answer" [.d (.tuple [.str "look",c.dat]),.d t] h=some (.bool (!aG t "refused" 1&&bQ c t),h):=by
 have hs:cX (.tuple [.str "look",c.dat])=true:=by
  cases c with
  | one o=>cases o<;>simp [Call.dat,One.dat,cX]
  | span lo hi=>simp [Call.dat,cX]
  | deal cs=>simp [Call.dat,cX]
 simp [gU,eD (d) _ h hs,(hU hc).2.1,(hU hc).1];cases e:aG t (Str.ofString "refused") 1
 ·simp [aU1 (d+3)]
 ·simp [(hU hc).1]
def bJ1 {ps:List (Nat×Int)} (hp:Sok (.lay ps)):aD T (d+9) "is_answer" [.d (.tuple [.str "lay",.tuple (ps.map prP)]),.d t] h=some (.bool (!aG t "refused" 1&&aG t "done" 1),h):=by
 have hl:=yV hp;have hs:cX (.tuple [.str "lay",.tuple (ps.map prP)])=true:=by simp [cX];omega
 have hg:=aM7 hp.1 hp.2.2.2 hp.2.2.1 hl;simp [gU,eD (d) _ h hs,hg];cases e:aG t (Str.ofString "refused") 1
 ·simp [bJ0 (d+3)]
 ·simp [hg]
def aU3 {p:Stp} (hp:Sok p):aD T (d+9) "is_answer" [.d p.dat,.d t] h=some (.bool (lC p t),h):=by
 cases p with
 | call c=>exact wX d t h hp
 | look c=>exact aU2 d h t hp
 | lay ps=>exact bJ1 d h t hp
def aU4 {p:Stp} (hp:Sok p):aD T (d+8) "is_step" [.d p.dat] h=some (.bool true,h):=by
 cases p with
 | call c =>
  rw [show (Stp.call c).dat=c.dat from rfl,eD _ _ _ (nD hp),(fH hp).2.1]
 | look c =>
  have hs:cX (.tuple [.str "look",c.dat])=true:=by
   cases c with
   | one o=>cases o<;>simp [Call.dat,One.dat,cX]
   | span lo hi=>simp [Call.dat,cX]
   | deal cs=>simp [Call.dat,cX]
  rw [show (Stp.look c).dat=.tuple [.str "look",c.dat] from rfl,eD _ _ _ hs,(hU hp).2.1]
 | lay ps=>exact wY d h hp.1 (by have:=yV hp;omega) hp.2.2.1 hp.2.2.2
noncomputable def nT:An1->An1
 | .got v=>.got (v+1)
 | .yes=>.no
 | .no=>.yes
 | .dn=>.dn
noncomputable def aG4:SJ.Ans->SJ.Ans
 | .one a=>.one (nT a)
 | .all ns=>.all ((ns.headD 0 - 1)::ns.tail)
 | .each as=>.each (as.map nT)
def pW {o:One} {a:An1} (hf:An1.fits o a):An1.fits o (nT a):=by
 cases o<;>cases a<;>simp [An1.fits] at hf<;>simp [An1.fits,nT]
theorem pX:∀ {os:List One} {as:List An1},Fit2 os as->Fit2 os (as.map nT)
 | _,_,.nil=>.nil
 | _,_,.cons h t=>.cons (pW h) (pX t)
def uV {c:SJ.Call} (hc:c.ok) {a:SJ.Ans} (hf:Ans.fits c a):Ans.fits c (aG4 a):=by
 cases c<;>cases a<;>simp only [Ans.fits] at hf<;>first | exact hf.elim | skip
 ·exact pW hf
 ·rename_i lo hi ns;have:=hc.1;show ((ns.headD 0 - 1)::ns.tail).length=hi - lo;simp;omega
 ·exact pX hf
def xC (a:An1):aD T (d+1) "_law_altered" [.d a.dat] h=some ((nT a).dat,h):=by
 cases a<;>simp [eR,An1.dat,nT,szl]
def aU5 (a:SJ.Ans) (ha:∀ ns,a=.all ns->ns≠[]/\ns.length<=8):aD T (d+2) "_law_altered" [.d a.dat] h=some ((aG4 a).dat,h):=by
 cases a with
 | one a=>exact xC (d+1) h a
 | all ns =>
  cases ns with
  | nil=>exact absurd rfl (ha [] rfl).1
  | cons n r =>
   have:=cI6 (.int n) (r.map .int);have hr:1+r.length<=16777216:=by have:=(ha _ rfl).2;simp at this;omega
   simp [eR,Ans.dat,aG4,szl,this,hr]
 | each as =>
  rw [show d+2=(d+1)+1 from rfl,eR];simp [Ans.dat,aG4,szl];have e1:as.map An1.dat=(as.map fun a=>(a.dat,(nT a).dat)).map (·.1):=by simp
  have e2:as.map (fun a=>(nT a).dat)=(as.map fun a=>(a.dat,(nT a).dat)).map (·.2):=by simp
  rw [e1,iR (fun δ=>∃ x,δ=[x])]
  ·simp [Function.comp_def]
  ·exact ⟨_,rfl⟩
  ·rintro q hq δ ⟨x,rfl⟩;obtain ⟨a,ha,rfl⟩:=List.mem_map.mp hq;exact ⟨_,rfl,⟨_,rfl⟩,by simp [xC d]⟩
end K16
namespace K16
open PySem PySem.Spec PyProof.Rows L2 DL CI SJ
structure It where
 p:Stp
 t:PyData
 w:String
def It.dat (x:It):PyData:=.tuple [x.p.dat,x.t,.str (Str.ofString x.w)]
noncomputable def aG5:PyData:=.tuple [.str "refused"]
def tOk (t:PyData):Prop:=t=.none\/t=aG5\/∃ a:SJ.Ans,t=a.dat
structure It.ok (x:It):Prop where
 s:Sok x.p
 a:x.t=.none\/lC x.p x.t=true
 t:tOk x.t
 w:x.w="must"\/x.w="may"\/x.w="out"
variable (d:Nat) (h:aA)
def t_cases {t:PyData} (ht:tOk t):t=.none\/∃ xs,t=.tuple xs:=by
 rcases ht with rfl | rfl | ⟨a,rfl⟩
 ·exact .inl rfl
 ·exact .inr ⟨_,rfl⟩
 ·right;cases a with
  | one a=>cases a<;>exact ⟨_,rfl⟩
  | all ns=>exact ⟨_,rfl⟩
  | each as=>exact ⟨_,rfl⟩
def uW {w:String} (hw:w="must"\/w="may"\/w="out"):xIn (.d (.str (Str.ofString w))) (.d (.tuple [.str (Str.ofString "must"),.str (Str.ofString "may"),.str (Str.ofString "out")])) h=some true:=by
 rcases hw with rfl | rfl | rfl<;>simp [xIn,ref,PyData.eqv]
theorem iA {α:Type} (f:α->PyData):∀ xs:List α,dP (xs.map ((fun _=>PyData.bool true) ∘ f))=some (xs.map fun _=>true)
 | []=>rfl
 | x::r=>by
  show dP (.bool true::r.map ((fun _=>PyData.bool true) ∘ f))=_;rw [dP,iA f r];rfl
def aG6 {x:It} (hx:x.ok):aD T (d+10) "is_item" [.d x.dat] h=some (.bool true,h):=by
 obtain ⟨p,t,w⟩:=x;obtain ⟨hs,ha,ht,hw⟩:=hx;dsimp only at hs ha ht hw;have e1:=aU4 (d+1) h hs;have e2:=aU3 d h t hs;rcases t_cases ht with rfl | ⟨xs,rfl⟩
 ·simp [pO,It.dat,iD,e1,isi,fF,uW h hw]
 ·have ha':lC p (.tuple xs)=true:=by
   rcases ha with ha | ha
   ·cases ha
   ·exact ha
  rw [ha'] at e2;simp [pO,It.dat,iD,e1,e2,isi,fF,uW h hw]
def uX {xs:List It} (hx:∀ x∈xs,x.ok) (hl:xs.length<=120):aD T (d+11) "are_items" [.d (.tuple (xs.map It.dat))] h=some (.bool true,h):=by
 have hl':(xs.length:Int)<=120:=by omega
 simp [uK,isi,fF,hl',aK];rw [bY (fun x=>.bool true) 0 (fun _ _ _=>rfl)]
 ·simp [iA]
 ·intro y hy u;obtain ⟨x,hx',rfl⟩:=List.mem_map.mp hy;simp [aG6 d h (hx x hx')]
def aG7 {ns:List Int} {n:Int} (hb:∀ x∈ns,0<=x/\x < n):aD T (d+3) "are_numbers" [.d (.tuple (ns.map .int)),.d (.int n)] h=some (.bool true,h):=by
 simp [iH,aK];rw [bY (fun x=>.bool true) 0 (fun _ _ _=>rfl)]
 ·simp [iA]
 ·intro y hy u;obtain ⟨x,hx',rfl⟩:=List.mem_map.mp hy;have:=hb x hx';simp [bW,gJ];omega
theorem pY:∀ ns:List Int,iE (ns.map .int)=some ns
 | []=>rfl
 | a::r=>by simp [iE,pY r]
def aU6 {ns:List Int} (h:ns.Nodup):ST.dd ns=ns:=by
 unfold ST.dd
 suffices H:∀ (l ac:List Int),(ac++l).Nodup->l.foldl step_dedup ac=ac++l by simpa using H ns [] (by simpa using h)
 intro l;induction l with
 | nil=>simp
 | cons a r ih =>
  intro ac hn;rw [List.foldl_cons];have hna:a∉ac:=fun hm=>by
   have:=(List.nodup_append.mp hn).2.2 a hm a List.mem_cons_self;exact this rfl
  have e:step_dedup ac a=ac++[a]:=by
   unfold step_dedup;simp [hna]
  rw [e,ih (ac++[a]) (by simpa using hn)];simp
def uY {ns:List Int} {n:Int} (hb:∀ x∈ns,0<=x/\x < n) (hd:ns.Nodup) (hl:ns.length<=62):aD T (d+4) "are_unlike" [.d (.tuple (ns.map .int)),.d (.int ns.length),.d (.int n)] h=some (.bool true,h):=by
 have e:=aG7 d h hb;simp [rM,iD,e,xLS,pY,aU6 hd,hl]
end K16
namespace K16
open PySem PySem.Spec PyProof.Rows L2 DL CI SJ
variable (d:Nat) (h:aA)
noncomputable def p2 (p:Nat×Nat):PyData:=.tuple [.int p.1,.int p.2]
noncomputable def p3 (p:Nat×Nat×Nat):PyData:=.tuple [.int p.1,.int p.2.1,.int p.2.2]
structure Pb where
 st:List Int
 its:List It
 ps:List (Nat×Nat)
 ts:List (Nat×Nat×Nat)
def Pb.dat (b:Pb):PyData:=.tuple [.tuple (b.st.map .int),.tuple (b.its.map It.dat),.tuple (b.ps.map p2),.tuple (b.ts.map p3)]
def must (its:List It) (x:Nat):Prop:=∃ y,its[x]?=some y/\y.w="must"
structure Pb.ok (b:Pb):Prop where
 st:b.st.length=8
 il:b.its.length<=120
 its:∀ x∈b.its,x.ok
 pl:b.ps.length<=100
 ps:∀ p∈b.ps,p.1 < b.its.length/\p.2 < b.its.length/\p.1≠p.2
 tl:b.ts.length<=100
 ts:∀ p∈b.ts,p.1 < b.its.length/\p.2.1 < b.its.length/\p.2.2 < b.its.length/\p.1≠p.2.1/\p.1≠p.2.2/\p.2.1≠p.2.2/\must b.its p.1/\must b.its p.2.1
def uZ {ps:List (Nat×Nat)} {n:Nat} (hl:ps.length<=100) (hp:∀ p∈ps,p.1 < n/\p.2 < n/\p.1≠p.2):aD T (d+5) "are_pairs" [.d (.tuple (ps.map p2)),.d (.int n)] h=some (.bool true,h):=by
 have hl':¬ (4000:Int) < ps.length:=by omega
 simp [uL,isi,fF,hl',aK];rw [bY (fun x=>.bool true) 0 (fun _ _ _=>rfl)]
 ·simp [iA]
 ·intro y hy u;obtain ⟨p,hm,rfl⟩:=List.mem_map.mp hy;obtain ⟨h1,h2,h3⟩:=hp p hm;have e:=uY d h (ns:=[(p.1:Int),(p.2:Int)]) (n:=n) (by simp;omega) (by simp;omega) (by simp);have e':aD T (d+4) "are_unlike" [.d (p2 p),.d (.int 2),.d (.int n)] h=some (.bool true,h):=e;simp [e']
def pZ {its:List It} {x:Nat} {y:It} (e:its[x]?=some y):atI (its.map It.dat) (x:Int)=some y.dat:=by
 have hx:x < its.length:=(List.getElem?_eq_some_iff.mp e).1;exact fO (by simp [e])
def nU {its:List It} {ts:List (Nat×Nat×Nat)} (hl:ts.length<=100) (hp:∀ p∈ts,p.1 < its.length/\p.2.1 < its.length/\p.2.2 < its.length/\p.1≠p.2.1/\p.1≠p.2.2/\p.2.1≠p.2.2/\must its p.1/\must its p.2.1):aD T (d+5) "are_triples" [.d (.tuple (ts.map p3)),.d (.tuple (its.map It.dat))] h=some (.bool true,h):=by
 have hl':¬ (4000:Int) < ts.length:=by omega
 simp [nQ,isi,fF,hl',aK];rw [bY (fun x=>.bool true) 0 (fun _ _ _=>rfl)]
 ·simp [iA];rw [pL (fun _=>.bool true) (fun δ=>∃ a b c,δ=[a,b,c,some (.d (.tuple (its.map It.dat)))])]
  ·simp [iA]
  ·exact ⟨_,_,_,rfl⟩
  ·rintro y hy δ ⟨a,b,c,rfl⟩;obtain ⟨p,hm,rfl⟩:=List.mem_map.mp hy;obtain ⟨h1,h2,h3,h4,h5,h6,⟨x1,e1,w1⟩,⟨x2,e2,w2⟩⟩:=hp p hm;refine ⟨[some (.d (.int p.1)),some (.d (.int p.2.1)),some (.d (.int p.2.2)),_],by simp [p3],⟨_,_,_,rfl⟩,?_⟩;simp [pZ e1,pZ e2,It.dat,w1,w2,PyData.eqv]
 ·intro y hy u;obtain ⟨p,hm,rfl⟩:=List.mem_map.mp hy;obtain ⟨h1,h2,h3,h4,h5,h6,_⟩:=hp p hm;have e:=uY d h (ns:=[(p.1:Int),(p.2.1:Int),(p.2.2:Int)]) (n:=its.length) (by simp;omega) (by simp;omega) (by simp);have e':aD T (d+4) "are_unlike" [.d (p3 p),.d (.int 3),.d (.int its.length)] h=some (.bool true,h):=e;simp [e']
def xD {st:List Int} (hl:st.length=8):aD T (d+3) "is_stand" [.d (.tuple (st.map .int))] h=some (.bool true,h):=by
 have:=dJ d h (st.map .int);simp [wQ,iD,hl];simp [gJ]
def rT {b:Pb} (hb:b.ok):aD T (d+12) "is_problem" [.d b.dat] h=some (.bool true,h):=by
 have e1:=xD (d+8) h hb.st;have e2:=uX d h hb.its (by have:=hb.il;omega);have e3:=uZ (d+6) h hb.pl hb.ps;have e4:=nU (d+6) h hb.tl hb.ts;simp [rN,Pb.dat,iD,e1,e2,e3,e4]
def bJ2 {b:Pb} (hb:b.ok):aD T (d+13) "check_problem" [.d b.dat] h=some (.none,h):=by
 simp [lB,rT d h hb]
end K16
namespace K16
open PySem PySem.Spec PyProof.Rows L2 DL CI SJ
variable (d:Nat) (h:aA)
def aU7 (a:An1) (n:Nat):aN (n+1) a.dat=true:=by cases a<;>simp [An1.dat]
theorem yX:∀ (ns:List Int) (n:Nat),plainsB n (ns.map .int)=true
 | [],n=>by simp
 | a::r,n=>by simp [yX r]
theorem yY:∀ (as:List An1) (n:Nat),plainsB (n+1) (as.map An1.dat)=true
 | [],n=>by simp
 | a::r,n=>by simp [aU7,yY r]
def cJ7 (a:SJ.Ans):aN 64 a.dat=true:=by
 cases a with
 | one a=>exact aU7 a 63
 | all ns=>simp [Ans.dat,yX]
 | each as=>simp [Ans.dat,yY]
def cW3 {t:PyData} (ht:tOk t):aN 64 t=true:=by
 rcases ht with rfl | rfl | ⟨a,rfl⟩
 ·simp
 ·simp [aG5]
 ·exact cJ7 a
def bJ3 (st:List Int) (p:Stp):tOk (dnS st p).1/\(dnS st p).1≠.none:=by
 have na:∀ a:SJ.Ans,a.dat≠.none:=fun a=>by
  cases a with
  | one a=>cases a<;>simp [Ans.dat,An1.dat]
  | all ns=>simp [Ans.dat]
  | each as=>simp [Ans.dat]
 cases p with
 | call c=>exact ⟨.inr (.inr ⟨_,rfl⟩),na _⟩
 | look c=>exact ⟨.inr (.inr ⟨_,rfl⟩),na _⟩
 | lay ps=>exact ⟨.inr (.inr ⟨.one .dn,rfl⟩),by simp [dnS]⟩
open Classical in
noncomputable def bh (st:List Int) (y:It):PyData:=if y.t=.none\/PyData.eqv y.t (dnS st y.p).1=true then .tuple ((dnS st y.p).2.map .int) else .none
def cW4 {a b:PyData} (ha:tOk a) (hb:tOk b):xEq (.d a) (.d b) h=some (PyData.eqv a b):=by
 simp [xEq,ref,cW3 ha,cW3 hb]
def dM4 {its:List It} {st:List Int} {j x:Nat} {y:It} {fs:List (Str×W)} (ey:its[x]?=some y) (hy:y.ok) (hl:st.length=8) (ho:h[j]?=some (.o 289 fs)) (hf:fs.lookup (Str.ofString "listed")=some (.d (.tuple (its.map It.dat)))) :
  callM T (d+6) "stand_behind" [.c j,.d (.tuple (st.map .int)),.d (.int x)] h=some (.d (bh st y),h):=by
 have e1:=xB d h hy.s hl;have e2:=pZ ey;have e3:T.fo 289 (Str.ofString "listed")=true:=by decide +kernel
 have e4:=cW4 h hy.t (bJ3 st y.p).1;obtain ⟨p,t,w⟩:=y;dsimp only at e1 e4;rcases t_cases hy.t with rfl | ⟨xs,rfl⟩
 ·simp [gH,ho,hf,e3,e1,e2,It.dat,bh]
 ·cases hq:PyData.eqv (.tuple xs) (dnS st p).1<;>simp [gH,ho,hf,e3,e1,e2,e4,It.dat,bh,hq]
end K16
namespace K16
open PySem PySem.Spec PyProof.Rows L2 DL CI SJ
noncomputable def nI (k:Nat):PyData:=.int k
noncomputable def dL (its:List It) (k:Nat):Bool:=match its[k]? with
 | some y=>decide (y.w="must")
 | none=>false
noncomputable def mus (its:List It):List Nat:=(List.range its.length).filter (dL its)
noncomputable def ahL (its:List It) (ps:List (Nat×Nat)) (x:Nat):List Nat:=(ps.filter fun p=>decide (p.2=x)&&dL its p.1).map (·.1)
noncomputable def laL (ps:List (Nat×Nat)) (x:Nat):List Nat:=(ps.filter fun p=>decide (p.1=x)).map (·.2)
noncomputable def gaL (ts:List (Nat×Nat×Nat)) (x:Nat):List (Nat×Nat):=(ts.filter fun t=>decide (t.2.2=x)).map fun t=>(t.1,t.2.1)
noncomputable def Gf (its:List It) (ps:List (Nat×Nat)) (ts:List (Nat×Nat×Nat)) (k x:Nat):List PyData:=if k=0 then (ahL its ps x).map nI else if k=1 then (laL ps x).map nI else (gaL ts x).map p2
def xE (its:List It) (ps:List (Nat×Nat)) (ts:List (Nat×Nat×Nat)) (k x:Nat):(Gf its ps ts k x).length<=ps.length+ts.length:=by
 unfold Gf ahL laL gaL;have h1:=List.length_filter_le (fun p=>decide (p.2=x)&&dL its p.1) ps;have h2:=List.length_filter_le (fun p=>decide (p.1=x)) ps;have h3:=List.length_filter_le (fun t=>decide (t.2.2=x)) ts;split
 ·simp;omega
 split
 ·simp;omega
 ·simp;omega
def bQ3 {n k k' y y':Nat} (hy:y<=n) (h:k < k'):k*(n+1)+y < k'*(n+1)+y':=by
 have:(k+1)*(n+1)<=k'*(n+1):=Nat.mul_le_mul_right _ h;rw [Nat.succ_mul] at this;omega
def aU8 {n k k' y y':Nat} (hy:y<=n) (hy':y'<=n) (e:k*(n+1)+y=k'*(n+1)+y'):k=k'/\y=y':=by
 rcases Nat.lt_trichotomy k k' with h | h | h
 ·have:=bQ3 (y':=y') hy h;omega
 ·subst h;omega
 ·have:=bQ3 (y':=y) hy' h;omega
structure Wz (h0:aA) (n:Nat) (fs:List (Str×W)) (t:Nat) (G:Nat->Nat->List PyData) (H:aA):Prop where
 ln:H.length=h0.length+1+t*(n+1)
 sm:∀ i,i < h0.length->H[i]?=h0[i]?
 ob:H[h0.length]?=some (.o 289 fs)
 el:∀ k,k < t->∀ y,y < n->H[h0.length+1+(k*(n+1)+y)]?=some (.l (G k y))
 rl:∀ k,k < t->H[h0.length+1+(k*(n+1)+n)]?=some (.r (List.range' (h0.length+1+k*(n+1)) n))
variable {h0 H:aA} {n t:Nat} {fs:List (Str×W)} {G:Nat->Nat->List PyData}
def Wz.put (w:Wz h0 n fs t G H) (fs':List (Str×W)):Wz h0 n fs' t G (H.set h0.length (.o 289 fs')) where
 ln:=by rw [List.length_set];exact w.ln
 sm i hi:=by rw [List.getElem?_set_ne (by omega)];exact w.sm i hi
 ob:=by rw [List.getElem?_set_self (List.getElem?_eq_some_iff.mp w.ob).1]
 el k hk y hy:=by rw [List.getElem?_set_ne (by omega)];exact w.el k hk y hy
 rl k hk:=by rw [List.getElem?_set_ne (by omega)];exact w.rl k hk
def Wz.app (w:Wz h0 n fs t G H) {k y:Nat} (hk:k < t) (hy:y < n) {G':Nat->Nat->List PyData} {x:PyData} (h1:G' k y=G k y++[x]) (h2:∀ k' y',¬ (k'=k/\y'=y)->G' k' y'=G k' y'):Wz h0 n fs t G' (H.set (h0.length+1+(k*(n+1)+y)) (.l (G k y++[x]))) where
 ln:=by rw [List.length_set];exact w.ln
 sm i hi:=by rw [List.getElem?_set_ne (by omega)];exact w.sm i hi
 ob:=by rw [List.getElem?_set_ne (by omega)];exact w.ob
 el k' hk' y' hy':=by
  by_cases q:k'=k/\y'=y
  ·obtain ⟨rfl,rfl⟩:=q;rw [List.getElem?_set_self (List.getElem?_eq_some_iff.mp (w.el k' hk' y' hy')).1,h1]
  ·rw [List.getElem?_set_ne (fun z=>q ?_),w.el k' hk' y' hy',h2 k' y' q];have:=aU8 (n:=n) (k:=k) (k':=k') (y:=y) (y':=y') (by omega) (by omega) (by omega);omega
 rl k' hk':=by
  rw [List.getElem?_set_ne (fun z=>?_)]
  ·exact w.rl k' hk'
  ·have:=aU8 (n:=n) (k:=k) (k':=k') (y:=y) (y':=n) (by omega) (by omega) (by omega);omega
theorem news {all:List PyData} {tt:XR W} (ht:∀ δ h,tt δ h=some (.c h.length,h++[.l []])) {g:XG} (hg:∀ w δ h,∃ δ1,g w δ h=some (δ1,h)):∀ (rest:List PyData) (δ:DSt) (H:aA) (ac:List Nat),
  dD g (aC true) tt none all rest δ H ac=some (ac++List.range' H.length rest.length,H++List.replicate rest.length (.l []))
 | [],δ,H,ac=>by simp [dD]
 | x::r,δ,H,ac=>by
  obtain ⟨δ1,e1⟩:=hg (.d x) δ H;have e:=news (all:=all) ht hg r δ1 (H++[.l []]) (ac++[H.length]);rw [dD,bX,if_pos rfl,e1];simp [ht,e,List.range'_succ,List.replicate_succ]
def Wz.new (w:Wz h0 n fs t G H) (hG:∀ y,G t y=[]):Wz h0 n fs (t+1) G (H++List.replicate n (.l [])++[.r (List.range' H.length n)]) where
 ln:=by have:=w.ln;simp [Nat.succ_mul];omega
 sm i hi:=by
  have:=w.ln;rw [List.append_assoc,List.getElem?_append_left (by omega)];exact w.sm i hi
 ob:=by
  have:=w.ln;rw [List.append_assoc,List.getElem?_append_left (by omega)];exact w.ob
 el k hk y hy:=by
  have hl:=w.ln
  by_cases q:k=t
  ·subst q;rw [List.append_assoc,List.getElem?_append_right (by omega),List.getElem?_append_left (by simp;omega),hG,List.getElem?_replicate,if_pos (by omega)]
  ·have:=w.el k (by omega) y hy;rw [List.append_assoc,List.getElem?_append_left (List.getElem?_eq_some_iff.mp this).1];exact this
 rl k hk:=by
  have hl:=w.ln
  by_cases q:k=t
  ·subst q;rw [List.getElem?_append_right (by simp;omega)];have:h0.length+1+(k*(n+1)+n) - (H++List.replicate n (Cell.l [])).length=0:=by simp;omega
   rw [this,hl];rfl
  ·have:=w.rl k (by omega);rw [List.append_assoc,List.getElem?_append_left (List.getElem?_eq_some_iff.mp this).1];exact this
end K16
set_option maxHeartbeats 1000000
namespace K16
open PySem PySem.Spec PyProof.Rows L2 DL CI SJ
def fin {x:Option (Fl×aA)} {P:DSt->aA->Prop} {Q:aA->Prop} (hq:∀ δ H,P δ H->Q H) (e:∃ δ H,x=some (.nx δ,H)/\P δ H):∃ H,x.bind iG=some (.d .none,H)/\Q H:=by
 obtain ⟨δ,H,rfl,p⟩:=e;exact ⟨H,rfl,hq δ H p⟩
def bJ4:T.fo 289 (Str.ofString "first")=true/\T.fo 289 (Str.ofString "listed")=true/\T.fo 289 (Str.ofString "musts")=true/\T.fo 289 (Str.ofString "ahead")=true/\T.fo 289 (Str.ofString "later")=true/\T.fo 289 (Str.ofString "gaps")=true:=by decide +kernel
def F6 (b:Pb) (x y z:Nat):List (Str×W):=[("first",.d (.tuple (b.st.map .int))),("listed",.d (.tuple (b.its.map It.dat))),("musts",.d (.list ((mus b.its).map nI))),("ahead",.c x),("later",.c y),("gaps",.c z)]
noncomputable def isM:PyData->Bool
 | .tuple [_,.tuple [_,_,.str w]]=>w==Str.ofString "must"
 | _=>false
noncomputable def bJ5:PyData->PyData
 | .tuple [k,_]=>k
 | _=>.none
theorem lO:∀ (xs:List PyData) (k:Nat),iF k xs=(List.range xs.length).map fun i=>.tuple [.int (k+i:Nat),xs.getD i .none]
 | [],k=>rfl
 | x::r,k=>by
  rw [iF,lO r (k+1),List.length_cons,List.range_succ_eq_map,List.map_cons,List.map_map]
  congr 1
  refine List.map_congr_left fun i _=>?_;simp;omega
def aU9 (its:List It):((fJ (its.map It.dat)).filter isM).map bJ5=(mus its).map nI:=by
 unfold fJ;rw [lO,List.filter_map,List.map_map,List.length_map];unfold mus;rw [List.filter_congr (q:=dL its) fun k hk=>?_]
 ·refine List.map_congr_left fun k _=>?_;simp [bJ5,nI]
 ·have hk:=List.mem_range.mp hk;rw [Bool.eq_iff_iff];simp [isM,dL,hk,It.dat]
def aG8 {h0 H:aA} {n t:Nat} {fs:List (Str×W)} {G:Nat->Nat->List PyData} (w:Wz h0 n fs t G H) {k y:Nat} (hk:k < t) (hy:y < n):xIx (.c (h0.length+1+(k*(n+1)+n))) (.d (.int y)) H=some (.c (h0.length+1+(k*(n+1)+y)),H):=by
 have e:=w.rl k hk;have:atI (List.range' (h0.length+1+k*(n+1)) n) (y:Int)=some (h0.length+1+(k*(n+1)+y)):=by
  apply fO;rw [List.getElem?_range' (by omega)];simp;omega
 simp [xIx,ref,e,xIr,this]
def JZ (h0:aA) (n:Nat) (δ0:DSt) (fs:List (Str×W)) (t:Nat) (δ:DSt) (H:aA):Prop:=δ=δ0/\Wz h0 n fs t (fun _ _=>[]) H
def nG {its:List It} {x:Nat} (hx:x < its.length):atI (its.map It.dat) (x:Int)=some its[x].dat:=pZ (List.getElem?_eq_getElem hx)
def RL (h0:aA) (b:Pb) (fs:List (Str×W)) (ps:List (Nat×Nat)) (ts:List (Nat×Nat×Nat)) (δ:DSt) (H:aA):Prop:=(∃ u v w,δ=[some (.c h0.length),some (.d b.dat),u,v,w])/\Wz h0 b.its.length fs 3 (Gf b.its ps ts) H
def cJ8 (its:List It) (ps:List (Nat×Nat)) (p:Nat×Nat) (k y:Nat):Gf its (ps++[p]) [] k y=if k=0/\y=p.2/\dL its p.1=true then Gf its ps [] k y++[nI p.1] else if k=1/\y=p.1 then Gf its ps [] k y++[nI p.2] else Gf its ps [] k y:=by
 unfold Gf ahL laL gaL
 by_cases k0:k=0
 ·subst k0
  by_cases hy:p.2=y
  ·cases hm:dL its p.1<;>simp [hy,hm,List.filter_append]
  ·have:¬ y=p.2:=fun z=>hy z.symm;simp [hy,this,List.filter_append]
 by_cases k1:k=1
 ·subst k1
  by_cases hy:p.1=y
  ·simp [hy,List.filter_append]
  ·have:¬ y=p.1:=fun z=>hy z.symm;simp [hy,this,List.filter_append]
 ·simp [k0,k1]
def dM5 (its:List It) (ps:List (Nat×Nat)) (ts:List (Nat×Nat×Nat)) (q:Nat×Nat×Nat) {k:Nat} (hk:k < 3) (y:Nat):Gf its ps (ts++[q]) k y=if k=2/\y=q.2.2 then Gf its ps ts k y++[p2 (q.1,q.2.1)] else Gf its ps ts k y:=by
 unfold Gf gaL
 by_cases k0:k=0
 ·subst k0;simp
 by_cases k1:k=1
 ·subst k1;simp
 have:k=2:=by omega
 subst this
 by_cases hy:q.2.2=y
 ·simp [hy,List.filter_append]
 ·have:¬ y=q.2.2:=fun z=>hy z.symm;simp [hy,this,List.filter_append]
def cJ9 (d:Nat) {b:Pb} (hb:b.ok) (h0:aA):∃ H,callI T (d+2) "Ways" [.c h0.length,.d b.dat] (h0++[.o 289 []])=some (.d .none,H)/\Wz h0 b.its.length (F6 b (h0.length+1+(0*(b.its.length+1)+b.its.length)) (h0.length+1+(1*(b.its.length+1)+b.its.length)) (h0.length+1+(2*(b.its.length+1)+b.its.length))) 3 (Gf b.its b.ps b.ts) H:=by
 obtain ⟨f1,f2,f3,f4,f5,f6⟩:=bJ4;rw [bH6];simp only [mV];obtain ⟨n,en⟩:∃ n,n=b.its.length:=⟨_,rfl⟩;obtain ⟨x0,e0⟩:∃ x0,x0=h0.length+1+(0*(n+1)+n):=⟨_,rfl⟩;obtain ⟨x1,e1⟩:∃ x1,x1=h0.length+1+(1*(n+1)+n):=⟨_,rfl⟩;obtain ⟨x2,e2⟩:∃ x2,x2=h0.length+1+(2*(n+1)+n):=⟨_,rfl⟩;rw [<- en,<- e0,<- e1,<- e2];have w0:Wz h0 n [] 0 (fun _ _=>[]) (h0++[.o 289 []]):=⟨by simp,fun i hi=>by rw [List.getElem?_append_left hi],by simp,fun k hk=>absurd hk (by omega),fun k hk=>absurd hk (by omega)⟩;generalize h0++[Cell.o 289 []]=H0 at w0;refine fin (P:=RL h0 b (F6 b x0 x1 x2) b.ps b.ts) (fun _ _ p=>by rw [en];exact p.2) ?_;have w1:=w0.put [(Str.ofString "first",.d (.tuple (b.st.map .int)))];refine bO [some (.c h0.length),some (.d b.dat),none,none,none] (H0.set h0.length (.o 289 [(Str.ofString "first",.d (.tuple (b.st.map .int)))])) (by simp [w0.ob,f1,Pb.dat,jW]) ?_;generalize H0.set h0.length (.o 289 [(Str.ofString "first",.d (.tuple (b.st.map .int)))])=H1 at w1;have w2:=w1.put [(Str.ofString "first",.d (.tuple (b.st.map .int))),(Str.ofString "listed",.d (.tuple (b.its.map It.dat)))];refine bO [some (.c h0.length),some (.d b.dat),none,none,none] (H1.set h0.length (.o 289 [(Str.ofString "first",.d (.tuple (b.st.map .int))),(Str.ofString "listed",.d (.tuple (b.its.map It.dat)))])) (by simp [w1.ob,f2,Pb.dat,jW]) ?_;generalize H1.set h0.length (.o 289 [(Str.ofString "first",.d (.tuple (b.st.map .int))),(Str.ofString "listed",.d (.tuple (b.its.map It.dat)))])=H2 at w2;refine cP (JZ h0 n [some (.c h0.length),some (.d b.dat),none,none,none] [(Str.ofString "first",.d (.tuple (b.st.map .int))),(Str.ofString "listed",.d (.tuple (b.its.map It.dat))),(Str.ofString "musts",.d (.list ((mus b.its).map nI)))] 0) ?_ ?_
 ·simp [w2.ob,f2,f3,fU,aK,List.lookup];rw [dW isM bJ5 (fun δ=>∃ a b,δ=[a,b])]
  ·rw [List.nil_append,aU9];simp [w2.ob,f3,jW];exact ⟨_,_,⟨rfl,rfl⟩,rfl,w2.put _⟩
  ·exact ⟨_,_,rfl⟩
  ·rintro z hz δ ⟨a,b',rfl⟩;unfold fJ at hz;rw [lO] at hz;obtain ⟨k,hk,rfl⟩:=List.mem_map.mp hz;have hk:k < b.its.length:=by simpa using hk
   exact ⟨[some (.d (.int (0+k:Nat))),some (.d b.its[k].dat)],by simp [hk],⟨_,_,rfl⟩,by simp [It.dat,isM,PyData.eqv,hk],by simp [bJ5]⟩
 rintro δ H3 ⟨rfl,w3⟩;have ht:∀ (δ:DSt) (h:aA),bZ (xPl (aC [])) δ h=some (.c h.length,h++[.l []]):=fun δ h=>by simp [bZ,szl]
 have nw:∀ (H:aA),dD (YG 0) (aC true) (bZ (xPl (aC []))) none (b.its.map It.dat) (b.its.map It.dat) [none] H []=some (List.range' H.length n,H++List.replicate n (.l [])):=fun H=>by
  have:=news (all:=b.its.map It.dat) ht (g:=YG 0) (fun w δ h=>⟨_,rfl⟩) (b.its.map It.dat) [none] H []
  simpa [en] using this
 simp only [dM2] at nw;have lk:∀ {t:Nat} {H:aA} {fs:List (Str×W)},Wz h0 n fs t (fun _ _=>[]) H->H.length+n=h0.length+1+(t*(n+1)+n):=fun w=>by
  rw [w.ln];omega
 refine cP (JZ h0 n [some (.c h0.length),some (.d b.dat),none,none,none] [(Str.ofString "first",.d (.tuple (b.st.map .int))),(Str.ofString "listed",.d (.tuple (b.its.map It.dat))),(Str.ofString "musts",.d (.list ((mus b.its).map nI))),(Str.ofString "ahead",.c x0)] 1) ?_ ?_
 ·have w4:=w3.new (fun _=>rfl);have l4:=lk w3;rw [<- e0] at l4;simp [w3.ob,f2,f4,List.lookup,nw,-List.append_assoc];rw [l4,w4.ob];simp [f4,jW,-List.append_assoc];exact ⟨_,_,⟨rfl,rfl⟩,rfl,w4.put _⟩
 rintro δ H4 ⟨rfl,w4⟩;refine cP (JZ h0 n [some (.c h0.length),some (.d b.dat),none,none,none] [(Str.ofString "first",.d (.tuple (b.st.map .int))),(Str.ofString "listed",.d (.tuple (b.its.map It.dat))),(Str.ofString "musts",.d (.list ((mus b.its).map nI))),(Str.ofString "ahead",.c x0),(Str.ofString "later",.c x1)] 2) ?_ ?_
 ·have w5:=w4.new (fun _=>rfl);have l5:=lk w4;rw [<- e1] at l5;simp [w4.ob,f2,f5,List.lookup,nw,-List.append_assoc];rw [l5,w5.ob];simp [f5,jW,-List.append_assoc];exact ⟨_,_,⟨rfl,rfl⟩,rfl,w5.put _⟩
 rintro δ H5 ⟨rfl,w5⟩;refine cP (JZ h0 n [some (.c h0.length),some (.d b.dat),none,none,none] (F6 b x0 x1 x2) 3) ?_ ?_
 ·have w6:=w5.new (fun _=>rfl);have l6:=lk w5;rw [<- e2] at l6;simp [w5.ob,f2,f6,List.lookup,nw,-List.append_assoc];rw [l6,w6.ob];simp [f6,jW,-List.append_assoc];exact ⟨_,_,⟨rfl,rfl⟩,rfl,w6.put _⟩
 rintro δ H6 ⟨rfl,w6⟩;obtain ⟨F,eF⟩:∃ F,F=F6 b x0 x1 x2:=⟨_,rfl⟩;have lA:F.lookup (Str.ofString "ahead")=some (.c x0):=by rw [eF];simp [F6,List.lookup]
 have lL:F.lookup (Str.ofString "later")=some (.c x1):=by rw [eF];simp [F6,List.lookup]
 have lG:F.lookup (Str.ofString "gaps")=some (.c x2):=by rw [eF];simp [F6,List.lookup]
 have lI:F.lookup (Str.ofString "listed")=some (.d (.tuple (b.its.map It.dat))):=by rw [eF];simp [F6,List.lookup]
 rw [<- eF] at w6 ⊢;have w6':Wz h0 b.its.length F 3 (Gf b.its [] []) H6:=by
  rw [<- en];have:Gf b.its [] []=fun _ _=>[]:=by funext k y;simp [Gf,ahL,laL,gaL]
  rw [this];exact w6
 subst en;refine cP (RL h0 b F b.ps []) ?_ ?_
 ·simp [Pb.dat];refine dG (fun k=>RL h0 b F (b.ps.take k) []) ⟨⟨_,_,_,rfl⟩,by rw [List.take_zero];exact w6'⟩ (fun δ H r=>by rw [List.length_map,List.take_length] at r;exact r) fun k hk δ H r=>?_;obtain ⟨⟨u,v,w,rfl⟩,wz⟩:=r;have hk':k < b.ps.length:=by simpa using hk
  have h100:=hb.pl;obtain ⟨q1,q2,q3⟩:=hb.ps b.ps[k] (List.getElem_mem hk');have et:b.ps.take (k+1)=b.ps.take k++[b.ps[k]]:=by rw [List.take_add_one,List.getElem?_eq_getElem hk'];rfl
  have egp:(b.ps.map p2)[k]=p2 b.ps[k]:=by simp
  rw [egp,et];have lt:(b.ps.take k).length<=100:=by rw [List.length_take];omega
  generalize b.ps.take k=ps at wz lt;generalize b.ps[k]=p at q1 q2 q3;obtain ⟨pa,pb⟩:=p;dsimp only at q1 q2 q3;refine ⟨[some (.c h0.length),some (.d b.dat),some (.d (.int pa)),some (.d (.int pb)),w],H,by simp [p2],?_⟩;have s1:(Gf b.its ps [] 1 pa).length < 16777216:=by have:=xE b.its ps [] 1 pa;simp at this;omega
  have s2:(Gf b.its ps [] 0 pb).length < 16777216:=by have:=xE b.its ps [] 0 pb;simp at this;omega
  have i1:=aG8 wz (k:=1) (by omega) q1;rw [<- e1] at i1;have g1:=wz.el 1 (by omega) pa q1;have w7:=wz.app (k:=1) (y:=pa) (by omega) q1 (x:=nI pb) (G':=fun k y=>if k=1/\y=pa then Gf b.its ps [] k y++[nI pb] else Gf b.its ps [] k y) (by simp) (fun k' y' z=>by simp [z]);generalize h0.length+1+(1*(b.its.length+1)+pa)=z1 at i1 g1 w7;have p1:jE (Str.ofString "append") (.c z1) H=true:=by simp [jE,g1]
  refine bO [some (.c h0.length),some (.d b.dat),some (.d (.int pa)),some (.d (.int pb)),w] (H.set z1 (.l (Gf b.its ps [] 1 pa++[nI pb]))) (by simp [wz.ob,f5,lL,i1,g1,p1,s1,szl,nI]) ?_;generalize H.set z1 (.l (Gf b.its ps [] 1 pa++[nI pb]))=H8 at w7;have e6:=nG q1;dsimp only;have mu:dL b.its pa=decide (b.its[pa].w="must"):=by simp [dL,q1]
  by_cases hw:b.its[pa].w="must"
  ·have i2:=aG8 w7 (k:=0) (by omega) q2;rw [<- e0] at i2;have g2:=w7.el 0 (by omega) pb q2;simp only [show ¬ (0=1/\pb=pa) by omega,if_false] at g2;have w8:=w7.app (k:=0) (y:=pb) (by omega) q2 (x:=nI pa) (G':=Gf b.its (ps++[(pa,pb)]) []) (by rw [cJ8];simp [mu,hw]) (fun k' y' z=>by
    rw [cJ8];have z':¬ (k'=0/\y'=pb/\dL b.its pa=true):=fun q=>z ⟨q.1,q.2.1⟩;rw [if_neg z'])
   simp only [show ¬ (0=1/\pb=pa) by omega,if_false] at w8;generalize h0.length+1+(0*(b.its.length+1)+pb)=z2 at i2 g2 w8;have p2':jE (Str.ofString "append") (.c z2) H8=true:=by simp [jE,g2]
   refine ⟨[some (.c h0.length),some (.d b.dat),some (.d (.int pa)),some (.d (.int pb)),w],_,?_,⟨_,_,_,rfl⟩,w8⟩;simp [w7.ob,f2,lI,e6,It.dat,hw,PyData.eqv,f4,lA,i2,g2,p2',s2,szl,nI]
  ·refine ⟨[some (.c h0.length),some (.d b.dat),some (.d (.int pa)),some (.d (.int pb)),w],H8,?_,⟨_,_,_,rfl⟩,?_⟩
   ·simp [w7.ob,f2,lI,e6,It.dat,hw,PyData.eqv,szl]
   ·have eg:Gf b.its (ps++[(pa,pb)]) []=fun k y=>if k=1/\y=pa then Gf b.its ps [] k y++[nI pb] else Gf b.its ps [] k y:=by
     funext k y
     rw [cJ8];simp [mu,hw]
    rw [eg];exact w7
 rintro δ H7 ⟨⟨u,v,w,rfl⟩,w7⟩;refine cP (RL h0 b F b.ps b.ts) ?_ (fun δ H r=>⟨δ,H,rfl,r⟩);simp [Pb.dat];refine dG (fun k=>RL h0 b F b.ps (b.ts.take k)) ⟨⟨_,_,_,rfl⟩,by rw [List.take_zero];exact w7⟩ (fun δ H r=>by rw [List.length_map,List.take_length] at r;exact r) fun k hk δ H r=>?_;obtain ⟨⟨u,v,w,rfl⟩,wz⟩:=r;have hk':k < b.ts.length:=by simpa using hk
 have h100:=hb.tl;have h101:=hb.pl;obtain ⟨q1,q2,q3,_⟩:=hb.ts b.ts[k] (List.getElem_mem hk');have et:b.ts.take (k+1)=b.ts.take k++[b.ts[k]]:=by rw [List.take_add_one,List.getElem?_eq_getElem hk'];rfl
 have egp:(b.ts.map p3)[k]=p3 b.ts[k]:=by simp
 rw [egp,et];have lt:(b.ts.take k).length<=100:=by rw [List.length_take];omega
 generalize b.ts.take k=ts at wz lt;generalize b.ts[k]=p at q1 q2 q3;obtain ⟨pa,pb,pc⟩:=p;dsimp only at q1 q2 q3;refine ⟨[some (.c h0.length),some (.d b.dat),some (.d (.int pa)),some (.d (.int pb)),some (.d (.int pc))],H,by simp [p3],?_⟩;have s1:(Gf b.its b.ps ts 2 pc).length < 16777216:=by have:=xE b.its b.ps ts 2 pc;omega
 have i1:=aG8 wz (k:=2) (by omega) q3;rw [<- e2] at i1;have g1:=wz.el 2 (by omega) pc q3;have w8:Wz h0 b.its.length F 3 (Gf b.its b.ps (ts++[(pa,pb,pc)])) (H.set (h0.length+1+(2*(b.its.length+1)+pc)) (.l (Gf b.its b.ps ts 2 pc++[p2 (pa,pb)]))):=by
  have:=wz.app (k:=2) (y:=pc) (by omega) q3 (x:=p2 (pa,pb)) (G':=fun k y=>if k=2/\y=pc then Gf b.its b.ps ts k y++[p2 (pa,pb)] else Gf b.its b.ps ts k y) (by simp) (fun k' y' z=>by simp [z]);exact ⟨this.ln,this.sm,this.ob,fun k hk y hy=>by rw [this.el k hk y hy,dM5 _ _ _ _ hk],this.rl⟩
 generalize h0.length+1+(2*(b.its.length+1)+pc)=z1 at i1 g1 w8;have p1:jE (Str.ofString "append") (.c z1) H=true:=by simp [jE,g1]
 refine ⟨[some (.c h0.length),some (.d b.dat),some (.d (.int pa)),some (.d (.int pb)),some (.d (.int pc))],_,?_,⟨_,_,_,rfl⟩,w8⟩;simp [wz.ob,f6,lG,i1,g1,p1,s1,szl,p2]
def sq {α β:Type} {x:Option α} {f:α->Option β} {R:Option β} (a:α) (e:x=some a) (k:f a=R):x.bind f=R:=by
 rw [e];exact k
def lpB {β:Type} {x:Option (Fl×aA)} {f:Fl×aA->Option β} {R:Option β} (bd:Bool) (w:W) (h:aA) (I:DSt->Prop) (e:∃ δ',x=some (if bd=true then .rt w else .nx δ',h)/\I δ') (k1:bd=true->f (.rt w,h)=R) (k2:bd=false->∀ δ',I δ'->f (.nx δ',h)=R):x.bind f=R:=by
 obtain ⟨δ',e,i⟩:=e;rw [e];cases bd with
 | true=>exact k1 rfl
 | false=>exact k2 rfl δ' i
def bI {α:Type} {x:Option α} {f:α->Option (Fl×aA)} {bd:Bool} {w:W} {h:aA} {I:DSt->Prop} (a:α) (e:x=some a) (k:∃ δ',f a=some (if bd=true then .rt w else .nx δ',h)/\I δ'):∃ δ',x.bind f=some (if bd=true then .rt w else .nx δ',h)/\I δ':=by
 rw [e];exact k
theorem fM {α:Type} {g:XG} {tb:XS} {c:Option Nat} {all:List PyData} {h:aA} (hc:CI.condB c all h=true) (F:α->PyData) (bad:α->Bool) (w:W) (I:DSt->Prop):∀ (qs:List α) {δ:DSt},I δ ->
  (∀ q∈qs,∀ δ,I δ->∃ δ1,g (.d (F q)) δ h=some (δ1,h)/\∃ δ2,tb δ1 h=some (if bad q=true then .rt w else .nx δ2,h)/\I δ2)->∃ δ',bC g tb c all (qs.map F) δ h=some (if qs.any bad=true then .rt w else .nx δ',h)/\I δ'
 | [],δ,hi,_=>⟨δ,by simp [bC,hc],hi⟩
 | q::r,δ,hi,ht=>by
  obtain ⟨δ1,e1,δ2,e2,i2⟩:=ht q List.mem_cons_self δ hi;obtain ⟨δ3,e3,i3⟩:=fM hc F bad w I r i2 fun y hy=>ht y (List.mem_cons_of_mem _ hy);refine ⟨δ3,?_,i3⟩;rw [List.map_cons,bC,if_pos hc,e1];simp only [bs,e2];cases hb:bad q with
  | true=>simp [hb]
  | false=>simp [hb,e3]
def Inn (H:aA) (w:W) (pl:List Nat):Prop:=∀ y:Nat,xIn (.d (.int y)) w H=some (decide (y∈pl))
def cK0 (pl:List Nat) (y:Nat):((pl.map nI).any fun z=>PyData.eqv z (.int y))=decide (y∈pl):=by
 rw [Bool.eq_iff_iff];simp [nI,PyData.eqv];constructor
 ·rintro ⟨x,hx,e⟩;rw [<- show x=y by omega];exact hx
 ·exact fun h=>⟨y,h,rfl⟩
theorem aV0:∀ (pl:List Nat) (m:Nat),plainsB m (pl.map nI)=true
 | [],m=>by simp
 | a::r,m=>by simp [nI,aV0 r]
def aV1 {H:aA} {w:W} {pl:List Nat} (e:ref H w=some (.list (pl.map nI))):Inn H w pl:=fun y=>by
 unfold xIn;rw [e];have:=cK0 pl y;rw [List.any_map] at this;simp [ref,aV0,this]
def aV2 (H:aA) (pl:List Nat):Inn H (.d (.list (pl.map nI))) pl:=aV1 rfl
def cW5 {H:aA} {i:Nat} {pl:List Nat} (e:H[i]?=some (.l (pl.map nI))):Inn H (.c i) pl:=aV1 (by simp [ref,e])
noncomputable def wdI (its:List It) (x:Nat):String:=(its[x]?.map It.w).getD ""
noncomputable def gD (b:Pb) (pl:List Nat) (x:Nat):Bool:=!(decide (x∈pl)||decide (wdI b.its x="out"))&&(!((ahL b.its b.ps x).any fun y=>!decide (y∈pl))&&(!((laL b.ps x).any fun y=>decide (y∈pl))&&!((gaL b.ts x).any fun q=>decide (q.1∈pl)&&!decide (q.2∈pl))))
theorem xF:∀ l:List Nat,peqs (l.map nI) (l.map nI)=true
 | []=>by simp [peqs]
 | a::r=>by simp [peqs,peq,nI,xF r]
theorem aV3:∀ l:List (Nat×Nat),peqs (l.map p2) (l.map p2)=true
 | []=>by simp [peqs]
 | a::r=>by simp [peqs,peq,p2,aV3 r]
def xG {H:aA} {k:Nat} {xs:List PyData} (e:H[k]?=some (.l xs)) (hp:peqs xs xs=true):CI.condB (some k) xs H=true:=by
 unfold CI.condB;dsimp only;rw [e];exact hp
structure Wd (b:Pb) (j:Nat) (H:aA):Prop where
 ex:∃ a0 a1 a2,H[j]?=some (.o 289 (F6 b a0 a1 a2))/\(∀ x,x < b.its.length->∃ k,xIx (.c a0) (.d (.int x)) H=some (.c k,H)/\H[k]?=some (.l ((ahL b.its b.ps x).map nI))) /\
  (∀ x,x < b.its.length->∃ k,xIx (.c a1) (.d (.int x)) H=some (.c k,H)/\H[k]?=some (.l ((laL b.ps x).map nI)))/\(∀ x,x < b.its.length->∃ k,xIx (.c a2) (.d (.int x)) H=some (.c k,H)/\H[k]?=some (.l ((gaL b.ts x).map p2)))
def cW6 {h0 H:aA} {b:Pb} (w:Wz h0 b.its.length (F6 b (h0.length+1+(0*(b.its.length+1)+b.its.length)) (h0.length+1+(1*(b.its.length+1)+b.its.length)) (h0.length+1+(2*(b.its.length+1)+b.its.length))) 3 (Gf b.its b.ps b.ts) H):Wd b h0.length H :=
 ⟨_,_,_,w.ob,fun x hx=>⟨_,aG8 w (by omega) hx,w.el 0 (by omega) x hx⟩,fun x hx=>⟨_,aG8 w (by omega) hx,w.el 1 (by omega) x hx⟩,fun x hx=>⟨_,aG8 w (by omega) hx,w.el 2 (by omega) x hx⟩⟩
def rV {H H':aA} {a x k:Nat} (hs:∀ (i:Nat) (c:Cell),H[i]?=some c->H'[i]?=some c) (e:xIx (.c a) (.d (.int x)) H=some (.c k,H)):xIx (.c a) (.d (.int x)) H'=some (.c k,H'):=by
 unfold xIx at e ⊢;cases q:H[a]? with
 | none=>simp [ref,q,xIr] at e
 | some c =>
  have q':=hs a c q;cases c with
  | r is =>
   simp [ref,q,xIr] at e;simp [ref,q',xIr];exact e
  | l xs=>simp [ref,q] at e
  | k ys=>simp [ref,q] at e;split at e<;>simp at e
  | t _ _ _=>simp [ref,q,xIr] at e
  | o _ _=>simp [ref,q,xIr] at e
def Wd.grow {b:Pb} {j:Nat} {H H':aA} (w:Wd b j H) (hs:∀ (i:Nat) (c:Cell),H[i]?=some c->H'[i]?=some c):Wd b j H':=by
 obtain ⟨a0,a1,a2,h1,h2,h3,h4⟩:=w.ex;exact ⟨a0,a1,a2,hs _ _ h1,fun x hx=>(let ⟨k,e1,e2⟩:=h2 x hx;⟨k,rV hs e1,hs _ _ e2⟩),fun x hx=>(let ⟨k,e1,e2⟩:=h3 x hx;⟨k,rV hs e1,hs _ _ e2⟩),fun x hx=>(let ⟨k,e1,e2⟩:=h4 x hx;⟨k,rV hs e1,hs _ _ e2⟩)⟩
def dM6 (d:Nat) {b:Pb} {j x:Nat} {H:aA} {w1:W} {pl:List Nat} (w:Wd b j H) (hx:x < b.its.length) (hin:Inn H w1 pl):callM T (d+1) "may_follow" [.c j,w1,.d (.int x)] H=some (.d (.bool (gD b pl x)),H):=by
 obtain ⟨f1,f2,f3,f4,f5,f6⟩:=bJ4;obtain ⟨a0,a1,a2,ho,h2,h3,h4⟩:=w.ex;obtain ⟨F,eF⟩:∃ F,F=F6 b a0 a1 a2:=⟨_,rfl⟩;have lA:F.lookup (Str.ofString "ahead")=some (.c a0):=by rw [eF];simp [F6,List.lookup]
 have lL:F.lookup (Str.ofString "later")=some (.c a1):=by rw [eF];simp [F6,List.lookup]
 have lG:F.lookup (Str.ofString "gaps")=some (.c a2):=by rw [eF];simp [F6,List.lookup]
 have lI:F.lookup (Str.ofString "listed")=some (.d (.tuple (b.its.map It.dat))):=by rw [eF];simp [F6,List.lookup]
 rw [<- eF] at ho;have e6:=nG hx;have ew:wdI b.its x=b.its[x].w:=by simp [wdI,hx]
 rw [nR];simp only [mV,nO];refine sq (.rt (.d (.bool (gD b pl x))),H) ?_ (by simp)
 by_cases c1:x∈pl\/b.its[x].w="out"
 ·have em:gD b pl x=false:=by
   unfold gD;rw [ew];rcases c1 with c1 | c1<;>simp [c1]
  rw [em];refine sq (.rt (.d (.bool false)),H) ?_ rfl
  by_cases c2:x∈pl
  ·simp [hin x,c2]
  ·have c3:b.its[x].w="out":=c1.resolve_left c2;simp [hin x,c2,ho,f2,lI,e6,It.dat,c3,PyData.eqv]
 have c2:¬ x∈pl:=fun z=>c1 (.inl z);have c3:¬ b.its[x].w="out":=fun z=>c1 (.inr z);refine sq (.nx [some (.c j),some w1,some (.d (.int x)),none,none,none,none],H) (by simp [hin x,c2,ho,f2,lI,e6,It.dat,c3,PyData.eqv]) ?_;dsimp only;obtain ⟨k0,i0,g0⟩:=h2 x hx;obtain ⟨k1,i1,g1⟩:=h3 x hx;obtain ⟨k2,i2,g2⟩:=h4 x hx;refine lpB ((ahL b.its b.ps x).any fun y=>!decide (y∈pl)) (.d (.bool false)) H (fun δ=>∃ u,δ=[some (.c j),some w1,some (.d (.int x)),u,none,none,none]) ?_ (fun z=>?_) (fun z1 δ i=>?_)
 ·refine bI (((ahL b.its b.ps x).map nI,some k0),H) (by simp [ho,f4,lA,i0,g0]) ?_;refine fM (xG g0 (xF _)) nI _ _ _ _ ⟨_,rfl⟩ fun q _ δ i=>?_;obtain ⟨u,rfl⟩:=i;refine ⟨[some (.c j),some w1,some (.d (.int x)),some (.d (nI q)),none,none,none],rfl,[some (.c j),some w1,some (.d (.int x)),some (.d (nI q)),none,none,none],?_,_,rfl⟩
  by_cases c:q∈pl<;>simp [nI,hin q,c]
 ·simp [gD,z]
 obtain ⟨u,rfl⟩:=i;dsimp only;refine lpB ((laL b.ps x).any fun y=>decide (y∈pl)) (.d (.bool false)) H (fun δ=>∃ u v,δ=[some (.c j),some w1,some (.d (.int x)),u,v,none,none]) ?_ (fun z=>?_) (fun z2 δ i=>?_)
 ·refine bI (((laL b.ps x).map nI,some k1),H) (by simp [ho,f5,lL,i1,g1]) ?_;refine fM (xG g1 (xF _)) nI _ _ _ _ ⟨_,_,rfl⟩ fun q _ δ i=>?_;obtain ⟨u,v,rfl⟩:=i;refine ⟨[some (.c j),some w1,some (.d (.int x)),u,some (.d (nI q)),none,none],rfl,[some (.c j),some w1,some (.d (.int x)),u,some (.d (nI q)),none,none],?_,_,_,rfl⟩
  by_cases c:q∈pl<;>simp [nI,hin q,c]
 ·simp [gD,z]
 obtain ⟨u,v,rfl⟩:=i;dsimp only;refine lpB ((gaL b.ts x).any fun q=>decide (q.1∈pl)&&!decide (q.2∈pl)) (.d (.bool false)) H (fun δ=>∃ u v s t,δ=[some (.c j),some w1,some (.d (.int x)),u,v,s,t]) ?_ (fun z=>?_) (fun z3 δ i=>?_)
 ·refine bI (((gaL b.ts x).map p2,some k2),H) (by simp [ho,f6,lG,i2,g2]) ?_;refine fM (xG g2 (aV3 _)) p2 _ _ _ _ ⟨_,_,_,_,rfl⟩ fun q _ δ i=>?_;obtain ⟨u,v,s,t,rfl⟩:=i;refine ⟨[some (.c j),some w1,some (.d (.int x)),u,v,some (.d (.int q.1)),some (.d (.int q.2))],by simp [p2],[some (.c j),some w1,some (.d (.int x)),u,v,some (.d (.int q.1)),some (.d (.int q.2))],?_,_,_,_,_,rfl⟩
  by_cases c:q.1∈pl
  ·by_cases c':q.2∈pl<;>simp [hin q.1,hin q.2,c,c']
  ·simp [hin q.1,c]
 ·simp [gD,z]
 ·have em:gD b pl x=true:=by
   unfold gD;rw [ew,z1,z2,z3];simp [c2,c3]
  rw [em];rfl
end K16
set_option maxHeartbeats 400000
namespace K16
open PySem PySem.Spec PyProof.Rows L2 DL CI SJ
noncomputable def pst (n:Nat) (a:List (Nat×Nat)×S3):List (Nat×Nat)×S3 :=
 if 1 < n then (a.1++[((aI a.2 n).toNat,((aI a.2 n).toNat+1+(aI (digS a.2 n) (n - 1)).toNat)%n)],digS (digS a.2 n) (n - 1)) else a
noncomputable def itP (n:Nat) (s:S3):Nat->List (Nat×Nat)×S3
 | 0=>([],s)
 | k+1=>pst n (itP n s k)
theorem rW (n:Nat) (s:S3):∀ k,(itP n s k).1.length<=k
 | 0=>Nat.le_refl 0
 | k+1=>by
  have:=rW n s k;unfold itP pst;split
  ·simp;omega
  ·omega
def aV4 {n x y:Nat} (hx:x < n) (hy:y+1 < n):x≠(x+1+y)%n:=by
 by_cases h:x+1+y < n
 ·rw [Nat.mod_eq_of_lt h];omega
 ·rw [Nat.mod_eq_sub_mod (by omega),Nat.mod_eq_of_lt (by omega)];omega
theorem xH (n:Nat) (s:S3):∀ k,∀ p∈(itP n s k).1,p.1 < n/\p.2 < n/\p.1≠p.2
 | 0,p,hp=>nomatch hp
 | k+1,p,hp=>by
  unfold itP pst at hp;split at hp
  ·rename_i hn;rcases List.mem_append.mp hp with hp | hp
   ·exact xH n s k p hp
   ·simp at hp;subst hp;obtain ⟨x,ex,hx⟩:=aW (itP n s k).2 (b:=n) (by omega);obtain ⟨y,ey,hy⟩:=aW (digS (itP n s k).2 n) (b:=n - 1) (by omega);rw [ex,ey];simp only [Int.toNat_natCast];exact ⟨by omega,Nat.mod_lt _ (by omega),aV4 (by omega) (by omega)⟩
  ·exact xH n s k p hp
section
variable {h:aA} {i:Nat} (hi:i < h.length)
include hi
def gl (xs:List PyData) (s:S3):((h++[Cell.l xs]).set i (stL s))[h.length]?=some (Cell.l xs):=by
 rw [List.getElem?_set_ne (by omega)];simp
def gl2 (xs:List PyData) (s:S3) (pf:h.length < ((h++[Cell.l xs]).set i (stL s)).length):((h++[Cell.l xs]).set i (stL s))[h.length]'pf=.l xs:=by
 have:=gl hi xs s;rw [List.getElem?_eq_getElem pf] at this;exact Option.some.inj this
def gm (xs:List PyData) (s:S3):jE (Str.ofString "append") (.c h.length) ((h++[Cell.l xs]).set i (stL s))=true:=by
 unfold jE;rw [if_pos rfl];dsimp only;rw [gl hi]
def gs (xs ys:List PyData) (s:S3):((h++[Cell.l xs]).set i (stL s)).set h.length (Cell.l ys)=(h++[Cell.l ys]).set i (stL s):=by
 rw [List.set_comm _ _ (by omega)];simp
def g_t (xs:List PyData) (s:S3):cJ [.c h.length] ((h++[Cell.l xs]).set i (stL s))=some (.d (.tuple xs),(h++[Cell.l xs]).set i (stL s)):=by
 unfold cJ ref;dsimp only;rw [gl hi]
def gi (c:Cell):i < (h++[c]).length:=by simp;omega
end
def bJ6 (d:Nat) (h:aA) {i n:Nat} (s:S3) (hi:i < h.length) (hn:n<=120):aD T (d+2) "_law_pairs" [.c i,.d (.int n)] (h.set i (stL s))=some (.tuple ((itP n (digS s 5) (aI s 5).toNat).1.map p2),h.set i (stL (itP n (digS s 5) (aI s 5).toNat).2)):=by
 have e5:aT 5=true:=by decide
 obtain ⟨k,ek,hk⟩:=aW s (b:=5) (by decide);have er:fV 0 (k:Int)=true:=bP (by omega) (by omega);have sa:∀ (s:S3) (L:aA),h.set i (stL s)++L=(h++L).set i (stL s):=fun s L=>dF hi;have g1:=gi hi (Cell.l []);have dg:=cB d (h++[Cell.l []]) s 5 g1 (by decide) e5;rw [show d+2=(d+1)+1 from rfl,rP];simp [bZ,szl,sa,dg,ek,er];generalize hr:bC _ _ _ _ _ _ _=r;have kk:∃ δ' h',r=some (.nx δ',h')/\∃ (x3 x4:Option W),δ'=[some (.c i),some (.d (.int n)),some (.c h.length),x3,x4]/\h'=(h++[Cell.l ((itP n (digS s 5) k).1.map p2)]).set i (stL (itP n (digS s 5) k).2):=by
  rw [<- hr];clear hr;refine dG (fun m δ' h'=>∃ (x3 x4:Option W),δ'=[some (.c i),some (.d (.int n)),some (.c h.length),x3,x4]/\h'=(h++[Cell.l ((itP n (digS s 5) m).1.map p2)]).set i (stL (itP n (digS s 5) m).2)) ⟨_,_,rfl,rfl⟩ (fun δ h'=>?_) ?_
  ·rw [CI.rng_len];exact id
  ·rintro m hm δ h' ⟨x3,x4,rfl,rfl⟩;have ll:=rW n (digS s 5) m;have hm':m < k:=by simpa [rng] using hm
   refine ⟨[some (.c i),some (.d (.int n)),some (.c h.length),some (.d (rng 0 k)[m]),x4],_,rfl,?_⟩;rw [itP];generalize itP n (digS s 5) m=q at *;obtain ⟨L,t⟩:=q;dsimp only at *;have l1:L.length < 16777216:=by omega
   by_cases h1:1 < n
   ·have h1':(1:Int) < n:=by omega
    obtain ⟨x,ex,hx⟩:=aW t (b:=n) (by omega);obtain ⟨y,ey,hy⟩:=aW (digS t n) (b:=n - 1) (by omega);have d1:=cB d (h++[Cell.l (L.map p2)]) t n (gi hi _) (by omega) (cG (by omega) (by omega));have d2:=cB d (h++[Cell.l (L.map p2)]) (digS t n) (n - 1) (gi hi _) (by omega) (cG (by omega) (by omega));have h0n:0 < n:=by omega
    have dn:aT (n:Int)=true:=cG (by omega) (by omega);refine ⟨[some (.c i),some (.d (.int n)),some (.c h.length),some (.d (rng 0 k)[m]),some (.d (.int x))],(h++[Cell.l ((L++[(x,(x+1+y)%n)]).map p2)]).set i (stL (digS (digS t n) (n - 1))),?_,_,_,rfl,?_⟩
    ·have em:((x:Int)+1+y)%n=(((x+1+y)%n:Nat):Int):=by simp
     simp [h1',d1,d2,ex,ey,gl hi,gl2 hi,gm hi,gs hi,l1,szl,dn,p2,h0n]
    ·simp [pst,h1,ex,ey]
   ·have h1':¬ (1:Int) < n:=by omega
    refine ⟨[some (.c i),some (.d (.int n)),some (.c h.length),some (.d (rng 0 k)[m]),x4],(h++[Cell.l (L.map p2)]).set i (stL t),by simp [h1'],_,_,rfl,?_⟩;simp [pst,h1]
 obtain ⟨δ',h',rfl,x3,x4,rfl,rfl⟩:=kk;have o1:∀ L s',okP (h.set i (stL s)) ((h++L).set i (stL s'))=True:=fun L s'=>yN s' hi;have o2:∀ (L:aA) (s':S3),((h++L).set i (stL s')).take h.length=h.set i (stL s'):=fun L s'=>yO hi;simp [g_t hi,szl,o1,o2]
noncomputable def rst (n a b:Nat):List Nat:=(List.range n).filter fun z=>decide (z≠a)&&decide (z≠b)
def fE (n:Nat):rng 0 n=(List.range n).map nI:=cI8 n
def rX (p:PyData->Bool) (q:Nat->Bool) (n:Nat) (h:∀ k,k < n->p (nI k)=q k):((rng 0 n).filter p).map id=((List.range n).filter q).map nI:=by
 rw [fE,List.map_id,List.filter_map]
 congr 1
 exact List.filter_congr fun k hk=>h k (List.mem_range.mp hk)
def lP {its:List It} {x:Nat} (h:x∈mus its):x < its.length/\must its x:=by
 obtain ⟨h1,h2⟩:=List.mem_filter.mp h;have hx:=List.mem_range.mp h1;refine ⟨hx,its[x],by simp [hx],?_⟩
 simpa [dL,hx] using h2
def aG9 (its:List It):(mus its).Nodup:=List.Pairwise.filter _ List.nodup_range
def yZ {n a b:Nat} (hn:2 < n):0 < (rst n a b).length:=by
 apply List.length_pos_iff.mpr;intro e;have hz:∀ z,z < 3->z=a\/z=b:=fun z hz=>by
  by_cases h:z≠a/\z≠b
  ·have:z∈rst n a b:=List.mem_filter.mpr ⟨List.mem_range.mpr (by omega),by simp [h.1,h.2]⟩;rw [e] at this;cases this
  ·omega
 have h0:=hz 0 (by omega);have h1:=hz 1 (by omega);have h2:=hz 2 (by omega);omega
noncomputable def tst (its:List It) (a:List (Nat×Nat×Nat)×S3):List (Nat×Nat×Nat)×S3 :=
 if 1 < (mus its).length/\2 < its.length then
  let l:=(mus its).length
  let x:=(aI a.2 l).toNat
  let s1:=digS a.2 l
  let y:=(x+1+(aI s1 (l - 1)).toNat)%l
  let s2:=digS s1 (l - 1)
  let r:=rst its.length ((mus its).getD x 0) ((mus its).getD y 0)
  (a.1++[((mus its).getD x 0,(mus its).getD y 0,r.getD (aI s2 r.length).toNat 0)],digS s2 r.length)
 else a
noncomputable def itT (its:List It) (s:S3):Nat->List (Nat×Nat×Nat)×S3
 | 0=>([],s)
 | k+1=>tst its (itT its s k)
theorem rY (its:List It) (s:S3):∀ k,(itT its s k).1.length<=k
 | 0=>Nat.le_refl 0
 | k+1=>by
  have:=rY its s k;unfold itT tst;split
  ·simp;omega
  ·omega
def cU {l:List Nat} {x:Nat} (h:x < l.length):l.getD x 0∈l:=by
 rw [List.getD_eq_getElem?_getD,List.getElem?_eq_getElem h];exact List.getElem_mem h
theorem xI (its:List It) (s:S3):∀ k,∀ p∈(itT its s k).1,p.1 < its.length/\p.2.1 < its.length/\p.2.2 < its.length/\p.1≠p.2.1/\p.1≠p.2.2/\p.2.1≠p.2.2/\must its p.1/\must its p.2.1
 | 0,p,hp=>nomatch hp
 | k+1,p,hp=>by
  unfold itT tst at hp;split at hp
  ·rename_i hn;rcases List.mem_append.mp hp with hp | hp
   ·exact xI its s k p hp
   ·simp only [List.mem_singleton] at hp;obtain ⟨x,ex,hx⟩:=aW (itT its s k).2 (b:=(mus its).length) (by omega);obtain ⟨y,ey,hy⟩:=aW (digS (itT its s k).2 (mus its).length) (b:=(mus its).length - 1) (by omega);rw [ex,ey] at hp;simp only [Int.toNat_natCast] at hp;have hm:(x+1+y)%(mus its).length < (mus its).length:=Nat.mod_lt _ (by omega);have hne:=aV4 (n:=(mus its).length) (x:=x) (y:=y) (by omega) (by omega);generalize (x+1+y)%(mus its).length=y2 at *;have m1:=cU (l:=mus its) (x:=x) (by omega);have m2:=cU (l:=mus its) hm;have hab:(mus its).getD x 0≠(mus its).getD y2 0:=fun e=>hne ((List.getD_inj (by omega) hm (aG9 its)).mp e);generalize hA:(mus its).getD x 0=A at *;generalize hB:(mus its).getD y2 0=B at *;have hr:=yZ (n:=its.length) (a:=A) (b:=B) hn.2;obtain ⟨z,ez,hz⟩:=aW (digS (digS (itT its s k).2 (mus its).length) ((mus its).length - 1)) (b:=(rst its.length A B).length) (by omega);rw [ez] at hp;simp only [Int.toNat_natCast] at hp;have m3:=cU (l:=rst its.length A B) (x:=z) (by omega);obtain ⟨r1,r2⟩:=List.mem_filter.mp m3;have r3:=List.mem_range.mp r1;simp at r2;subst hp;exact ⟨(lP m1).1,(lP m2).1,r3,hab,fun e=>r2.1 e.symm,fun e=>r2.2 e.symm,(lP m1).2,(lP m2).2⟩
  ·exact xI its s k p hp
noncomputable def pM (its:List It):PyData->Bool
 | .int k=>dL its k.toNat
 | _=>false
noncomputable def pR (a b:Nat):PyData->Bool
 | .int k=>decide (k≠a)&&decide (k≠b)
 | _=>false
def kS {l:List Nat} {x:Nat} (h:x < l.length):atI (l.map nI) (x:Int)=some (.int (l.getD x 0)):=by
 apply fO;rw [List.getElem?_map,List.getElem?_eq_getElem h,List.getD_eq_getElem?_getD,List.getElem?_eq_getElem h];rfl
def aH0 (d:Nat) (h:aA) {i:Nat} (s:S3) (hi:i < h.length) {its:List It} (hn:its.length<=120):aD T (d+2) "_law_triples" [.c i,.d (.tuple (its.map It.dat))] (h.set i (stL s))=some (.tuple ((itT its (digS s 4) (aI s 4).toNat).1.map p3),h.set i (stL (itT its (digS s 4) (aI s 4).toNat).2)):=by
 have e4:aT 4=true:=by decide
 obtain ⟨k,ek,hk⟩:=aW s (b:=4) (by decide);have er:fV 0 (k:Int)=true:=bP (by omega) (by omega);have en:fV 0 (its.length:Int)=true:=bP (by omega) (by omega);have sa:∀ (s:S3) (L:aA),h.set i (stL s)++L=(h++L).set i (stL s):=fun s L=>dF hi;have dg:=cB d (h++[Cell.l []]) s 4 (gi hi (.l [])) (by decide) e4;rw [show d+2=(d+1)+1 from rfl,mY];simp [szl,en,aK];rw [dW (pM its) id (fun δ=>∃ a,δ=[a,some (.d (.tuple (its.map It.dat)))]) _ _ _ ⟨_,rfl⟩ (fun z hz δ ⟨a,e⟩=>by
  subst e;rw [fE] at hz;obtain ⟨q,hq,rfl⟩:=List.mem_map.mp hz;have hq:=List.mem_range.mp hq;have e6:=pZ (List.getElem?_eq_getElem hq);refine ⟨[some (.d (nI q)),_],rfl,⟨_,rfl⟩,?_,fun _=>by simp⟩;simp [nI,e6,It.dat,PyData.eqv,pM,dL,hq];try rfl)]
 rw [List.nil_append,rX (pM its) (dL its) its.length (fun k _=>by simp [pM,nI])];rw [show (List.range its.length).filter (dL its)=mus its from rfl];simp [bZ,szl,sa,dg,ek,er];generalize hr:bC _ _ _ _ _ _ _=r;have kk:∃ δ' h',r=some (.nx δ',h')/\∃ (x2 x5 x6 x7:Option W),δ'=[some (.c i),some (.d (.tuple (its.map It.dat))),x2,some (.d (.list ((mus its).map nI))),some (.c h.length),x5,x6,x7]/\h'=(h++[Cell.l ((itT its (digS s 4) k).1.map p3)]).set i (stL (itT its (digS s 4) k).2):=by
  rw [<- hr];clear hr;refine dG (fun m δ' h'=>∃ (x2 x5 x6 x7:Option W),δ'=[some (.c i),some (.d (.tuple (its.map It.dat))),x2,some (.d (.list ((mus its).map nI))),some (.c h.length),x5,x6,x7]/\h'=(h++[Cell.l ((itT its (digS s 4) m).1.map p3)]).set i (stL (itT its (digS s 4) m).2)) ⟨_,_,_,_,rfl,rfl⟩ (fun δ h'=>?_) ?_
  ·rw [CI.rng_len];exact id
  ·rintro m hm δ h' ⟨x2,x5,x6,x7,rfl,rfl⟩;have ll:=rY its (digS s 4) m;have hm':m < k:=by simpa [rng] using hm
   refine ⟨[some (.c i),some (.d (.tuple (its.map It.dat))),x2,some (.d (.list ((mus its).map nI))),some (.c h.length),some (.d (rng 0 k)[m]),x6,x7],_,rfl,?_⟩;rw [itT];generalize itT its (digS s 4) m=q at *;obtain ⟨L,t⟩:=q;dsimp only at *;have l1:L.length < 16777216:=by omega
   by_cases h1:1 < (mus its).length/\2 < its.length
   ·have ml:(mus its).length<=its.length:=by
     have:=List.length_filter_le (dL its) (List.range its.length)
     simpa [mus] using this
    obtain ⟨l,el⟩:∃ l,l=(mus its).length:=⟨_,rfl⟩;have h1a:(1:Int) < (mus its).length:=by omega
    have h1b:(2:Int) < its.length:=by omega
    obtain ⟨x,ex,hx⟩:=aW t (b:=(mus its).length) (by omega);obtain ⟨y,ey,hy⟩:=aW (digS t (mus its).length) (b:=(mus its).length - 1) (by omega);have d1:=cB d (h++[Cell.l (L.map p3)]) t (mus its).length (gi hi _) (by omega) (cG (by omega) (by omega));have d2:=cB d (h++[Cell.l (L.map p3)]) (digS t (mus its).length) ((mus its).length - 1) (gi hi _) (by omega) (cG (by omega) (by omega));have dn:aT ((mus its).length:Int)=true:=cG (by omega) (by omega);have h0n:0 < (mus its).length:=by omega
    have hmod:(x+1+y)%(mus its).length < (mus its).length:=Nat.mod_lt _ (by omega);have em:((x:Int)+1+y)%((mus its).length:Int)=(((x+1+y)%(mus its).length:Nat):Int):=by simp
    obtain ⟨y2,ey2⟩:∃ y2,y2=(x+1+y)%(mus its).length:=⟨_,rfl⟩;rw [<- ey2] at em hmod;have a1:=kS (l:=mus its) (x:=x) (by omega);have a2:=kS (l:=mus its) hmod;obtain ⟨A,eA⟩:∃ A,A=(mus its).getD x 0:=⟨_,rfl⟩;obtain ⟨B,eB⟩:∃ B,B=(mus its).getD y2 0:=⟨_,rfl⟩;rw [<- eA] at a1;rw [<- eB] at a2;have hrp:=yZ (n:=its.length) (a:=A) (b:=B) h1.2;have rl:(rst its.length A B).length<=its.length:=by
     have:=List.length_filter_le (fun z=>decide (z≠A)&&decide (z≠B)) (List.range its.length)
     simpa [rst] using this
    obtain ⟨z,ez,hz⟩:=aW (digS (digS t (mus its).length) ((mus its).length - 1)) (b:=(rst its.length A B).length) (by omega);have d3:=cB d (h++[Cell.l (L.map p3)]) (digS (digS t (mus its).length) ((mus its).length - 1)) (rst its.length A B).length (gi hi _) (by omega) (cG (by omega) (by omega));have a3:=kS (l:=rst its.length A B) (x:=z) (by omega);obtain ⟨Z,eZ⟩:∃ Z,Z=(rst its.length A B).getD z 0:=⟨_,rfl⟩;rw [<- eZ] at a3;refine ⟨[some (.c i),some (.d (.tuple (its.map It.dat))),some (.d (.int x)),some (.d (.list ((mus its).map nI))),some (.c h.length),some (.d (rng 0 k)[m]),some (.d (.int y2)),some (.d (.list ((rst its.length A B).map nI)))],(h++[Cell.l ((L++[(A,B,Z)]).map p3)]).set i (stL (digS (digS (digS t (mus its).length) ((mus its).length - 1)) (rst its.length A B).length)),?_,_,_,_,_,rfl,?_⟩
    ·simp [h1a,h1b,h1.1,h1.2,d1,d2,ex,ey,em,dn,h0n,szl,aK,en];rw [dW (pR A B) id (fun δ=>∃ a,δ=[a,some (.d (.list ((mus its).map nI))),some (.d (.int x)),some (.d (.int y2))]) _ _ _ ⟨_,rfl⟩ (fun w hw δ ⟨a,e⟩=>by
      subst e;rw [fE] at hw;obtain ⟨q,hq,rfl⟩:=List.mem_map.mp hw;refine ⟨[some (.d (nI q)),_,_,_],rfl,⟨_,rfl⟩,?_,fun _=>by simp⟩
      by_cases hqA:(q:Int)=A<;>simp [nI,a1,a2,PyData.eqv,pR,hqA])]
     rw [List.nil_append,rX (pR A B) (fun z=>decide (z≠A)&&decide (z≠B)) its.length (fun k _=>by
      have e1:((k:Int)=A)=(k=A):=propext (by omega);have e2:((k:Int)=B)=(k=B):=propext (by omega);simp [pR,nI,e1,e2])]
     rw [show (List.range its.length).filter (fun z=>decide (z≠A)&&decide (z≠B))=rst its.length A B from rfl];simp [a1,a2,d3,ez,a3,gl hi,gl2 hi,gm hi,gs hi,l1,szl,p3]
    ·rw [tst,if_pos h1];simp only [ex,ey,Int.toNat_natCast,<- ey2,<- eA,<- eB,ez,<- eZ]
   ·refine ⟨[some (.c i),some (.d (.tuple (its.map It.dat))),x2,some (.d (.list ((mus its).map nI))),some (.c h.length),some (.d (rng 0 k)[m]),x6,x7],(h++[Cell.l (L.map p3)]).set i (stL t),?_,_,_,_,_,rfl,?_⟩
    ·by_cases h2:1 < (mus its).length
     ·have h3:¬ 2 < its.length:=fun z=>h1 ⟨h2,z⟩;have h2':(1:Int) < (mus its).length:=by omega
      have h3':¬ (2:Int) < its.length:=by omega
      simp [h2',h3']
     ·have h2':¬ (1:Int) < (mus its).length:=by omega
      simp [h2']
    ·simp [tst,h1]
 obtain ⟨δ',h',rfl,x2,x5,x6,x7,rfl,rfl⟩:=kk;have o1:∀ L s',okP (h.set i (stL s)) ((h++L).set i (stL s'))=True:=fun L s'=>yN s' hi;have o2:∀ (L:aA) (s':S3),((h++L).set i (stL s')).take h.length=h.set i (stL s'):=fun L s'=>yO hi;simp [g_t hi,szl,o1,o2]
def aH1 (st:List Int):Stp->PyData
 | .call c=>(aG4 (dnC st c).1).dat
 | .look c=>(aG4 (dnC st c).1).dat
 | .lay _=>.tuple [.str "done"]
def zA {c:SJ.Call} (hc:c.ok) {st:List Int} (hl:st.length=8):∀ ns,(dnC st c).1=.all ns->ns≠[]/\ns.length<=8:=by
 intro ns e;cases c with
 | one o=>cases e
 | deal cs=>cases e
 | span lo hi =>
  have h1:=hc.1;have h2:=hc.2;have e':(st.drop lo).take (hi - lo)=ns:=by cases e;rfl
  have l:ns.length=hi - lo:=by rw [<- e'];simp;omega
  exact ⟨fun z=>by rw [z] at l;simp at l;omega,by omega⟩
def cW7 (d:Nat) (h:aA) {p:Stp} (hp:Sok p) {st:List Int} (hl:st.length=8):aD T (d+2) "_law_altered" [.d (dnS st p).1] h=some (aH1 st p,h):=by
 cases p with
 | call c=>exact aU5 d h _ (zA hp hl)
 | look c=>exact aU5 d h _ (zA hp hl)
 | lay ps=>exact xC (d+1) h .dn
noncomputable def rZ:Stp->Bool
 | .call _=>true
 | _=>false
def anF (st:List Int) (p:Stp) (s:S3):PyData×S3 :=
 if aI s 7=0 then (.none,digS s 7) else if aI s 7=1 then (aH1 st p,digS s 7)
 else if aI s 7=2/\rZ p=true then (if aI (digS s 7) 4=0 then (aG5,digS (digS s 7) 4) else ((dnS st p).1,digS (digS s 7) 4))
 else ((dnS st p).1,digS s 7)
def zB {p:Stp} (hp:Sok p) {st:List Int} (hl:st.length=8):lC p (dnS st p).1=true:=by
 cases p with
 | call c=>exact (jN hp (jM hp hl)).1
 | look c=>exact (jN hp (jM hp hl)).2
 | lay ps=>simp [lC,dnS,aG]
def aV5 {p:Stp} (hp:Sok p) {st:List Int} (hl:st.length=8):lC p (aH1 st p)=true/\tOk (aH1 st p):=by
 cases p with
 | call c=>exact ⟨(jN hp (uV hp (jM hp hl))).1,.inr (.inr ⟨_,rfl⟩)⟩
 | look c=>exact ⟨(jN hp (uV hp (jM hp hl))).2,.inr (.inr ⟨_,rfl⟩)⟩
 | lay ps=>exact ⟨by simp [lC,aH1,aG],.inr (.inr ⟨.one .dn,rfl⟩)⟩
def cK1 {p:Stp} (hp:Sok p) {st:List Int} (hl:st.length=8) (s:S3):((anF st p s).1=.none\/lC p (anF st p s).1=true)/\tOk (anF st p s).1:=by
 unfold anF;split
 ·exact ⟨.inl rfl,.inl rfl⟩
 split
 ·exact ⟨.inr (aV5 hp hl).1,(aV5 hp hl).2⟩
 split
 ·rename_i hc;split
  ·refine ⟨.inr ?_,.inr (.inl rfl)⟩;cases p with
   | call c=>simp [lC,aG5,aG]
   | look c=>cases hc.2
   | lay ps=>cases hc.2
  ·exact ⟨.inr (zB hp hl),(bJ3 st p).1⟩
 ·exact ⟨.inr (zB hp hl),(bJ3 st p).1⟩
noncomputable def wdF (n:Int):String:=if n < 4 then "must" else if n < 6 then "may" else "out"
noncomputable def itF (st:List Int) (s:S3):It×List Int×S3 :=
 let p:=(sF s).1
 let a:=anF st p (sF s).2
 (⟨p,a.1,wdF (aI a.2 7)⟩,(dnS st p).2,digS a.2 7)
def cK2 {st:List Int} (hl:st.length=8) (s:S3):(itF st s).1.ok/\(itF st s).2.1.length=8:=by
 have h:=cK1 (bI8 s) hl (sF s).2;refine ⟨⟨bI8 s,h.1,h.2,?_⟩,yW (bI8 s) hl⟩;show wdF _=_\/wdF _=_\/wdF _=_;unfold wdF;split
 ·exact .inl rfl
 split
 ·exact .inr (.inl rfl)
 ·exact .inr (.inr rfl)
def cW8 (s:S3):atI [PyData.str (Str.ofString "must"),.str (Str.ofString "must"),.str (Str.ofString "must"),.str (Str.ofString "must"),.str (Str.ofString "may"),.str (Str.ofString "may"),.str (Str.ofString "out")] (aI s 7)=some (.str (Str.ofString (wdF (aI s 7)))):=by
 have h1:=fC s (b:=7) (by decide);have h2:=fD s (b:=7) (by decide);have:aI s 7=0\/aI s 7=1\/aI s 7=2\/aI s 7=3\/aI s 7=4\/aI s 7=5\/aI s 7=6:=by omega
 rcases this with e | e | e | e | e | e | e<;>rw [e]<;>first | (simp [wdF];done) | exact fO (j:=6) rfl
end K16
set_option maxHeartbeats 4000000
namespace K16
open PySem PySem.Spec PyProof.Rows L2 DL CI SJ
variable (d:Nat) (h:aA)
section
variable {α:Type} (F:α->PyData)
noncomputable def cV (p:Nat×α):PyData×PyData:=(.int p.1,F p.2)
noncomputable def gL (g:List (Nat×α)) (k:Nat) (v:α):List (Nat×α):=if (g.any fun p=>decide (p.1=k))=true then g.map (fun p=>if p.1=k then (p.1,v) else p) else g++[(k,v)]
noncomputable def eS (g:List (Nat×α)) (k:Nat):Option α:=(g.find? fun p=>decide (p.1=k)).map (·.2)
def dM (i:Int):bA (.int i)=some (.inl i):=rfl
def nH (p:Nat×α) (k:Nat):(bA (cV F p).1=bA (.int (k:Int)))=(p.1=k):=by simp [cV,dM];omega
def aV6 (g:List (Nat×α)) (k:Nat) (v:α):mF (g.map (cV F)) (.int (k:Int)) (F v)=(gL g k v).map (cV F):=by
 have e1:((g.map (cV F)).any fun p=>decide (bA p.1=bA (.int (k:Int))))=g.any fun p=>decide (p.1=k):=by
  rw [List.any_map]
  congr 1
  funext p
  simp only [Function.comp,nH]
 unfold mF gL;rw [e1];split
 ·rw [List.map_map,List.map_map];refine List.map_congr_left fun p _=>?_;simp only [Function.comp,nH];split<;>rfl
 ·rw [List.map_append];rfl
def bJ7 (g:List (Nat×α)) (k:Nat):((g.map (cV F)).find? fun p=>decide (bA p.1=bA (.int (k:Int)))).map (·.2)=(eS g k).map F:=by
 unfold eS;induction g with
 | nil=>rfl
 | cons p r ih =>
  rw [List.map_cons,List.find?_cons,List.find?_cons];have e:=nH F p k
  by_cases h:p.1=k
  ·have h':bA (cV F p).1=bA (.int (k:Int)):=by rw [e];exact h
   simp only [h',h,decide_true];rfl
  ·have h':¬ bA (cV F p).1=bA (.int (k:Int)):=by rw [e];exact h
   simp only [h',h,decide_false];exact ih
def zC (g:List (Nat×α)) (k:Nat) (v:α):(gL g k v).length<=g.length+1:=by
 unfold gL;split<;>simp
def zD (g:List (Nat×α)) (k:Nat) (v:α) (j:Nat):eS (gL g k v) j=if j=k then some v else eS g j:=by
 have hm:∀ g:List (Nat×α),eS (g.map fun p=>if p.1=k then (p.1,v) else p) j=if j=k then (eS g j).map fun _=>v else eS g j:=fun g=>by
  unfold eS;induction g with
  | nil=>simp
  | cons p r ih =>
   rw [List.map_cons,List.find?_cons,List.find?_cons]
   by_cases e1:p.1=k
   ·rw [if_pos e1]
    by_cases e2:p.1=j
    ·simp [e2,e1.symm.trans e2]
    ·have:¬ j=k:=fun z=>e2 (e1.trans z.symm);simp only [this,if_false] at ih ⊢;simp only [decide_eq_false e2];exact ih
   ·rw [if_neg e1]
    by_cases e2:p.1=j
    ·have:¬ j=k:=fun z=>e1 (e2.trans z);simp [e2,this]
    ·simp only [decide_eq_false e2];exact ih
 have ha:∀ g:List (Nat×α),(g.any fun p=>decide (p.1=k))=(eS g k).isSome:=fun g=>by
  unfold eS;induction g with
  | nil=>rfl
  | cons p r ih =>
   rw [List.any_cons,List.find?_cons,ih]
   by_cases e:p.1=k<;>simp [e]
 unfold gL;rw [ha];split
 ·rename_i z;rw [hm];split
  ·rename_i e;rw [e];obtain ⟨w,ew⟩:=Option.isSome_iff_exists.mp z;rw [ew];rfl
  ·rfl
 ·rename_i z;have z:eS g k=none:=by simpa using z
  unfold eS at z ⊢;rw [List.find?_append];split
  ·rename_i e;rw [e];have z:g.find? (fun p=>decide (p.1=k))=none:=by simpa using z
   rw [z];simp
  ·rename_i e;have:¬ k=j:=fun q=>e q.symm;cases q:g.find? (fun p=>decide (p.1=j))<;>simp [this]
end
end K16
set_option maxHeartbeats 400000
namespace K16
open PySem PySem.Spec PyProof.Rows L2 DL CI SJ
structure Rn where
 ops:List Nat
 kv:List (Nat×It)
 st:List Int
 s:S3
noncomputable def rnd (q:Rn):Rn :=
 ⟨q.ops.eraseIdx (aI (itF q.st q.s).2.2 q.ops.length).toNat,gL q.kv (q.ops.getD (aI (itF q.st q.s).2.2 q.ops.length).toNat 0) (itF q.st q.s).1,(itF q.st q.s).2.1,digS (itF q.st q.s).2.2 q.ops.length⟩
noncomputable def itI (n:Nat) (st:List Int) (s:S3):Nat->Rn
 | 0=>⟨List.range n,[],st,s⟩
 | k+1=>rnd (itI n st s k)
structure Rn.ok (n k:Nat) (q:Rn):Prop where
 ol:q.ops.length+k=n
 ob:∀ x∈q.ops,x < n
 kl:q.kv.length<=k
 st:q.st.length=8
 al:∀ x,x < n->x∈q.ops\/∃ y,eS q.kv x=some y
 kv:∀ x y,eS q.kv x=some y->y.ok
def cK3 {n k:Nat} {q:Rn} (hq:q.ok n k) (hk:k < n):(rnd q).ok n (k+1):=by
 have hl:=hq.ol;obtain ⟨j,ej,hj⟩:=aW (itF q.st q.s).2.2 (b:=q.ops.length) (by omega);have hj':j < q.ops.length:=by omega
 have hi:=cK2 hq.st q.s;have er:rnd q=⟨q.ops.eraseIdx j,gL q.kv (q.ops.getD j 0) (itF q.st q.s).1,(itF q.st q.s).2.1,digS (itF q.st q.s).2.2 q.ops.length⟩:=by
  unfold rnd;rw [ej,Int.toNat_natCast]
 rw [er];refine ⟨?_,fun x hx=>hq.ob x (List.mem_of_mem_eraseIdx hx),?_,hi.2,fun x hx=>?_,fun x y e=>?_⟩
 ·show (q.ops.eraseIdx j).length+(k+1)=n;rw [List.length_eraseIdx_of_lt hj'];omega
 ·have:=zC q.kv (q.ops.getD j 0) (itF q.st q.s).1;have:=hq.kl;show (gL _ _ _).length<=k+1;omega
 ·show x∈q.ops.eraseIdx j\/∃ y,eS (gL q.kv (q.ops.getD j 0) (itF q.st q.s).1) x=some y;rw [zD]
  by_cases h1:x=q.ops.getD j 0
  ·right;rw [if_pos h1];exact ⟨_,rfl⟩
  ·rw [if_neg h1];rcases hq.al x hx with h2 | h2
   ·left;obtain ⟨m,hm,e⟩:=List.mem_iff_getElem.mp h2;refine List.mem_eraseIdx_iff_getElem.mpr ⟨m,hm,fun z=>h1 ?_,e⟩;subst z;rw [List.getD_eq_getElem?_getD,List.getElem?_eq_getElem hm,<- e];rfl
   ·exact .inr h2
 ·have e':eS (gL q.kv (q.ops.getD j 0) (itF q.st q.s).1) x=some y:=e;rw [zD] at e';split at e'
  ·cases e';exact hi.1
  ·exact hq.kv x y e'
theorem nJ {n:Nat} {st:List Int} (hl:st.length=8) (s:S3):∀ k,k<=n->(itI n st s k).ok n k
 | 0,_=>⟨by simp [itI],fun x hx=>by simpa [itI] using hx,Nat.le_refl 0,hl,fun x hx=>.inl (by simpa [itI] using hx),fun x y e=>by simp [itI,eS] at e⟩
 | k+1,hk=>cK3 (nJ hl s k (by omega)) (by omega)
theorem aV7 (f:Nat->PyData):∀ (l:List Nat) (j:Nat),(l.map f).eraseIdx j=(l.eraseIdx j).map f
 | [],j=>by simp
 | a::r,0=>by simp
 | a::r,j+1=>by simp [aV7 f r j]
def Gc (h:aA) (i:Nat) (xs:List PyData) (kvs:List (PyData×PyData)) (s:S3):aA:=(h++[Cell.l xs,Cell.k kvs]).set i (stL s)
section
variable {h:aA} {i:Nat} (hi:i < h.length)
include hi
def G_l (xs:List PyData) (kvs:List (PyData×PyData)) (s:S3):(Gc h i xs kvs s)[h.length]?=some (.l xs):=by
 unfold Gc;rw [List.getElem?_set_ne (by omega)];simp
def G_k (xs:List PyData) (kvs:List (PyData×PyData)) (s:S3):(Gc h i xs kvs s)[h.length+1]?=some (.k kvs):=by
 unfold Gc;rw [List.getElem?_set_ne (by omega)];simp
def dM7 (xs ys:List PyData) (kvs:List (PyData×PyData)) (s:S3):(Gc h i xs kvs s).set h.length (.l ys)=Gc h i ys kvs s:=by
 unfold Gc;rw [List.set_comm _ _ (by omega)];simp
def dM8 (xs:List PyData) (kvs kvs':List (PyData×PyData)) (s:S3):(Gc h i xs kvs s).set (h.length+1) (.k kvs')=Gc h i xs kvs' s:=by
 unfold Gc;rw [List.set_comm _ _ (by omega)]
 congr 1
 rw [List.set_append_right _ _ (by omega)];simp
def cW9 (xs:List PyData) (kvs:List (PyData×PyData)) (s:S3):bU [.c h.length] (Gc h i xs kvs s)=some (.d (.int xs.length),Gc h i xs kvs s):=by
 unfold bU ref;dsimp only;rw [G_l hi]
def lQ (d:Nat) (xs:List PyData) (kvs:List (PyData×PyData)) (s:S3) (b:Int) (hb:0 < b) (hb2:aT b=true):aD T (d+1) "_law_digit" [.c i,.d (.int b)] (Gc h i xs kvs s)=some (.int (aI s b),Gc h i xs kvs (digS s b)):=cB d _ s b (by simp;omega) hb hb2
def cK4 (d:Nat) (xs:List PyData) (kvs:List (PyData×PyData)) (s:S3):aD T (d+4) "_law_step" [.c i] (Gc h i xs kvs s)=some ((sF s).1.dat,Gc h i xs kvs (sF s).2):=cJ5 d _ s (by simp;omega)
def cX0 {ops:List Nat} {j:Nat} (hj:j < ops.length) (hl:ops.length<=120) (kvs:List (PyData×PyData)) (s:S3):aP5 h.length [.d (.int j)] (Gc h i (ops.map nI) kvs s)=some (.d (.int (ops.getD j 0)),Gc h i ((ops.eraseIdx j).map nI) kvs s):=by
 unfold aP5;rw [G_l hi];have e:ixN (ops.map nI).length (j:Int)=some j:=by
  unfold ixN;rw [if_pos (by omega),List.length_map,if_pos (by omega)];simp
 have e2:(ops.map nI)[j]?=some (.int (ops.getD j 0)):=by
  rw [List.getElem?_map,List.getElem?_eq_getElem hj,List.getD_eq_getElem?_getD,List.getElem?_eq_getElem hj];rfl
 simp only [e,e2,bs];rw [if_pos ⟨by omega,by omega⟩,aV7,dM7 hi]
end
end K16
set_option maxHeartbeats 1000000
namespace K16
open PySem PySem.Spec PyProof.Rows L2 DL CI SJ
def zE {α:Type} {x:Option α} {f:α->Option (Fl×aA)} {P:DSt->aA->Prop} (a:α) (e:x=some a) (k:∃ δ2 h2,f a=some (.nx δ2,h2)/\P δ2 h2):∃ δ2 h2,x.bind f=some (.nx δ2,h2)/\P δ2 h2:=by
 rw [e];exact k
noncomputable def dfI:It:=⟨.lay [],.none,""⟩
noncomputable def itsF (n:Nat) (st:List Int) (s:S3):List It:=(List.range n).map fun k=>(eS (itI n st s n).kv k).getD dfI
def bJ8 {n:Nat} {st:List Int} (hl:st.length=8) (s:S3):∀ x∈itsF n st s,x.ok:=by
 intro x hx;obtain ⟨k,hk,rfl⟩:=List.mem_map.mp hx;have hk:=List.mem_range.mp hk;have hq:=nJ hl s n (Nat.le_refl n);have ho:(itI n st s n).ops=[]:=List.eq_nil_of_length_eq_zero (by have:=hq.ol;omega);rcases hq.al k hk with z | ⟨y,e⟩
 ·rw [ho] at z;cases z
 ·rw [e];exact hq.kv k y e
def aV8 {n:Nat} {st:List Int} (hl:st.length=8) (s:S3) {k:Nat} (hk:k < n):∃ y,eS (itI n st s n).kv k=some y/\(eS (itI n st s n).kv k).getD dfI=y:=by
 have hq:=nJ hl s n (Nat.le_refl n);have ho:(itI n st s n).ops=[]:=List.eq_nil_of_length_eq_zero (by have:=hq.ol;omega);rcases hq.al k hk with z | ⟨y,e⟩
 ·rw [ho] at z;cases z
 ·exact ⟨y,e,by rw [e];rfl⟩
def an2 (st:List Int) (p:Stp) (w:Int):PyData:=if w=1 then aH1 st p else if w=0 then .none else (dnS st p).1
def cX1 (st:List Int) (p:Stp) (s:S3):anF st p s=if aI s 7=2/\rZ p=true then (if aI (digS s 7) 4=0 then (aG5,digS (digS s 7) 4) else (an2 st p (aI s 7),digS (digS s 7) 4)) else (an2 st p (aI s 7),digS s 7):=by
 unfold anF an2
 by_cases h0:aI s 7=0
 ·simp [h0]
 by_cases h1:aI s 7=1
 ·simp [h1]
 by_cases h2:aI s 7=2
 ·simp [h2]
 ·simp [h0,h1,h2]
def dM9 {p:Stp}:∃ (w:String) (xs:List PyData),p.dat=.tuple (.str (Str.ofString w)::xs)/\(rZ p=true ↔ ¬ w="look"/\¬ w="lay")/\w.length < 10:=by
 cases p with
 | call c =>
  cases c with
  | one o=>cases o<;>exact ⟨_,_,rfl,by simp [rZ],by decide⟩
  | span lo hi=>exact ⟨_,_,rfl,by simp [rZ],by decide⟩
  | deal cs=>exact ⟨_,_,rfl,by simp [rZ],by decide⟩
 | look c=>exact ⟨"look",_,rfl,by simp [rZ],by decide⟩
 | lay ps=>exact ⟨"lay",_,rfl,by simp [rZ],by decide⟩
def IQ (h:aA) (i n:Nat) (st:List Int) (q:Rn) (δ:DSt) (H:aA):Prop:=∃ x6 x7 x8 x9 x10:Option W,δ=[some (.c i),some (.d (.tuple (st.map .int))),some (.d (.int n)),some (.d (.tuple (q.st.map .int))),some (.c h.length),some (.c (h.length+1)),x6,x7,x8,x9,x10]/\H=Gc h i (q.ops.map nI) (q.kv.map (cV It.dat)) q.s
def sqE {β:Type} {x:Option (Fl×aA)} {f:Fl×aA->Option β} {R:Option β} (J:DSt->aA->Prop) (e:∃ δ' h',x=some (.nx δ',h')/\J δ' h') (k:∀ δ' h',J δ' h'->f (.nx δ',h')=R):x.bind f=R:=by
 obtain ⟨δ',h',e,j⟩:=e;rw [e];exact k δ' h' j
def dN0 {h:aA} {i:Nat} (hi:i < h.length) (xs:List PyData) (kvs:List (PyData×PyData)) (s s':S3):okP (h.set i (stL s)) (Gc h i xs kvs s')/\(Gc h i xs kvs s').take h.length=h.set i (stL s'):=by
 unfold Gc;exact ⟨by rw [yN s' hi];trivial,yO hi⟩
def fkV (kv:List (Nat×It)):PyData->PyData
 | .int k=>((eS kv k.toNat).getD dfI).dat
 | _=>.none
def dN1 {h:aA} {i:Nat} (hi:i < h.length) (xs:List PyData) {kv:List (Nat×It)} {s:S3} {k:Nat} {y:It} (e:eS kv k=some y):xIx (.c (h.length+1)) (.d (.int k)) (Gc h i xs (kv.map (cV It.dat)) s)=some (.d y.dat,Gc h i xs (kv.map (cV It.dat)) s):=by
 have f:=bJ7 It.dat kv k;rw [e,dM] at f;unfold xIx ref;dsimp only;rw [G_k hi];dsimp only [dM];cases q:(kv.map (cV It.dat)).find? (fun p=>decide (bA p.1=some (Sum.inl (k:Int)))) with
 | none=>rw [q] at f;cases f
 | some z =>
  rw [q] at f;have:z.2=y.dat:=Option.some.inj f;rw [Option.map_some,this]
def bJ9 (d:Nat) (h:aA) {i n:Nat} (s:S3) (hi:i < h.length) (hn:n<=120) {st:List Int} (hl:st.length=8):aD T (d+6) "_law_items" [.c i,.d (.tuple (st.map .int)),.d (.int n)] (h.set i (stL s))=some (.tuple ((itsF n st s).map It.dat),h.set i (stL (itI n st s n).s)):=by
 have e7:aT 7=true:=by decide
 have e4:aT 4=true:=by decide
 have er:fV 0 (n:Int)=true:=bP (by omega) (by omega);have sa:∀ (s:S3) (L:aA),h.set i (stL s)++L=(h++L).set i (stL s):=fun s L=>dF hi;rw [show d+6=(d+5)+1 from rfl,rO];simp only [mV,nO];refine sq (.rt (.d (.tuple ((itsF n st s).map It.dat))),Gc h i [] ((itI n st s n).kv.map (cV It.dat)) (itI n st s n).s) ?_ ?_
 ·refine sq (.nx [some (.c i),some (.d (.tuple (st.map .int))),some (.d (.int n)),some (.d (.tuple (st.map .int))),none,none,none,none,none,none,none],h.set i (stL s)) (by simp) ?_;dsimp only;refine sq (.nx [some (.c i),some (.d (.tuple (st.map .int))),some (.d (.int n)),some (.d (.tuple (st.map .int))),some (.c h.length),none,none,none,none,none,none],(h++[Cell.l ((List.range n).map nI)]).set i (stL s)) ?_ ?_
  ·have b1:(-4611686018427387904:Int)<=n:=by omega
   have b2:(n:Int) < 4611686018427387904:=by omega
   have b3:(n:Int)<=16000000:=by omega
   simp [bZ,sa,b1,b2,b3,fE]
  dsimp only;refine sq (.nx [some (.c i),some (.d (.tuple (st.map .int))),some (.d (.int n)),some (.d (.tuple (st.map .int))),some (.c h.length),some (.c (h.length+1)),none,none,none,none,none],Gc h i ((List.range n).map nI) [] s) ?_ ?_
  ·have:∀ c,i < (h++[c]).length:=fun c=>by simp;omega
   simp [tS,Gc];rw [dF (this _),List.append_assoc];rfl
  dsimp only;refine sqE (IQ h i n st (itI n st s n)) ?_ ?_
  ·refine zE ((rng 0 n,none),Gc h i ((List.range n).map nI) [] s) (by simp [er]) ?_;dsimp only;refine dG (fun m=>IQ h i n st (itI n st s m)) ⟨_,_,_,_,_,rfl,rfl⟩ (fun δ h'=>by rw [CI.rng_len];exact id) fun m hm δ H r=>?_;obtain ⟨x6,x7,x8,x9,x10,rfl,rfl⟩:=r;have hm':m < n:=by simpa [rng] using hm
   have hq:=nJ (n:=n) hl s m (Nat.le_of_lt hm');rw [itI];generalize (rng 0 n)[m]=v6;generalize itI n st s m=q at hq ⊢;obtain ⟨ops,kv,st',s'⟩:=q;have hst:st'.length=8:=hq.st;have hol:ops.length+m=n:=hq.ol;have hkl:kv.length<=m:=hq.kl;clear hq;obtain ⟨os,eos⟩:∃ os,os=ops.map nI:=⟨_,rfl⟩;obtain ⟨ks,eks⟩:∃ ks,ks=kv.map (cV It.dat):=⟨_,rfl⟩;refine ⟨[some (.c i),some (.d (.tuple (st.map .int))),some (.d (.int n)),some (.d (.tuple (st'.map .int))),some (.c h.length),some (.c (h.length+1)),some (.d v6),x7,x8,x9,x10],Gc h i os ks s',by rw [eos,eks];rfl,?_⟩;have g1:=cK4 hi (d+1) os ks s';obtain ⟨p,s1,ep⟩:∃ p s1,sF s'=(p,s1):=⟨_,_,rfl⟩;have hp:Sok p:=by have:=bI8 s';rw [ep] at this;exact this
   rw [ep] at g1;dsimp only at g1;refine bO [some (.c i),some (.d (.tuple (st.map .int))),some (.d (.int n)),some (.d (.tuple (st'.map .int))),some (.c h.length),some (.c (h.length+1)),some (.d v6),some (.d p.dat),x8,x9,x10] (Gc h i os ks s1) (by simp [g1]) ?_;dsimp only;have g2:=xB d (Gc h i os ks s1) hp hst;refine bO [some (.c i),some (.d (.tuple (st.map .int))),some (.d (.int n)),some (.d (.tuple ((dnS st' p).2.map .int))),some (.c h.length),some (.c (h.length+1)),some (.d v6),some (.d p.dat),some (.d (dnS st' p).1),x9,x10] (Gc h i os ks s1) (by simp [g2]) ?_;dsimp only;have g3:=lQ hi (d+4) os ks s1 7 (by decide) e7;obtain ⟨w,ew⟩:∃ w,w=aI s1 7:=⟨_,rfl⟩;rw [<- ew] at g3;refine bO [some (.c i),some (.d (.tuple (st.map .int))),some (.d (.int n)),some (.d (.tuple ((dnS st' p).2.map .int))),some (.c h.length),some (.c (h.length+1)),some (.d v6),some (.d p.dat),some (.d (dnS st' p).1),some (.d (.int w)),x10] (Gc h i os ks (digS s1 7)) (by simp [g3]) ?_;dsimp only;refine bO [some (.c i),some (.d (.tuple (st.map .int))),some (.d (.int n)),some (.d (.tuple ((dnS st' p).2.map .int))),some (.c h.length),some (.c (h.length+1)),some (.d v6),some (.d p.dat),some (.d (if w=0 then .none else (dnS st' p).1)),some (.d (.int w)),x10] (Gc h i os ks (digS s1 7)) (by by_cases z:w=0<;>simp [z]) ?_;dsimp only;refine bO [some (.c i),some (.d (.tuple (st.map .int))),some (.d (.int n)),some (.d (.tuple ((dnS st' p).2.map .int))),some (.c h.length),some (.c (h.length+1)),some (.d v6),some (.d p.dat),some (.d (an2 st' p w)),some (.d (.int w)),x10] (Gc h i os ks (digS s1 7)) (by
    by_cases z:w=1
    ·have g4:=cW7 (d+3) (Gc h i os ks (digS s1 7)) hp hst;simp [z,an2,g4]
    ·simp [z,an2]) ?_
   dsimp only;obtain ⟨A,s2,eA⟩:∃ A s2,anF st' p s1=(A,s2):=⟨_,_,rfl⟩;refine bO [some (.c i),some (.d (.tuple (st.map .int))),some (.d (.int n)),some (.d (.tuple ((dnS st' p).2.map .int))),some (.c h.length),some (.c (h.length+1)),some (.d v6),some (.d p.dat),some (.d A),some (.d (.int w)),x10] (Gc h i os ks s2) (by
    rw [cX1,<- ew] at eA;obtain ⟨wd,xs,ed,hw,_⟩:=dM9 (p:=p)
    by_cases h2:w=2
    ·by_cases hc:rZ p=true
     ·obtain ⟨n1,n2⟩:=hw.mp hc;have g5:=lQ hi (d+4) os ks (digS s1 7) 4 (by decide) e4;rw [if_pos ⟨h2,hc⟩] at eA
      by_cases h4:aI (digS s1 7) 4=0
      ·rw [if_pos h4] at eA;cases eA;simp [h2,ed,PyData.eqv,n1,n2,g5,h4,aG5,szl]
      ·rw [if_neg h4] at eA;cases eA;simp [h2,ed,PyData.eqv,n1,n2,g5,h4]
     ·rw [if_neg (fun z=>hc z.2)] at eA;cases eA
      by_cases n1:wd="look"
      ·simp [h2,ed,PyData.eqv,n1]
      ·have n2:wd="lay":=Classical.byContradiction fun n2=>hc (hw.mpr ⟨n1,n2⟩);simp [h2,ed,PyData.eqv,n2]
    ·rw [if_neg (fun z=>h2 z.1)] at eA;cases eA;simp [h2]) ?_
   dsimp only;have g6:=lQ hi (d+4) os ks s2 7 (by decide) e7;have g7:=cW8 s2;refine bO [some (.c i),some (.d (.tuple (st.map .int))),some (.d (.int n)),some (.d (.tuple ((dnS st' p).2.map .int))),some (.c h.length),some (.c (h.length+1)),some (.d v6),some (.d p.dat),some (.d A),some (.d (.int w)),some (.d (.str (Str.ofString (wdF (aI s2 7)))))] (Gc h i os ks (digS s2 7)) (by simp [g6,g7,szl,aK]) ?_;dsimp only;have lo:(0:Int) < ops.length:=by omega
   obtain ⟨j,ej,hj⟩:=aW (digS s2 7) (b:=ops.length) lo;have hj':j < ops.length:=by omega
   have g8:=lQ hi (d+4) os ks (digS s2 7) ops.length lo (cG lo (by omega));have g9:=cW9 hi os ks (digS s2 7);have g10:=cX0 hi hj' (by omega) ks (digS (digS s2 7) ops.length);have g11:=G_l hi os ks (digS s2 7);have ol:os.length=ops.length:=by rw [eos];simp
   rw [<- eos] at g10;rw [ej] at g8;rw [ol] at g9;have hk2:ks.length < 16777216:=by rw [eks];simp;omega
   have g12:=G_k hi ((ops.eraseIdx j).map nI) ks (digS (digS s2 7) ops.length);have g13:=aV6 It.dat kv (ops.getD j 0) ⟨p,A,wdF (aI s2 7)⟩;have ei:itF st' s'=(⟨p,A,wdF (aI s2 7)⟩,(dnS st' p).2,digS s2 7):=by simp [itF,ep,eA]
   have er':rnd ⟨ops,kv,st',s'⟩=⟨ops.eraseIdx j,gL kv (ops.getD j 0) ⟨p,A,wdF (aI s2 7)⟩,(dnS st' p).2,digS (digS s2 7) ops.length⟩:=by
    unfold rnd;simp only [ei,ej,Int.toNat_natCast]
   rw [er'];refine ⟨[some (.c i),some (.d (.tuple (st.map .int))),some (.d (.int n)),some (.d (.tuple ((dnS st' p).2.map .int))),some (.c h.length),some (.c (h.length+1)),some (.d v6),some (.d p.dat),some (.d A),some (.d (.int w)),some (.d (.str (Str.ofString (wdF (aI s2 7)))))],Gc h i ((ops.eraseIdx j).map nI) ((gL kv (ops.getD j 0) ⟨p,A,wdF (aI s2 7)⟩).map (cV It.dat)) (digS (digS s2 7) ops.length),?_,_,_,_,_,_,rfl,rfl⟩;rw [<- g13,<- eks];simp [g8,g9,g10,g11,g12,szl,hk2,dM,It.dat,dM8 hi]
  ·rintro δ' H ⟨x6,x7,x8,x9,x10,rfl,rfl⟩;have hq:=nJ hl s n (Nat.le_refl n);have ho:(itI n st s n).ops=[]:=List.eq_nil_of_length_eq_zero (by have:=hq.ol;omega);rw [ho];simp [er,aK,szl];rw [cH6 (fkV (itI n st s n).kv) (fun δ=>∃ a,δ=[a,some (.c (h.length+1))]) _ _ ⟨_,rfl⟩ (fun z hz δ ⟨a,e⟩=>by
    subst e;rw [fE] at hz;obtain ⟨k,hk,rfl⟩:=List.mem_map.mp hz;obtain ⟨y,ey,ey2⟩:=aV8 hl s (List.mem_range.mp hk);have g:=dN1 hi [] (s:=(itI n st s n).s) ey;refine ⟨[some (.d (nI k)),_],rfl,⟨_,rfl⟩,?_⟩;simp [nI,fkV,g,ey])]
   rw [fE];simp [itsF,Function.comp_def,nI,fkV]
 ·have:=dN0 hi [] ((itI n st s n).kv.map (cV It.dat)) s (itI n st s n).s;simp [this.1,this.2]
end K16
set_option maxHeartbeats 400000
namespace K16
open PySem PySem.Spec PyProof.Rows L2 DL CI SJ
noncomputable def vs:Nat->S3->List Int×S3
 | 0,s=>([],s)
 | k+1,s=>((vF s).1::(vs k (vF s).2).1,(vs k (vF s).2).2)
theorem aV9:∀ (k:Nat) (s:S3),(vs k s).1.length=k
 | 0,s=>rfl
 | k+1,s=>by simp [vs,aV9 k]
theorem zF {g:XG} {te:XR W} {all:List PyData} {h:aA} {i:Nat} (k:Nat) (hg:∀ w δ h,g w δ h=some (δ.set k (some w),h)) :
  ∀ (rest:List PyData) (δ:DSt) (ac:List PyData) (c:Cell) (s:S3),Stf c s->(rest=[]->c=stL s)->(∀ x∈rest,∀ u c s,Stf c s->te ((δ.set k u).set k (some (.d x))) (h.set i c)=some (.d (.int (vF s).1),h.set i (stL (vF s).2))) ->
   aO g (aC true) te none all rest δ (h.set i c) ac=some (ac++(vs rest.length s).1.map .int,h.set i (stL (vs rest.length s).2))
 | [],δ,ac,c,s,_,hn,_=>by rw [hn rfl];simp [aO,vs]
 | x::r,δ,ac,c,s,hc,_,hf=>by
  have e:=hf x List.mem_cons_self none c s hc;rw [List.set_set] at e;rw [aO,bX,if_pos rfl,hg];simp only [Option.bind_some,mT,if_true,e];rw [zF k hg r _ _ _ _ (stf _) (fun _=>rfl) fun y hy u c s hc=>by
   have:=hf y (List.mem_cons_of_mem _ hy) u c s hc;rw [List.set_set] at this ⊢;rw [List.set_set];exact this]
  simp [vs]
noncomputable def stF (s:S3):List Int×S3:=if aI s 3=0 then vs 8 (digS s 3) else ([0,0,0,0,0,0,0,0],digS s 3)
def sA (s:S3):(stF s).1.length=8:=by
 unfold stF;split
 ·exact aV9 8 _
 ·rfl
noncomputable def pN (c:Int) (m:Nat):Nat:=(aI (st0 c) (m+1)).toNat
noncomputable def pS (c:Int) (m:Nat):List Int×S3:=stF (digS (st0 c) (m+1))
noncomputable def pI (c:Int) (m:Nat):List It:=itsF (pN c m) (pS c m).1 (pS c m).2
noncomputable def pT (c:Int) (m:Nat):S3:=(itI (pN c m) (pS c m).1 (pS c m).2 (pN c m)).s
noncomputable def pP (c:Int) (m:Nat):List (Nat×Nat)×S3:=itP (pN c m) (digS (pT c m) 5) (aI (pT c m) 5).toNat
noncomputable def pbF (c:Int) (m:Nat):Pb:=⟨(pS c m).1,pI c m,(pP c m).1,(itT (pI c m) (digS (pP c m).2 4) (aI (pP c m).2 4).toNat).1⟩
def bQ4 (c:Int) (m:Nat):pN c m<=m:=by
 have h1:=fC (st0 c) (b:=(m:Int)+1) (by omega);have h2:=fD (st0 c) (b:=(m:Int)+1) (by omega);unfold pN;omega
def aW0 (c:Int) (m:Nat):(pI c m).length=pN c m:=by simp [pI,itsF]
def cK5 (c:Int) {m:Nat} (hm:m<=120):(pbF c m).ok:=by
 have hl:=bQ4 c m;have e:=aW0 c m;refine ⟨sA _,?_,bJ8 (sA _) _,?_,?_,?_,xI _ _ _⟩
 ·show (pI c m).length<=120;omega
 ·have:=rW (pN c m) (digS (pT c m) 5) (aI (pT c m) 5).toNat;have:=fD (pT c m) (b:=5) (by decide);show (itP (pN c m) (digS (pT c m) 5) (aI (pT c m) 5).toNat).1.length<=100;omega
 ·intro p hp;show p.1 < (pI c m).length/\p.2 < (pI c m).length/\p.1≠p.2;rw [e];exact xH _ _ _ p hp
 ·have:=rY (pI c m) (digS (pP c m).2 4) (aI (pP c m).2 4).toNat;have:=fD (pP c m).2 (b:=4) (by decide);show (itT (pI c m) (digS (pP c m).2 4) (aI (pP c m).2 4).toNat).1.length<=100;omega
def zG (h:aA) (c c':Cell):h++[c]=(h++[c']).set h.length c:=by simp
def aH2 (d:Nat) (h:aA) (c:Int) {m:Nat} (hm:m<=120):aD T (d+7) "_law_problem" [.d (.int c),.d (.int m)] h=some ((pbF c m).dat,h):=by
 have e3:aT 3=true:=by decide
 have er:fV 0 8=true:=bP (by omega) (by omega);have hi:h.length < (h++[Cell.l []]).length:=by simp
 have as:∀ c,h++[c]=(h++[Cell.l []]).set h.length c:=fun c=>zG h c _;obtain ⟨H,eH⟩:∃ H,H=h++[Cell.l []]:=⟨_,rfl⟩;rw [<- eH] at hi as;have hm1:(0:Int) < m+1:=by omega
 have g1:=uQ (d+5) H c (m+1) hi hm1 (cG hm1 (by omega));obtain ⟨n,en⟩:∃ n,n=pN c m:=⟨_,rfl⟩;have hn:aI (st0 c) (m+1)=n:=by
  have h1:=fC (st0 c) (b:=(m:Int)+1) (by omega);rw [en];unfold pN;omega
 have hn2:n<=120:=by have:=bQ4 c m;omega
 rw [hn] at g1;rw [show d+7=(d+6)+1 from rfl,mZ];simp only [mV,nO];refine sq (.rt (.d (pbF c m).dat),H.set h.length (stL (itT (pI c m) (digS (pP c m).2 4) (aI (pP c m).2 4).toNat).2)) ?_ ?_
 ·refine sq (.nx [some (.d (.int c)),some (.d (.int m)),some (.c h.length),none,none,none],H.set h.length (.l [.int c])) (by simp [bZ,szl,<- as]) ?_;dsimp only;refine sq (.nx [some (.d (.int c)),some (.d (.int m)),some (.c h.length),some (.d (.int n)),none,none],H.set h.length (stL (digS (st0 c) (m+1)))) (by simp [g1]) ?_;dsimp only;refine sq (.nx [some (.d (.int c)),some (.d (.int m)),some (.c h.length),some (.d (.int n)),some (.d (.tuple ([0,0,0,0,0,0,0,0].map .int))),none],H.set h.length (stL (digS (st0 c) (m+1)))) (by simp) ?_;dsimp only;refine sq (.nx [some (.d (.int c)),some (.d (.int m)),some (.c h.length),some (.d (.int n)),some (.d (.tuple ((pS c m).1.map .int))),none],H.set h.length (stL (pS c m).2)) ?_ ?_
  ·have g2:=cB (d+5) H (digS (st0 c) (m+1)) 3 hi (by decide) e3;unfold pS stF
   by_cases z:aI (digS (st0 c) (m+1)) 3=0
   ·rw [if_pos z];rw [z] at g2;simp [g2,er,aK,szl];rw [zF 0 (fun _ _ _=>rfl) _ _ _ _ _ (stf _) (fun _=>rfl) (fun x hx u c s hc=>by
     have:=uS (d+4) H hc hi;simp [this])]
    simp [rng]
   ·rw [if_neg z];simp [g2,z]
  dsimp only;have g3:=bJ9 d H (pS c m).2 hi hn2 (sA (digS (st0 c) (m+1)));have g4:=bJ6 (d+4) H (n:=n) (pT c m) hi hn2;have g5:=aH0 (d+4) H (pP c m).2 hi (its:=pI c m) (by rw [aW0];omega);refine sq (.nx [some (.d (.int c)),some (.d (.int m)),some (.c h.length),some (.d (.int n)),some (.d (.tuple ((pS c m).1.map .int))),some (.d (.tuple ((pI c m).map It.dat)))],H.set h.length (stL (pT c m))) ?_ ?_
  ·have g3':aD T (d+6) "_law_items" [.c h.length,.d (.tuple ((pS c m).1.map .int)),.d (.int n)] (H.set h.length (stL (pS c m).2))=some (.tuple ((pI c m).map It.dat),H.set h.length (stL (pT c m))):=by
    rw [en];rw [en] at g3;exact g3
   simp [g3']
  dsimp only;have g4':aD T (d+6) "_law_pairs" [.c h.length,.d (.int n)] (H.set h.length (stL (pT c m)))=some (.tuple ((pP c m).1.map p2),H.set h.length (stL (pP c m).2)):=by
   rw [en];rw [en] at g4;exact g4
  simp [g4',g5,szl,pbF,Pb.dat]
 ·have ek:∀ c,H.set h.length c=h++[c]:=fun c=>(as c).symm;rw [ek];simp
end K16
set_option maxHeartbeats 1000000
namespace K16
open PySem PySem.Spec PyProof.Rows L2 DL CI SJ
def bK0 (b:Pb) (pl:List Nat) (x:Nat):(!(decide (x∈pl)||decide (wdI b.its x="out"))&&(!(b.ps.any fun p=>(decide (p.2=x)&&(dL b.its p.1&&!decide (p.1∈pl)))||(decide (p.1=x)&&decide (p.2∈pl)))&&!(b.ts.any fun t=>decide (t.2.2=x)&&(decide (t.1∈pl)&&!decide (t.2.1∈pl)))))=gD b pl x:=by
 unfold gD
 congr 1
 have e1:(b.ps.any fun p=>(decide (p.2=x)&&(dL b.its p.1&&!decide (p.1∈pl)))||(decide (p.1=x)&&decide (p.2∈pl)))=(((ahL b.its b.ps x).any fun y=>!decide (y∈pl))||((laL b.ps x).any fun y=>decide (y∈pl))):=by
  unfold ahL laL;rw [List.any_map,List.any_map,List.any_filter,List.any_filter];rw [Bool.eq_iff_iff,Bool.or_eq_true,List.any_eq_true,List.any_eq_true,List.any_eq_true];constructor
  ·rintro ⟨p,hp,h⟩;rw [Bool.or_eq_true] at h;rcases h with h | h
   ·exact .inl ⟨p,hp,by simpa [and_assoc] using h⟩
   ·exact .inr ⟨p,hp,by simpa using h⟩
  ·rintro (⟨p,hp,h⟩ | ⟨p,hp,h⟩)
   ·exact ⟨p,hp,by rw [Bool.or_eq_true];left;simpa [and_assoc] using h⟩
   ·exact ⟨p,hp,by rw [Bool.or_eq_true];right;simpa using h⟩
 have e2:(b.ts.any fun t=>decide (t.2.2=x)&&(decide (t.1∈pl)&&!decide (t.2.1∈pl)))=((gaL b.ts x).any fun q=>decide (q.1∈pl)&&!decide (q.2∈pl)):=by
  unfold gaL;rw [List.any_map,List.any_filter];rfl
 rw [e1,e2];cases (ahL b.its b.ps x).any fun y=>!decide (y∈pl)<;>simp
def aW1 (d:Nat) {b:Pb} (hb:b.ok) {x:Nat} {h:aA} {w1:W} {pl:List Nat} (hx:x < b.its.length) (hin:Inn h w1 pl):aD T (d+1) "_law_may" [.d b.dat,w1,.d (.int x)] h=some (.bool (gD b pl x),h):=by
 have e6:=nG hx;have ew:wdI b.its x=b.its[x].w:=by simp [wdI,hx]
 rw [<- bK0,wR];simp only [mV,nO];generalize hR:(!(decide (x∈pl)||decide (wdI b.its x="out"))&&(!(b.ps.any fun p=>(decide (p.2=x)&&(dL b.its p.1&&!decide (p.1∈pl)))||(decide (p.1=x)&&decide (p.2∈pl)))&&!(b.ts.any fun t=>decide (t.2.2=x)&&(decide (t.1∈pl)&&!decide (t.2.1∈pl)))))=R;refine sq (.rt (.d (.bool R)),h) ?_ (by simp)
 by_cases c1:x∈pl\/b.its[x].w="out"
 ·have em:R=false:=by
   rw [<- hR,ew];rcases c1 with c1 | c1<;>simp [c1]
  rw [em];refine sq (.rt (.d (.bool false)),h) ?_ rfl
  by_cases c2:x∈pl
  ·simp [hin x,c2]
  ·have c3:b.its[x].w="out":=c1.resolve_left c2;simp [hin x,c2,Pb.dat,e6,It.dat,c3,PyData.eqv]
 have c2:¬ x∈pl:=fun z=>c1 (.inl z);have c3:¬ b.its[x].w="out":=fun z=>c1 (.inr z);refine sq (.nx [some (.d b.dat),some w1,some (.d (.int x)),none,none,none],h) (by simp [hin x,c2,Pb.dat,e6,It.dat,c3,PyData.eqv]) ?_;dsimp only;refine lpB (b.ps.any fun p=>(decide (p.2=x)&&(dL b.its p.1&&!decide (p.1∈pl)))||(decide (p.1=x)&&decide (p.2∈pl))) (.d (.bool false)) h (fun δ=>∃ u v,δ=[some (.d b.dat),some w1,some (.d (.int x)),u,v,none]) ?_ (fun z=>?_) (fun z1 δ i=>?_)
 ·refine bI ((b.ps.map p2,none),h) (by simp [Pb.dat]) ?_;refine fM rfl p2 _ _ _ _ ⟨_,_,rfl⟩ fun q hq δ i=>?_;obtain ⟨u,v,rfl⟩:=i;obtain ⟨q1,q2,q3⟩:=hb.ps q hq;have e7:=nG q1;have mu:dL b.its q.1=decide (b.its[q.1].w="must"):=by simp [dL,q1]
  refine ⟨[some (.d b.dat),some w1,some (.d (.int x)),some (.d (.int q.1)),some (.d (.int q.2)),none],by simp [p2],[some (.d b.dat),some w1,some (.d (.int x)),some (.d (.int q.1)),some (.d (.int q.2)),none],?_,_,_,rfl⟩;have i1:((q.1:Int)=x)=(q.1=x):=propext (by omega);have i2:((q.2:Int)=x)=(q.2=x):=propext (by omega);have hi1:=hin q.1;have hi2:=hin q.2;rw [mu]
  by_cases a1:q.2=x
  ·have a3:¬ q.1=x:=by omega
   by_cases a2:b.its[q.1].w="must"
   ·by_cases a4:q.1∈pl<;>simp [PyData.eqv,i1,i2,a1,a2,a3,a4,Pb.dat,e7,It.dat,hi1,hi2]
   ·simp [PyData.eqv,i1,i2,a1,a2,a3,Pb.dat,e7,It.dat,hi1,hi2]
  ·by_cases a3:q.1=x
   ·by_cases a4:q.2∈pl<;>simp [PyData.eqv,i1,i2,a1,a3,a4,hi1,hi2]
   ·simp [PyData.eqv,i1,i2,a1,a3]
 ·rw [<- hR,z];simp
 obtain ⟨u,v,rfl⟩:=i;dsimp only;refine lpB (b.ts.any fun t=>decide (t.2.2=x)&&(decide (t.1∈pl)&&!decide (t.2.1∈pl))) (.d (.bool false)) h (fun δ=>∃ u v w,δ=[some (.d b.dat),some w1,some (.d (.int x)),u,v,w]) ?_ (fun z=>?_) (fun z2 δ i=>?_)
 ·refine bI ((b.ts.map p3,none),h) (by simp [Pb.dat]) ?_;refine fM rfl p3 _ _ _ _ ⟨_,_,_,rfl⟩ fun q hq δ i=>?_;obtain ⟨u,v,w,rfl⟩:=i;refine ⟨[some (.d b.dat),some w1,some (.d (.int x)),some (.d (.int q.1)),some (.d (.int q.2.1)),some (.d (.int q.2.2))],by simp [p3],[some (.d b.dat),some w1,some (.d (.int x)),some (.d (.int q.1)),some (.d (.int q.2.1)),some (.d (.int q.2.2))],?_,_,_,_,rfl⟩;have i1:((q.2.2:Int)=x)=(q.2.2=x):=propext (by omega);have hi1:=hin q.1;have hi2:=hin q.2.1
  by_cases a1:q.2.2=x
  ·by_cases a2:q.1∈pl
   ·by_cases a3:q.2.1∈pl<;>simp [PyData.eqv,i1,a1,a2,a3,hi1,hi2]
   ·simp [PyData.eqv,i1,a1,a2,hi1]
  ·simp [PyData.eqv,i1,a1]
 ·rw [<- hR,z];simp
 ·have em:R=true:=by
   rw [<- hR,ew,z1,z2];simp [c2,c3]
  rw [em];rfl
mutual
theorem ec:(a b:PyData)->PyData.eqv a b=PyData.eqv b a
 | .tuple xs,b=>by
  cases b<;>simp only [PyData.eqv];exact ecs xs _
 | .list xs,b=>by
  cases b<;>simp only [PyData.eqv];exact ecs xs _
 | .none,b=>by cases b<;>simp only [PyData.eqv]
 | .bool x,b=>by cases b<;>simp only [PyData.eqv]<;>exact Bool.beq_comm
 | .int x,b=>by cases b<;>simp only [PyData.eqv]<;>exact Bool.beq_comm
 | .str x,b=>by cases b<;>simp only [PyData.eqv]<;>exact Bool.beq_comm
 | .dict x,b=>by cases b<;>simp only [PyData.eqv]
theorem ecs:(xs ys:List PyData)->PyData.eqvAll xs ys=PyData.eqvAll ys xs
 | [],ys=>by cases ys<;>simp only [PyData.eqvAll]
 | x::r,ys=>by
  cases ys with
  | nil=>simp only [PyData.eqvAll]
  | cons y s=>simp only [PyData.eqvAll];rw [ec x y,ecs r s]
end
def sB (d:Nat) (h:aA) {b:Pb} {st:List Int} {x:Nat} {y:It} (ey:b.its[x]?=some y) (hy:y.ok) (hl:st.length=8):aD T (d+6) "_law_later" [.d b.dat,.d (.tuple (st.map .int)),.d (.int x)] h=some (bh st y,h):=by
 have e1:=xB d h hy.s hl;have e2:=pZ ey;have e4:=cW4 h (bJ3 st y.p).1 hy.t;rw [ec] at e4;obtain ⟨p,t,w⟩:=y;dsimp only at e1 e4;rcases t_cases hy.t with rfl | ⟨xs,rfl⟩
 ·simp [jJ,Pb.dat,e1,e2,It.dat,bh]
 ·cases hq:PyData.eqv (.tuple xs) (dnS st p).1<;>simp [jJ,Pb.dat,e1,e2,e4,It.dat,bh,hq]
open Classical in
noncomputable def bhO (st:List Int) (y:It):Option (List Int):=if y.t=.none\/PyData.eqv y.t (dnS st y.p).1=true then some (dnS st y.p).2 else none
def bK1 {st:List Int} {y:It} {s:List Int} (e:bhO st y=some s):bh st y=.tuple (s.map .int):=by
 unfold bhO at e;unfold bh;split at e
 ·rename_i c;rw [if_pos c];cases e;rfl
 ·cases e
def cK6 {st:List Int} {y:It} (e:bhO st y=none):bh st y=.none:=by
 unfold bhO at e;unfold bh;split at e
 ·cases e
 ·rename_i c;rw [if_neg c]
def xJ {st:List Int} {y:It} (hy:y.ok) (hl:st.length=8) {s:List Int} (e:bhO st y=some s):s.length=8:=by
 unfold bhO at e;split at e
 ·cases e;exact yW hy.s hl
 ·cases e
noncomputable def kT (b:Pb) (line:List Nat) (k:Nat) (st:List Int):PyData ⊕ List Int :=
 if gD b (line.take k) (line.getD k 0)=true then (match bhO st (b.its.getD (line.getD k 0) dfI) with
  | some s=>.inr s
  | none=>.inl (.tuple [.str (Str.ofString "answer"),.int k])) else .inl (.tuple [.str (Str.ofString "place"),.int k])
noncomputable def nV {σ:Type} (f:Nat->σ->PyData ⊕ σ):Nat->Nat->σ->PyData ⊕ σ
 | 0,_,s=>.inr s
 | m+1,k,s=>(match f k s with
  | .inl z=>.inl z
  | .inr s'=>nV f m (k+1) s')
def OrE {σ:Type} (x:Option (Fl×aA)) (P1:PyData->aA->Prop) (P2:σ->DSt->aA->Prop):Prop:=(∃ z h2,x=some (.rt (.d z),h2)/\P1 z h2)\/∃ s' δ2 h2,x=some (.nx δ2,h2)/\P2 s' δ2 h2
def lpR {σ β:Type} {x:Option (Fl×aA)} {f:Fl×aA->Option β} {R:Option β} (P1:PyData->aA->Prop) (P2:σ->DSt->aA->Prop) (e:OrE x P1 P2) (k1:∀ z h2,P1 z h2->f (.rt (.d z),h2)=R) (k2:∀ s' δ2 h2,P2 s' δ2 h2->f (.nx δ2,h2)=R):x.bind f=R:=by
 rcases e with ⟨z,h2,e,p⟩ | ⟨s',δ2,h2,e,p⟩
 ·rw [e];exact k1 z h2 p
 ·rw [e];exact k2 s' δ2 h2 p
def bR {α σ:Type} {x:Option α} {f:α->Option (Fl×aA)} {P1:PyData->aA->Prop} {P2:σ->DSt->aA->Prop} (a:α) (e:x=some a) (k:OrE (f a) P1 P2):OrE (x.bind f) P1 P2:=by
 rw [e];exact k
def RnI {σ:Type} (f:Nat->σ->PyData ⊕ σ) (n:Nat) (s:σ) (E:aA->Prop) (z:PyData) (h:aA):Prop:=nV f n 0 s=.inl z/\E h
def RnR {σ:Type} (f:Nat->σ->PyData ⊕ σ) (n:Nat) (s:σ) (R:Nat->σ->DSt->aA->Prop) (s':σ) (δ:DSt) (h:aA):Prop:=nV f n 0 s=.inr s'/\R n s' δ h
theorem qA {σ:Type} {g:XG} {tb:XS} (all:List PyData) (F:Nat->PyData) (f:Nat->σ->PyData ⊕ σ) (R:Nat->σ->DSt->aA->Prop) (E:aA->Prop) {n:Nat}
  (ht:∀ k,k < n->∀ s δ h,R k s δ h->∃ δ1 h1,g (.d (F k)) δ h=some (δ1,h1)/\OrE (tb δ1 h1) (fun z h2=>f k s=.inl z/\E h2) (fun s' δ2 h2=>f k s=.inr s'/\R (k+1) s' δ2 h2)) :
  ∀ (m k:Nat) (s:σ) (δ:DSt) (h:aA),k+m=n->R k s δ h ->
   OrE (bC g tb none all ((List.range' k m).map F) δ h) (fun z h2=>nV f m k s=.inl z/\E h2) (fun s' δ2 h2=>nV f m k s=.inr s'/\R n s' δ2 h2)
 | 0,k,s,δ,h,e,r=>.inr ⟨s,δ,h,by simp [bC],rfl,by rw [<- e];exact r⟩
 | m+1,k,s,δ,h,e,r=>by
  obtain ⟨δ1,h1,e1,q⟩:=ht k (by omega) s δ h r;rw [List.range'_succ,List.map_cons,bC,bX,if_pos rfl,e1];rcases q with ⟨z,h2,e3,e2,x⟩ | ⟨s',δ2,h2,e3,e2,r2⟩
  ·refine .inl ⟨z,h2,?_,by rw [nV,e2],x⟩;simp only [bs,e3]
  ·have ih:=qA all F f R E ht m (k+1) s' δ2 h2 (by omega) r2;rw [nV,e2];simp only [bs,e3];exact ih
def vA {σ:Type} {g:XG} {tb:XS} {all qs:List PyData} {F:Nat->PyData} {n:Nat} (eq:qs=(List.range n).map F) (f:Nat->σ->PyData ⊕ σ) (R:Nat->σ->DSt->aA->Prop) (E:aA->Prop) (s:σ) {δ:DSt} {h:aA} (hr:R 0 s δ h)
  (ht:∀ k,k < n->∀ s δ h,R k s δ h->∃ δ1 h1,g (.d (F k)) δ h=some (δ1,h1)/\OrE (tb δ1 h1) (fun z h2=>f k s=.inl z/\E h2) (fun s' δ2 h2=>f k s=.inr s'/\R (k+1) s' δ2 h2)) :
  OrE (bC g tb none all qs δ h) (RnI f n s E) (RnR f n s R):=by
 rw [eq,List.range_eq_range'];exact qA all F f R E ht n 0 s δ h (by omega) hr
noncomputable def aH3 (b:Pb) (line:List Nat):List Nat:=(mus b.its).filter fun x=>!decide (x∈line)
noncomputable def gX (b:Pb) (line:List Nat):PyData:=match nV (kT b line) line.length 0 b.st with
 | .inl z=>z
 | .inr _=>(match (aH3 b line).head? with
  | some x=>.tuple [.str (Str.ofString "missing"),.int x]
  | none=>.none)
theorem vB {α:Type} (p q:α->Bool):∀ l:List α,(l.findSome? fun x=>if (p x&&q x)=true then some x else none)=((l.filter p).filter q).head?
 | []=>rfl
 | a::r=>by
  rw [List.findSome?_cons,vB p q r];cases hp:p a
  ·simp [hp]
  ·cases hq:q a<;>simp [hp,hq]
def lpO {α β γ:Type} {x:Option α} {f:α->Option (Fl×aA)} {k:Fl×aA->Option γ} {R:Option γ} {o:Option β} {wd:β->W} {h:aA} {I:DSt->Prop} (a:α) (e:x=some a) (q:(∃ b,o=some b/\f a=some (.rt (wd b),h))\/(o=none/\∃ δ',I δ'/\f a=some (.nx δ',h))) (k1:∀ b,o=some b->k (.rt (wd b),h)=R) (k2:o=none->∀ δ',I δ'->k (.nx δ',h)=R):(x.bind f).bind k=R:=by
 rw [e,bs];rcases q with ⟨b,eo,ef⟩ | ⟨eo,δ',i,ef⟩
 ·rw [ef];exact k1 b eo
 ·rw [ef];exact k2 eo δ' i
def sC (line:List Nat) (k:Nat):cut (line.map nI) none (some (k:Int))=(line.take k).map nI:=by
 unfold cut;rw [HT.sIx_nat,HT.sIx_none,List.length_map,Nat.sub_zero,List.drop_zero,<- List.map_take]
 congr 1
 rw [List.take_eq_take_iff];omega
def bK2 {line:List Nat} {k:Nat} (hk:k < line.length):atI (line.map nI) (k:Int)=some (.int (line.getD k 0)):=kS hk
def DuR (h:aA) (b:Pb) (line:List Nat) (k:Nat) (st:List Int) (δ:DSt) (H:aA):Prop:=st.length=8/\H=h/\∃ u v,δ=[some (.d b.dat),some (.d (.list (line.map nI))),some (.d (.tuple (st.map .int))),u,v]
def cX2 (d:Nat) (h:aA) {b:Pb} (hb:b.ok) {line:List Nat} (hn:∀ x∈line,x < b.its.length) (hl:line.length<=1000):aD T (d+7) "_law_due" [.d b.dat,.d (.list (line.map nI))] h=some (gX b line,h):=by
 have er:fV 0 (line.length:Int)=true:=bP (by omega) (by omega);have en:fV 0 (b.its.length:Int)=true:=bP (by omega) (by have:=hb.il;omega);rw [show d+7=(d+6)+1 from rfl,wS];simp only [mV,nO];refine sq (.rt (.d (gX b line)),h) ?_ (by simp);refine sq (.nx [some (.d b.dat),some (.d (.list (line.map nI))),some (.d (.tuple (b.st.map .int))),none,none],h) (by simp [Pb.dat]) ?_;dsimp only;refine lpR (RnI (kT b line) line.length b.st (fun H=>H=h)) (RnR (kT b line) line.length b.st (DuR h b line)) ?_ ?_ ?_
 ·refine bR ((rng 0 line.length,none),h) (by simp [er]) ?_;refine vA (fE _) _ _ _ _ ⟨hb.st,rfl,_,_,rfl⟩ fun k hk st δ H r=>?_;obtain ⟨hst,rfl,u,v,rfl⟩:=r;have hx:=hn (line.getD k 0) (cU hk);have a1:=bK2 hk;have t1:=sC line k;refine ⟨[some (.d b.dat),some (.d (.list (line.map nI))),some (.d (.tuple (st.map .int))),some (.d (.int k)),v],H,rfl,?_⟩;unfold kT;generalize line.getD k 0=x at hx a1 ⊢;generalize line.take k=pl at t1 ⊢;have hx':b.its[x]?=some (b.its.getD x dfI):=by rw [List.getD_eq_getElem?_getD,List.getElem?_eq_getElem hx];rfl
  have hy:=hb.its _ (List.mem_of_getElem? hx');have a2:=aW1 (d+5) hb hx (aV2 H pl);have a3:=sB d H hx' hy hst;generalize b.its.getD x dfI=y at hy a3 ⊢
  by_cases hm:gD b pl x=true
  ·rw [if_pos hm];rw [hm] at a2;cases hb':bhO st y with
   | none =>
    rw [cK6 hb'] at a3;refine .inl ⟨_,H,?_,rfl,rfl⟩;simp [t1,a1,a2,a3,szl]
   | some s' =>
    rw [bK1 hb'] at a3;refine .inr ⟨s',[some (.d b.dat),some (.d (.list (line.map nI))),some (.d (.tuple (s'.map .int))),some (.d (.int k)),v],H,?_,rfl,xJ hy hst hb',rfl,_,_,rfl⟩;simp [t1,a1,a2,a3,szl]
  ·rw [if_neg hm];rw [show gD b pl x=false by simpa using hm] at a2;refine .inl ⟨_,H,?_,rfl,rfl⟩;simp [t1,a1,a2,szl]
 ·rintro z h2 ⟨e,rfl⟩;simp [gX,e]
 ·rintro s' δ2 h2 ⟨e,_,rfl,u,v,rfl⟩;dsimp only;have ed:gX b line=(match (aH3 b line).head? with
   | some x=>.tuple [.str (Str.ofString "missing"),.int x]
   | none=>.none):=by simp [gX,e]
  rw [ed];have ff:=fun (g:XG) (tb:XS) (all:List PyData)=>aF0 (g:=g) (tb:=tb) (all:=all) (h:=h2) nI (fun x=>if (dL b.its x&&!decide (x∈line))=true then some x else none) (fun x=>.d (.tuple [.str (Str.ofString "missing"),.int x])) (fun δ=>∃ v,δ=[some (.d b.dat),some (.d (.list (line.map nI))),some (.d (.tuple (s'.map .int))),u,v]) (List.range b.its.length) (δ:=[some (.d b.dat),some (.d (.list (line.map nI))),some (.d (.tuple (s'.map .int))),u,v]) ⟨_,rfl⟩;have em:(List.range b.its.length).findSome? (fun x=>if (dL b.its x&&!decide (x∈line))=true then some x else none)=(aH3 b line).head?:=vB _ _ _;rw [em] at ff;simp only [<- fE] at ff;refine lpO ((rng 0 b.its.length,none),h2) (by simp [Pb.dat,en]) (ff _ _ _ fun q hq δ i=>?_) ?_ ?_
  ·obtain ⟨v,rfl⟩:=i;have hq:=List.mem_range.mp hq;have e6:=nG hq;have mu:dL b.its q=decide (b.its[q].w="must"):=by simp [dL,hq]
   have hin:=aV2 h2 line q;refine ⟨[some (.d b.dat),some (.d (.list (line.map nI))),some (.d (.tuple (s'.map .int))),u,some (.d (.int q))],rfl,?_⟩;rw [mu]
   by_cases a1:b.its[q].w="must"
   ·by_cases a2:q∈line
    ·exact .inr ⟨by simp [a2],[some (.d b.dat),some (.d (.list (line.map nI))),some (.d (.tuple (s'.map .int))),u,some (.d (.int q))],by simp [Pb.dat,e6,It.dat,a1,a2,hin,PyData.eqv],_,rfl⟩
    ·exact .inl ⟨q,by simp [a1,a2],by simp [Pb.dat,e6,It.dat,a1,a2,hin,PyData.eqv,szl]⟩
   ·exact .inr ⟨by simp [a1],[some (.d b.dat),some (.d (.list (line.map nI))),some (.d (.tuple (s'.map .int))),u,some (.d (.int q))],by simp [Pb.dat,e6,It.dat,a1,PyData.eqv],_,rfl⟩
  ·intro x ex;rw [ex]
  ·rintro en' δ ⟨v,rfl⟩;rw [en'];rfl
def Wz.okp {h0 H:aA} {n t:Nat} {fs:List (Str×W)} {G:Nat->Nat->List PyData} (w:Wz h0 n fs t G H) (L:aA):okP h0 (H++L)/\(H++L).take h0.length=h0:=by
 have hl:=w.ln;refine ⟨fun i c hi e=>.inr (by rw [List.getElem?_append_left (by omega),w.sm i hi] at e;exact e),?_⟩;apply List.ext_getElem?;intro i
 by_cases hi:i < h0.length
 ·rw [List.getElem?_take_of_lt hi,List.getElem?_append_left (by omega)];exact w.sm i hi
 ·rw [List.getElem?_eq_none (by simp;omega),List.getElem?_eq_none (by omega)]
def aW2 (d:Nat) (h:aA) {b:Pb} (hb:b.ok):∃ H,callW T (d+14) "ways_of" [.d b.dat] h=some (.c h.length,H)/\Wd b h.length H/\∀ L,okP h (H++L)/\(H++L).take h.length=h:=by
 obtain ⟨H,e,w⟩:=cJ9 (d+11) hb h;refine ⟨H,?_,cW6 w,w.okp⟩;have e1:=bJ2 d h hb;have e2:xMk 289 (callI T (d+13) (Str.ofString "Ways")) [.d b.dat] h=some (.c h.length,H):=by
  unfold xMk;rw [show d+13=d+11+2 from rfl,e];rfl
 simp [wT,e1,e2]
def aH4 (d:Nat) {b:Pb} {j:Nat} {H:aA} {w1:W} {pl:List Nat} (w:Wd b j H) (hin:Inn H w1 pl):callM T (d+1) "missing" [.c j,w1] H=some (.d (.list ((aH3 b pl).map nI)),H):=by
 obtain ⟨a0,a1,a2,ho,_⟩:=w.ex;obtain ⟨f1,f2,f3,f4,f5,f6⟩:=bJ4;have lM:(F6 b a0 a1 a2).lookup (Str.ofString "musts")=some (.d (.list ((mus b.its).map nI))):=by simp [F6,List.lookup]
 rw [wU];simp [ho,f3,lM,aK];rw [dW (fun z=>match z with | .int k=>!decide (k.toNat∈pl) | _=>false) id (fun δ=>∃ u,δ=[u,some w1]) _ _ _ ⟨_,rfl⟩ (fun z hz δ ⟨u,e⟩=>by
  subst e;obtain ⟨k,hk,rfl⟩:=List.mem_map.mp hz;refine ⟨[some (.d (nI k)),some w1],rfl,⟨_,rfl⟩,?_,fun _=>by simp⟩;simp [nI,hin k])]
 simp;rw [List.filter_map];rfl
noncomputable def dcB (g:List (Nat×Bool)):Cell:=.k (g.map (cV .bool))
def bQ5 {H:aA} {i:Nat} {g:List (Nat×Bool)} {pl:List Nat} (e:H[i]?=some (dcB g)) (hk:∀ y,y∈g.map (·.1) ↔ y∈pl):Inn H (.c i) pl:=fun y=>by
 have:((g.map (cV PyData.bool)).any fun p=>decide (bA p.1=some (.inl (y:Int))))=decide (y∈pl):=by
  rw [Bool.eq_iff_iff,List.any_eq_true,decide_eq_true_eq,<- hk];constructor
  ·rintro ⟨p,hp,h⟩;obtain ⟨q,hq,rfl⟩:=List.mem_map.mp hp;have:=of_decide_eq_true h;rw [<- dM,nH] at this;exact List.mem_map.mpr ⟨q,hq,this⟩
  ·intro h;obtain ⟨q,hq,e⟩:=List.mem_map.mp h;refine ⟨_,List.mem_map.mpr ⟨q,hq,rfl⟩,decide_eq_true ?_⟩;rw [<- dM,nH];exact e
 unfold xIn;simp [ref,e,dcB,dM]
 simpa using this
def bK3 (g:List (Nat×Bool)) (k:Nat) (v:Bool) (y:Nat):y∈(gL g k v).map (·.1) ↔ y∈g.map (·.1)\/y=k:=by
 unfold gL;split
 ·rename_i h;have e:(g.map fun p=>if p.1=k then (p.1,v) else p).map (·.1)=g.map (·.1):=by
   rw [List.map_map];refine List.map_congr_left fun p _=>?_;simp only [Function.comp];split<;>rfl
  rw [e];constructor
  ·exact .inl
  ·rintro (h1 | rfl)
   ·exact h1
   ·obtain ⟨p,hp,e⟩:=List.any_eq_true.mp h;exact List.mem_map.mpr ⟨p,hp,by simpa using e⟩
 ·rw [List.map_append,List.mem_append];simp
theorem bools_map {α:Type} (p:α->Bool):∀ xs:List α,dP (xs.map fun z=>PyData.bool (p z))=some (xs.map p)
 | []=>rfl
 | x::r=>by
  rw [List.map_cons,dP,bools_map p r];rfl
def zH (z:PyData) (xs:List PyData):Prop:=z=.list xs\/z=.tuple xs
def zI (d:Nat) (h:aA) {z:PyData} {xs:List PyData} (hz:zH z xs) (n:Int):aD T (d+3) "are_numbers" [.d z,.d (.int n)] h=some (.bool (xs.all fun z=>bW z 0 (n - 1)),h):=by
 rcases hz with rfl | rfl <;>
 ·simp [iH,aK];rw [bY (fun z=>.bool (bW z 0 (n - 1))) 0 (fun _ _ _=>rfl) _ _ _ (fun z _ u=>by simp)];simp [bools_map]
def RfR (h H:aA) (b:Pb) (z:PyData) (line:List Nat) (k:Nat) (st:List Int) (δ:DSt) (H':aA):Prop:=st.length=8/\∃ g u v,δ=[some (.d b.dat),some (.d z),some (.c h.length),some (.c H.length),some (.d (.tuple (st.map .int))),u,v,none]/\H'=H++[dcB g]/\(∀ y,y∈g.map (·.1) ↔ y∈line.take k)/\g.length<=k
def RfE (H:aA) (H':aA):Prop:=∃ L,H'=H++L
def aH5 (line:List Nat):fJ (line.map nI)=(List.range line.length).map fun i=>.tuple [.int (i:Nat),.int (line.getD i 0)]:=by
 unfold fJ;rw [lO,List.length_map];refine List.map_congr_left fun i hi=>?_;have hi:=List.mem_range.mp hi;simp [hi,nI]
def sqL {β:Type} {x:Option (Fl×aA)} {f:Fl×aA->Option β} {R:Option β} {w:W} {H:aA} (e:∃ L,x=some (.rt w,H++L)) (k:∀ L,f (.rt w,H++L)=R):x.bind f=R:=by
 obtain ⟨L,e⟩:=e;rw [e];exact k L
def exL {α:Type} {x:Option α} {f:α->Option (Fl×aA)} {w:W} {H:aA} (a:α) (e:x=some a) (k:∃ L,f a=some (.rt w,H++L)):∃ L,x.bind f=some (.rt w,H++L):=by
 rw [e];exact k
def exR {σ:Type} {x:Option (Fl×aA)} {f:Fl×aA->Option (Fl×aA)} {w:W} {H:aA} (P1:PyData->aA->Prop) (P2:σ->DSt->aA->Prop) (e:OrE x P1 P2) (k1:∀ z h2,P1 z h2->∃ L,f (.rt (.d z),h2)=some (.rt w,H++L)) (k2:∀ s' δ2 h2,P2 s' δ2 h2->∃ L,f (.nx δ2,h2)=some (.rt w,H++L)):∃ L,x.bind f=some (.rt w,H++L):=by
 rcases e with ⟨z,h2,e,p⟩ | ⟨s',δ2,h2,e,p⟩
 ·rw [e];exact k1 z h2 p
 ·rw [e];exact k2 s' δ2 h2 p
def zJ (d:Nat) (h:aA) {b:Pb} (hb:b.ok) {line:List Nat} (hn:∀ x∈line,x < b.its.length) (hl:line.length<=1000) {z:PyData} (hz:zH z (line.map nI)):aD T (d+15) "row_fault" [.d b.dat,.d z] h=some (gX b line,h):=by
 obtain ⟨H,e,w,ho⟩:=aW2 d h hb;obtain ⟨f1,f2,f3,f4,f5,f6⟩:=bJ4;have en:(line.map nI).all (fun z=>bW z 0 (b.its.length - 1))=true:=by
  rw [List.all_eq_true];intro y hy;obtain ⟨x,hx,rfl⟩:=List.mem_map.mp hy;have:=hn x hx;simp [nI,bW,gJ];omega
 have e2:=zI (d+11) H hz b.its.length;rw [en] at e2;have e3:(isi z "list"||isi z "tuple")=true:=by rcases hz with rfl | rfl<;>simp [isi,fF]
 have e4:fU (.d z)=some (line.map nI):=by rcases hz with rfl | rfl<;>rfl
 obtain ⟨a0,a1,a2,hob,_⟩:=w.ex;have lF:(F6 b a0 a1 a2).lookup (Str.ofString "first")=some (.d (.tuple (b.st.map .int))):=by simp [F6,List.lookup]
 have lI:(F6 b a0 a1 a2).lookup (Str.ofString "listed")=some (.d (.tuple (b.its.map It.dat))):=by simp [F6,List.lookup]
 have l1:(F6 b a0 a1 a2).lookup (Str.ofString "may_follow")=none:=by simp [F6,List.lookup]
 have l2:(F6 b a0 a1 a2).lookup (Str.ofString "stand_behind")=none:=by simp [F6,List.lookup]
 have l3:(F6 b a0 a1 a2).lookup (Str.ofString "missing")=none:=by simp [F6,List.lookup]
 have hlt:h.length < H.length:=(List.getElem?_eq_some_iff.mp hob).1;have gr:∀ (c:Cell) (i:Nat) (c':Cell),H[i]?=some c'->(H++[c])[i]?=some c':=fun c i c' q=>by
  rw [List.getElem?_append_left (List.getElem?_eq_some_iff.mp q).1];exact q
 have hob':∀ c,(H++[c])[h.length]?=some (.o 289 (F6 b a0 a1 a2)):=fun c=>gr c _ _ hob;obtain ⟨F,eF⟩:∃ F,F=F6 b a0 a1 a2:=⟨_,rfl⟩;rw [<- eF] at lF lI l1 l2 l3 hob hob';rw [show d+15=(d+14)+1 from rfl,kQ];simp only [mV,nO];refine sqL (w:=.d (gX b line)) (H:=H) ?_ (fun L=>by simp [(ho L).1,(ho L).2]);refine exL (.nx [some (.d b.dat),some (.d z),some (.c h.length),none,none,none,none,none],H) (by simp [e]) ?_;dsimp only;refine exL (.nx [some (.d b.dat),some (.d z),some (.c h.length),none,none,none,none,none],H) (by simp [ref,e3,e2,Pb.dat]) ?_;dsimp only;refine exL (.nx [some (.d b.dat),some (.d z),some (.c h.length),some (.c H.length),none,none,none,none],H++[dcB []]) (by simp [tS,dcB]) ?_;dsimp only;refine exL (.nx [some (.d b.dat),some (.d z),some (.c h.length),some (.c H.length),some (.d (.tuple (b.st.map .int))),none,none,none],H++[dcB []]) (by simp [hob',f1,lF]) ?_;dsimp only;refine exR (RnI (kT b line) line.length b.st (RfE H)) (RnR (kT b line) line.length b.st (RfR h H b z line)) ?_ ?_ ?_
 ·refine bR ((fJ (line.map nI),none),H++[dcB []]) (by simp [e4]) ?_;refine vA (aH5 line) _ _ _ _ ⟨hb.st,[],_,_,rfl,rfl,by simp,by simp⟩ fun k hk st δ H' r=>?_;obtain ⟨hst,g,u,v,rfl,rfl,hg,hgl⟩:=r;have hx:=hn (line.getD k 0) (cU hk);have et:∀ y,y∈line.take (k+1) ↔ y∈line.take k\/y=line.getD k 0:=fun y=>by
   rw [List.take_add_one,List.getElem?_eq_getElem hk,List.mem_append];simp [hk]
  unfold kT;generalize line.getD k 0=x at hx et ⊢;generalize line.take k=pl at hg et ⊢;have gl:(H++[dcB g])[H.length]?=some (dcB g):=by simp
  have hin:=bQ5 gl hg;have w':=w.grow (gr (dcB g));have a1:=dM6 (d+13) w' hx hin;have hx':b.its[x]?=some (b.its.getD x dfI):=by rw [List.getD_eq_getElem?_getD,List.getElem?_eq_getElem hx];rfl
  have hy:=hb.its _ (List.mem_of_getElem? hx');have a2:=dM4 (d+8) (H++[dcB g]) hx' hy hst (hob' (dcB g)) lI;generalize b.its.getD x dfI=y at hy a2 ⊢;refine ⟨[some (.d b.dat),some (.d z),some (.c h.length),some (.c H.length),some (.d (.tuple (st.map .int))),some (.d (.int k)),some (.d (.int x)),none],H++[dcB g],by simp,?_⟩;have hob'':=hob' (dcB g)
  by_cases hm:gD b pl x=true
  ·rw [if_pos hm];rw [hm] at a1;cases hb':bhO st y with
   | none =>
    rw [cK6 hb'] at a2;refine .inl ⟨_,H++[dcB g],?_,rfl,_,rfl⟩;simp [hob'',l1,l2,a1,a2,szl]
   | some s' =>
    rw [bK1 hb'] at a2;refine .inr ⟨s',[some (.d b.dat),some (.d z),some (.c h.length),some (.c H.length),some (.d (.tuple (s'.map .int))),some (.d (.int k)),some (.d (.int x)),none],H++[dcB (gL g x true)],?_,rfl,xJ hy hst hb',gL g x true,_,_,rfl,rfl,fun y=>?_,?_⟩
    ·have gl':(H++[dcB g])[H.length]?=some (Cell.k (g.map (cV PyData.bool))):=gl;have hgl':g.length < 16777216:=by omega
     have pc:=aV6 PyData.bool g x true;have hs:(H++[dcB g]).set H.length (Cell.k (mF (g.map (cV PyData.bool)) (.int x) (.bool true)))=H++[dcB (gL g x true)]:=by rw [pc];simp [dcB]
     generalize H++[dcB g]=G at hob'' a1 a2 gl' hs;simp [hob'',l1,l2,a1,a2,szl,gl',hgl',dM,hs]
    ·rw [bK3,hg,et]
    ·have:=zC g x true;omega
  ·rw [if_neg hm];rw [show gD b pl x=false by simpa using hm] at a1;refine .inl ⟨_,H++[dcB g],?_,rfl,_,rfl⟩;simp [hob'',l1,a1,szl]
 ·rintro z' h2 ⟨er,L,rfl⟩;refine ⟨L,?_⟩;simp [gX,er]
 ·rintro s' δ2 h2 ⟨er,_,g,u,v,rfl,rfl,hg,_⟩;refine ⟨[dcB g],?_⟩;rw [List.take_length] at hg;have gl:(H++[dcB g])[H.length]?=some (dcB g):=by simp
  have a1:=aH4 (d+13) (w.grow (gr (dcB g))) (bQ5 gl hg);have hob'':=hob' (dcB g);have ed:gX b line=(match (aH3 b line).head? with
   | some x=>.tuple [.str (Str.ofString "missing"),.int x]
   | none=>.none):=by unfold gX;rw [er]<;>rfl
  rw [ed];cases hm:aH3 b line with
  | nil =>
   rw [hm] at a1;simp [hob'',l3,a1]
  | cons x r =>
   rw [hm] at a1;simp [hob'',l3,a1,szl,nI]
def cK7 (d:Nat) (h:aA) {b:Pb} (hb:b.ok) {z:PyData} (hz:(isi z "list"||isi z "tuple")=false\/∃ xs,zH z xs/\(xs.all fun z=>bW z 0 (b.its.length - 1))=false):aD T (d+15) "row_fault" [.d b.dat,.d z] h=some (.tuple [.str (Str.ofString "form")],h):=by
 obtain ⟨H,e,w,ho⟩:=aW2 d h hb;have ho':=ho [];rw [List.append_nil] at ho';rw [show d+15=(d+14)+1 from rfl,kQ];rcases hz with hz | ⟨xs,hz,hn⟩
 ·simp [e,ref,hz,szl,ho'.1,ho'.2]
 ·have e2:=zI (d+11) H hz b.its.length;rw [hn] at e2;have e3:(isi z "list"||isi z "tuple")=true:=by rcases hz with rfl | rfl<;>simp [isi,fF]
  simp only [mV,nO];refine sq (.rt (.d (.tuple [.str (Str.ofString "form")])),H) ?_ (by simp [ho'.1,ho'.2]);refine sq (.nx [some (.d b.dat),some (.d z),some (.c h.length),none,none,none,none,none],H) (by simp [e]) ?_;simp [ref,e3,e2,Pb.dat,szl]
def zK (l:List Nat) (h:aA):xEq (.d (.list (l.map nI))) (.d (.list [])) h=some (decide (l=[])):=by
 cases l with
 | nil=>simp [xEq,ref,PyData.eqv,PyData.eqvAll]
 | cons a r =>
  have:=aV0 (a::r) 63;simp [xEq,ref,PyData.eqv,PyData.eqvAll,nI] at this ⊢;exact this
def okL (n:Nat) (l:List Nat):Prop:=∀ x∈l,x < n
def LnI (h:aA) (i:Nat) (b:Pb) (sb:Bool) (m:Nat) (δ:DSt) (H:aA):Prop:=∃ (line:List Nat) (st:List Int) (s:S3) (u v:Option W),okL b.its.length line/\line.length<=m/\st.length=8/\δ=[some (.d b.dat),some (.c i),some (.c h.length),some (.d (.tuple (st.map .int))),some (.d (.bool sb)),u,v]/\H=(h++[Cell.l (line.map nI)]).set i (stL s)
def LnO (h:aA) (i:Nat) (b:Pb) (sb:Bool) (line:List Nat) (st:List Int) (s:S3) (u:Option W) (δ:DSt) (H:aA):Prop:=∃ op:List Nat,okL b.its.length op/\op.length<=120/\(sb=true->∀ x∈op,∃ s',bhO st (b.its.getD x dfI)=some s')/\δ=[some (.d b.dat),some (.c i),some (.c h.length),some (.d (.tuple (st.map .int))),some (.d (.bool sb)),u,some (.d (.list (op.map nI)))]/\H=(h++[Cell.l (line.map nI)]).set i (stL s)
def jO {b:Pb} {x:Nat} (hx:x < b.its.length):b.its[x]?=some (b.its.getD x dfI):=by rw [List.getD_eq_getElem?_getD,List.getElem?_eq_getElem hx];rfl
noncomputable def pIn (line:List Nat):PyData->Bool
 | .int k=>!decide (k.toNat∈line)
 | _=>false
open Classical in
noncomputable def aW3 (b:Pb) (line:List Nat) (st:List Int):PyData->Bool
 | .int k=>gD b line k.toNat&&(bhO st (b.its.getD k.toNat dfI)).isSome
 | _=>false
def LnE (h:aA) (i n:Nat) (x:Option (Fl×aA)):Prop:=∃ (line:List Nat) (s':S3),okL n line/\line.length<=n/\x=some (.rt (.c h.length),(h++[Cell.l (line.map nI)]).set i (stL s'))
def lnB {α:Type} {h:aA} {i n:Nat} {x:Option α} {f:α->Option (Fl×aA)} (a:α) (e:x=some a) (k:LnE h i n (f a)):LnE h i n (x.bind f):=by
 rw [e];exact k
def lnJ {h:aA} {i n:Nat} {x:Option (Fl×aA)} {f:Fl×aA->Option (Fl×aA)} (J:DSt->aA->Prop) (e:∃ δ' h',x=some (.nx δ',h')/\J δ' h') (k:∀ δ' h',J δ' h'->LnE h i n (f (.nx δ',h'))):LnE h i n (x.bind f):=by
 obtain ⟨δ',h',e,j⟩:=e;rw [e];exact k δ' h' j
def dN2 {h:aA} {i n:Nat} (hi:i < h.length) {c:Cell} {x:Option (Fl×aA)} (e:LnE h i n x):∃ line s',okL n line/\line.length<=n/\x.bind (ends (h.set i c))=some (.list (line.map nI),h.set i (stL s')):=by
 obtain ⟨line,s',h1,h2,h3⟩:=e;refine ⟨line,s',h1,h2,?_⟩;rw [h3,bs];unfold ends;rw [if_pos (by rw [yN s' hi];trivial)];dsimp only;rw [gl hi];simp [yO hi]
def cK8 (d:Nat) (h:aA) {i:Nat} {c:Cell} {s0:S3} (hc:Stf c s0) (hi:i < h.length) {b:Pb} (hb:b.ok):∃ line s',okL b.its.length line/\line.length<=b.its.length/\aD T (d+7) "_law_line" [.d b.dat,.c i] (h.set i c)=some (.list (line.map nI),h.set i (stL s')):=by
 have e4:aT 4=true:=by decide
 have hil:=hb.il;have en:fV 0 (b.its.length:Int)=true:=bP (by omega) (by omega);have hi':∀ c',i < (h++[c']).length:=fun c'=>by simp;omega
 have g0:=jK (d+5) (h++[Cell.l []]) hc 4 (hi' _) (by decide) e4;have sa:∀ (c:Cell) (L:aA),h.set i c++L=(h++L).set i c:=fun s L=>dF hi;obtain ⟨sb,esb⟩:∃ sb,sb=decide (0 < aI s0 4):=⟨_,rfl⟩;rw [show d+7=(d+6)+1 from rfl,uM];simp only [mV,nO];refine dN2 hi ?_;refine lnB (.nx [some (.d b.dat),some (.c i),some (.c h.length),none,none,none,none],(h++[Cell.l []]).set i c) (by simp [bZ,szl,sa]) ?_;dsimp only;refine lnB (.nx [some (.d b.dat),some (.c i),some (.c h.length),some (.d (.tuple (b.st.map .int))),none,none,none],(h++[Cell.l []]).set i c) (by simp [Pb.dat]) ?_;dsimp only;refine lnB (.nx [some (.d b.dat),some (.c i),some (.c h.length),some (.d (.tuple (b.st.map .int))),some (.d (.bool sb)),none,none],(h++[Cell.l []]).set i (stL (digS s0 4))) (by simp [g0,esb,cE,asW]) ?_;dsimp only;refine lnJ (LnI h i b sb b.its.length) ?_ ?_
 ·refine zE ((rng 0 b.its.length,none),(h++[Cell.l []]).set i (stL (digS s0 4))) (by simp [Pb.dat,en]) ?_;dsimp only;refine dG (LnI h i b sb) ⟨[],b.st,_,_,_,(fun _ z=>nomatch z),Nat.zero_le _,hb.st,rfl,rfl⟩ (fun δ h'=>by rw [CI.rng_len];exact id) fun m hm δ H r=>?_;obtain ⟨line,st,s,u,v,hl,hll,hst,rfl,rfl⟩:=r;have hm':m < b.its.length:=by simpa [rng] using hm
  refine ⟨[some (.d b.dat),some (.c i),some (.c h.length),some (.d (.tuple (st.map .int))),some (.d (.bool sb)),some (.d (rng 0 b.its.length)[m]),v],_,rfl,?_⟩;generalize (rng 0 b.its.length)[m]=um;have gl1:=gl hi (line.map nI) s;have hin:=cW5 gl1;obtain ⟨G,eG⟩:∃ G,G=(h++[Cell.l (line.map nI)]).set i (stL s):=⟨_,rfl⟩;rw [<- eG] at gl1 hin ⊢;refine bO [some (.d b.dat),some (.c i),some (.c h.length),some (.d (.tuple (st.map .int))),some (.d (.bool sb)),some (.d um),some (.d (.list (((List.range b.its.length).filter fun k=>!decide (k∈line)).map nI)))] G ?_ ?_
  ·simp [Pb.dat,en,aK];rw [dW (pIn line) id (fun δ=>∃ a,δ=[a,some (.c h.length)]) _ _ _ ⟨_,rfl⟩ (fun z hz δ ⟨a,e⟩=>by
    subst e;rw [fE] at hz;obtain ⟨k,hk,rfl⟩:=List.mem_map.mp hz;exact ⟨[some (.d (nI k)),_],rfl,⟨_,rfl⟩,by simp [nI,pIn,hin k],fun _=>by simp⟩)]
   rw [List.nil_append,rX (pIn line) (fun k=>!decide (k∈line)) b.its.length (fun k _=>by simp [pIn,nI])];simp
  dsimp only;have ho:okL b.its.length ((List.range b.its.length).filter fun k=>!decide (k∈line)):=fun x hx=>List.mem_range.mp (List.mem_filter.mp hx).1;have hol:((List.range b.its.length).filter fun k=>!decide (k∈line)).length<=120:=by
   have:=List.length_filter_le (fun k=>!decide (k∈line)) (List.range b.its.length);rw [List.length_range] at this;omega
  generalize (List.range b.its.length).filter (fun k=>!decide (k∈line))=op at ho hol;refine cP (LnO h i b sb line st s (some (.d um))) ?_ ?_
  ·cases hsb:sb with
   | false=>exact ⟨_,_,by simp,op,ho,hol,(fun z=>nomatch z),rfl,eG⟩
   | true =>
    simp [aK];rw [dW (aW3 b line st) id (fun δ=>∃ a,δ=[a,some (.c h.length),some (.d b.dat),some (.d (.tuple (st.map .int)))]) _ _ _ ⟨_,rfl⟩ (fun z hz δ ⟨a,e⟩=>by
     subst e;obtain ⟨k,hk,rfl⟩:=List.mem_map.mp hz;have hx:=ho k hk;have a1:=aW1 (d+5) hb hx hin;have a2:=sB d G (jO hx) (hb.its _ (List.mem_of_getElem? (jO hx))) hst;refine ⟨[some (.d (nI k)),_,_,_],rfl,⟨_,rfl⟩,?_,fun _=>by simp⟩;unfold aW3;cases hm:gD b line k
     ·rw [hm] at a1;simp [nI,a1,hm]
     ·rw [hm] at a1;cases hq:bhO st (b.its.getD k dfI) with
      | none =>
       rw [cK6 hq] at a2;simp [nI,a1,a2,hm]
       simpa using hq
      | some s' =>
       rw [bK1 hq] at a2;simp [nI,a1,a2,hm];rw [List.getD_eq_getElem?_getD] at hq;simp [hq])]
    rw [List.nil_append,List.map_id,List.filter_map];refine ⟨_,_,rfl,op.filter (aW3 b line st ∘ nI),fun x hx=>ho x (List.mem_filter.mp hx).1,?_,fun _ x hx=>?_,rfl,eG⟩
    ·have:=List.length_filter_le (aW3 b line st ∘ nI) op;omega
    ·have h1:=(List.mem_filter.mp hx).2;simp only [Function.comp,nI,aW3,Int.toNat_natCast,Bool.and_eq_true] at h1;exact Option.isSome_iff_exists.mp h1.2
  rintro δ' H' ⟨op2,ho2,hol2,hs2,rfl,rfl⟩;dsimp only
  by_cases he:op2=[]
  ·subst he;have q:=zK [] ((h++[Cell.l (line.map nI)]).set i (stL s));refine ⟨[some (.d b.dat),some (.c i),some (.c h.length),some (.d (.tuple (st.map .int))),some (.d (.bool sb)),some (.d um),some (.d (.list []))],(h++[Cell.l (line.map nI)]).set i (stL s),?_,line,st,s,_,_,hl,by omega,hst,rfl,rfl⟩;simp at q;simp [aK,szl,q]
  have hlo:(0:Int) < op2.length:=by
   cases op2 with
   | nil=>exact absurd rfl he
   | cons a r=>simp
  obtain ⟨j,ej,hj⟩:=aW s (b:=op2.length) hlo;have hj':j < op2.length:=by omega
  have g1:=cB (d+5) (h++[Cell.l (line.map nI)]) s op2.length (hi' _) hlo (cG hlo (by omega));rw [ej] at g1;have a1:=kS (l:=op2) hj';have hx:=cU (l:=op2) hj';generalize op2.getD j 0=x at a1 hx;have q:=zK op2 ((h++[Cell.l (line.map nI)]).set i (stL s));rw [decide_eq_false he] at q;have p1:=gm hi (line.map nI) s;have p2':=gl hi (line.map nI) (digS s op2.length);have p3:=gs hi (line.map nI) ((line++[x]).map nI) (digS s op2.length);have ll:line.length < 16777216:=by omega
  have hxn:=ho2 x hx;have hl2:okL b.its.length (line++[x]):=fun y hy=>by
   rcases List.mem_append.mp hy with hy | hy
   ·exact hl y hy
   ·rw [List.mem_singleton.mp hy];exact hxn
  have hll2:(line++[x]).length<=m+1:=by simp;omega
  have p4:=gl hi ((line++[x]).map nI) (digS s op2.length);have p5:xIx (.c h.length) (.d (.int (-1))) ((h++[Cell.l ((line++[x]).map nI)]).set i (stL (digS s op2.length)))=some (.d (.int x),(h++[Cell.l ((line++[x]).map nI)]).set i (stL (digS s op2.length))):=by
   unfold xIx ref;dsimp only;rw [p4];dsimp only;rw [List.map_append,List.map_singleton,aU0];rfl
  generalize (h++[Cell.l (line.map nI)]).set i (stL s)=G1 at q g1 p1;generalize (h++[Cell.l (line.map nI)]).set i (stL (digS s op2.length))=G2 at g1 p2' p3;obtain ⟨G3,eG3⟩:∃ G3,G3=(h++[Cell.l ((line++[x]).map nI)]).set i (stL (digS s op2.length)):=⟨_,rfl⟩;rw [<- eG3] at p3 p5;rw [List.map_append] at p3;have p3':G2.set h.length (.l (line.map nI++[.int x]))=G3:=p3;cases hsb:sb with
  | false =>
   refine ⟨[some (.d b.dat),some (.c i),some (.c h.length),some (.d (.tuple (st.map .int))),some (.d (.bool false)),some (.d um),some (.d (.list (op2.map nI)))],G3,?_,line++[x],st,digS s op2.length,_,_,hl2,hll2,hst,rfl,eG3⟩;simp [aK,szl,q,p1,g1,a1,p2',p3',ll]
  | true =>
   obtain ⟨s',e'⟩:=hs2 hsb x hx;have a3:=sB d G3 (jO hxn) (hb.its _ (List.mem_of_getElem? (jO hxn))) hst;rw [bK1 e'] at a3;refine ⟨[some (.d b.dat),some (.c i),some (.c h.length),some (.d (.tuple (s'.map .int))),some (.d (.bool true)),some (.d um),some (.d (.list (op2.map nI)))],G3,?_,line++[x],s',digS s op2.length,_,_,hl2,hll2,xJ (hb.its _ (List.mem_of_getElem? (jO hxn))) hst e',rfl,eG3⟩;simp [aK,szl,q,p1,g1,a1,p2',p3',ll,p5,a3]
 ·rintro δ H ⟨line,st,s,u,v,hl,hll,hst,rfl,rfl⟩;exact ⟨line,s,hl,hll,rfl⟩
def zL (line:List Nat) (k:Nat):cut (line.map nI) (some (k:Int)) none=(line.drop k).map nI:=by
 unfold cut;rw [HT.sIx_nat,HT.sIx_none,List.length_map,<- List.map_drop];rw [List.take_of_length_le (by simp)]
 congr 1
 by_cases h:k<=line.length
 ·rw [Nat.min_eq_left h]
 ·rw [Nat.min_eq_right (by omega),List.drop_eq_nil_of_le (by omega),List.drop_eq_nil_of_le (by omega)]
def gE {n:Nat} {a c:List Nat} (ha:okL n a) (hc:okL n c):okL n (a++c):=fun x hx=>by
 rcases List.mem_append.mp hx with h | h
 ·exact ha x h
 ·exact hc x h
def vC {n:Nat} {a:List Nat} (ha:okL n a) (k:Nat):okL n (a.take k):=fun x hx=>ha x (List.mem_of_mem_take hx)
def vD {n:Nat} {a:List Nat} (ha:okL n a) (k:Nat):okL n (a.drop k):=fun x hx=>ha x (List.mem_of_mem_drop hx)
def sD {n x:Nat} (h:x < n):okL n [x]:=fun y hy=>by rw [List.mem_singleton.mp hy];exact h
def BtE (h:aA) (i n:Nat) (x:Option (Fl×aA)):Prop:=∃ (line:List Nat) (s':S3),okL n line/\line.length<=500/\x=some (.rt (.d (.list (line.map nI))),h.set i (stL s'))
def btB {α:Type} {h:aA} {i n:Nat} {x:Option α} {f:α->Option (Fl×aA)} (a:α) (e:x=some a) (k:BtE h i n (f a)):BtE h i n (x.bind f):=by
 rw [e];exact k
def cX3 {h:aA} {i n:Nat} {c:Cell} {x:Option (Fl×aA)} (e:BtE h i n x):∃ line s',okL n line/\line.length<=500/\x.bind (ends (h.set i c))=some (.list (line.map nI),h.set i (stL s')):=by
 obtain ⟨line,s',h1,h2,h3⟩:=e;refine ⟨line,s',h1,h2,?_⟩;rw [h3];simp
def cK9 (d:Nat) (h:aA) {i:Nat} (s:S3) (hi:i < h.length) {n:Nat} (hn:n<=120) {line:List Nat} (hl:okL n line) (hll:line.length<=n):∃ line' s',okL n line'/\line'.length<=500/\aD T (d+2) "_law_bent" [.d (.list (line.map nI)),.c i,.d (.int n)] (h.set i (stL s))=some (.list (line'.map nI),h.set i (stL s')):=by
 have e9:aT 9=true:=by decide
 have er:fV 0 (n:Int)=true:=bP (by omega) (by omega);have g1:=cB d h s 9 hi (by decide) e9;have l1:(0:Int) < line.length+1:=by omega
 have g2:=cB d h (digS s 9) (line.length+1) hi l1 (cG l1 (by omega));obtain ⟨a,ea,ha⟩:=aW (digS s 9) (b:=line.length+1) l1;rw [ea] at g2;obtain ⟨w,ew⟩:∃ w,w=aI s 9:=⟨_,rfl⟩;rw [<- ew] at g1;generalize digS (digS s 9) (line.length+1)=s2 at g2;have t1:=sC line a;have t2:=zL line a;have t3:=zL line (a+1);rw [show ((a+1:Nat):Int)=(a:Int)+1 by omega] at t3;have z1:(line.take a).length<=120:=by rw [List.length_take];omega
 have z2:(line.drop a).length<=120:=by rw [List.length_drop];omega
 have z3:(line.drop (a+1)).length<=120:=by rw [List.length_drop];omega
 have o1:=vC hl a;have o2:=vD hl a;have o3:=vD hl (a+1);have q:=zK line (h.set i (stL s2));have hin:=aV2 (h.set i (stL s2)) line;rw [show d+2=(d+1)+1 from rfl,uN];simp only [mV,nO];refine cX3 ?_;refine btB (.nx [some (.d (.list (line.map nI))),some (.c i),some (.d (.int n)),some (.d (.int w)),none,none],h.set i (stL (digS s 9))) (by simp [g1]) ?_;dsimp only;refine btB (.nx [some (.d (.list (line.map nI))),some (.c i),some (.d (.int n)),some (.d (.int w)),some (.d (.int a)),none],h.set i (stL s2)) (by simp [g2]) ?_;dsimp only
 by_cases w0:w=0
 ·refine ⟨line.take a++line.drop (a+1),s2,gE o1 o3,by simp;omega,?_⟩;generalize line.take a=A at *;generalize line.drop (a+1)=B at *;have zz:A.length+B.length<=16777216:=by omega
  simp [w0,t1,t3,szl,zz]
 refine btB (.nx [some (.d (.list (line.map nI))),some (.c i),some (.d (.int n)),some (.d (.int w)),some (.d (.int a)),none],h.set i (stL s2)) (by simp [w0]) ?_;dsimp only
 by_cases w1:w=1/\line≠[]
 ·have hlo:(0:Int) < line.length:=by
   cases line with
   | nil=>exact absurd rfl w1.2
   | cons a r=>simp
  obtain ⟨j,ej,hj⟩:=aW s2 (b:=line.length) hlo;have hj':j < line.length:=by omega
  have g3:=cB d h s2 line.length hi hlo (cG hlo (by omega));rw [ej] at g3;have a1:=kS (l:=line) hj';have hx:=hl _ (cU (l:=line) hj');generalize line.getD j 0=x at a1 hx;refine ⟨line.take a++[x]++line.drop a,digS s2 line.length,gE (gE o1 (sD hx)) o2,by simp;omega,?_⟩;rw [decide_eq_false w1.2] at q;generalize line.take a=A at *;generalize line.drop a=B at *;have z4:A.length+1<=16777216:=by omega
  have z5:A.length+1+B.length<=16777216:=by omega
  have z6:A.length+(B.length+1)<=16777216:=by omega
  simp [w1.1,q,t1,t2,szl,aK,g3,a1,z4,z5,z6,nI]
 refine btB (.nx [some (.d (.list (line.map nI))),some (.c i),some (.d (.int n)),some (.d (.int w)),some (.d (.int a)),none],h.set i (stL s2)) (by
  by_cases k1:w=1
  ·have k2:line=[]:=Classical.byContradiction fun z=>w1 ⟨k1,z⟩;rw [decide_eq_true k2] at q;simp [k1,q,aK,szl]
  ·simp [k1]) ?_
 dsimp only;have ho:okL n ((List.range n).filter fun k=>!decide (k∈line)):=fun x hx=>List.mem_range.mp (List.mem_filter.mp hx).1;have hol:((List.range n).filter fun k=>!decide (k∈line)).length<=120:=by
  have:=List.length_filter_le (fun k=>!decide (k∈line)) (List.range n);rw [List.length_range] at this;omega
 refine btB (.nx [some (.d (.list (line.map nI))),some (.c i),some (.d (.int n)),some (.d (.int w)),some (.d (.int a)),some (.d (.list (((List.range n).filter fun k=>!decide (k∈line)).map nI)))],h.set i (stL s2)) ?_ ?_
 ·simp [er,aK];rw [dW (pIn line) id (fun δ=>∃ a,δ=[a,some (.d (.list (line.map nI)))]) _ _ _ ⟨_,rfl⟩ (fun z hz δ ⟨a,e⟩=>by
   subst e;rw [fE] at hz;obtain ⟨k,hk,rfl⟩:=List.mem_map.mp hz;exact ⟨[some (.d (nI k)),_],rfl,⟨_,rfl⟩,by simp [nI,pIn,hin k],fun _=>by simp⟩)]
  rw [List.nil_append,rX (pIn line) (fun k=>!decide (k∈line)) n (fun k _=>by simp [pIn,nI])];simp
 dsimp only;generalize (List.range n).filter (fun k=>!decide (k∈line))=op at ho hol;have q2:=zK op (h.set i (stL s2))
 by_cases w3:w=3/\op≠[]
 ·have hlo:(0:Int) < op.length:=by
   cases op with
   | nil=>exact absurd rfl w3.2
   | cons a r=>simp
  obtain ⟨j,ej,hj⟩:=aW s2 (b:=op.length) hlo;have hj':j < op.length:=by omega
  have g3:=cB d h s2 op.length hi hlo (cG hlo (by omega));rw [ej] at g3;have a1:=kS (l:=op) hj';have hx:=ho _ (cU (l:=op) hj');generalize op.getD j 0=x at a1 hx;refine ⟨line.take a++[x]++line.drop a,digS s2 op.length,gE (gE o1 (sD hx)) o2,by simp;omega,?_⟩;rw [decide_eq_false w3.2] at q2;generalize line.take a=A at *;generalize line.drop a=B at *;have z4:A.length+1<=16777216:=by omega
  have z5:A.length+1+B.length<=16777216:=by omega
  have z6:A.length+(B.length+1)<=16777216:=by omega
  simp [w3.1,q2,t1,t2,szl,aK,g3,a1,z4,z5,z6,nI]
 refine btB (.nx [some (.d (.list (line.map nI))),some (.c i),some (.d (.int n)),some (.d (.int w)),some (.d (.int a)),some (.d (.list (op.map nI)))],h.set i (stL s2)) (by
  by_cases k1:w=3
  ·have k2:op=[]:=Classical.byContradiction fun z=>w3 ⟨k1,z⟩;rw [decide_eq_true k2] at q2;simp [k1,q2,aK,szl]
  ·simp [k1]) ?_
 dsimp only
 by_cases w2:w=2/\0 < a
 ·have hj':a - 1 < line.length:=by omega
  have t4:=sC line (a - 1);rw [show ((a - 1:Nat):Int)=(a:Int) - 1 by omega] at t4;have a1:=kS (l:=line) hj';rw [show ((a - 1:Nat):Int)=(a:Int) - 1 by omega] at a1;have hx:=hl _ (cU (l:=line) hj');generalize line.getD (a - 1) 0=x at a1 hx;have o4:=vC hl (a - 1);have z7:(line.take (a - 1)).length<=120:=by rw [List.length_take];omega
  refine ⟨line.take (a - 1)++line.drop a++[x],s2,gE (gE o4 o2) (sD hx),by simp;omega,?_⟩;generalize line.take (a - 1)=A at *;generalize line.drop a=B at *;have z4:A.length+B.length<=16777216:=by omega
  have z5:A.length+B.length+1<=16777216:=by omega
  have z6:A.length+(B.length+1)<=16777216:=by omega
  have a0:(0:Int) < a:=by omega
  simp [w2.1,a0,w2.2,t4,t2,szl,aK,a1,z4,z5,z6,nI]
 refine btB (.nx [some (.d (.list (line.map nI))),some (.c i),some (.d (.int n)),some (.d (.int w)),some (.d (.int a)),some (.d (.list (op.map nI)))],h.set i (stL s2)) (by
  by_cases k1:w=2
  ·have k2:¬ 0 < a:=fun z=>w2 ⟨k1,z⟩;have k3:¬ (0:Int) < a:=by omega
   simp [k1,k2,k3]
  ·simp [k1]) ?_
 exact ⟨line,s2,hl,by omega,rfl⟩
def aW4 (ns:List Int) (a b:Nat):∃ qs:List Int,cut (ns.map PyData.int) (some (a:Int)) (some (b:Int))=qs.map .int/\qs.length<=b:=by
 unfold cut;rw [HT.sIx_nat,HT.sIx_nat,<- List.map_drop,<- List.map_take];exact ⟨_,rfl,by rw [List.length_take];omega⟩
def At (I:DSt->Prop) (H:aA) (δ:DSt) (H':aA):Prop:=I δ/\H'=H
theorem qB {g:XG} {tb:XS} {c:Option Nat} {all:List PyData} {H:aA} (hc:CI.condB c all H=true) (I:DSt->Prop) {P:DSt->aA->Prop} (hP:∀ δ,I δ->P δ H):∀ (rest:List PyData) (δ:DSt),I δ ->
  (∀ x∈rest,∀ δ,I δ->∃ δ1,g (.d x) δ H=some (δ1,H)/\∃ δ2 h2,tb δ1 H=some (.nx δ2,h2)/\At I H δ2 h2)->∃ δ' h',bC g tb c all rest δ H=some (.nx δ',h')/\P δ' h'
 | [],δ,i,_=>⟨δ,H,by rw [bC,if_pos hc],hP δ i⟩
 | x::r,δ,i,ht=>by
  obtain ⟨δ1,e1,δ2,h2,e2,i2,rfl⟩:=ht x List.mem_cons_self δ i;obtain ⟨δ3,h3,e3,i3⟩:=qB hc I hP r δ2 i2 fun y hy=>ht y (List.mem_cons_of_mem _ hy);refine ⟨δ3,h3,?_,i3⟩;rw [bC,if_pos hc,e1];simp only [bs,e2];exact e3
def er1 {α:Type} {x:Option α} {f:α->Option (Fl×aA)} {z:W} (a:α) (e:x=some a) (k:∃ H,f a=some (Fl.rt z,H)):∃ H,x.bind f=some (Fl.rt z,H):=by
 rw [e];exact k
def erE {x:Option (Fl×aA)} {f:Fl×aA->Option (Fl×aA)} {z:W} (J:DSt->aA->Prop) (e:∃ δ' h',x=some (.nx δ',h')/\J δ' h') (k:∀ δ' h',J δ' h'->∃ H,f (.nx δ',h')=some (Fl.rt z,H)):∃ H,x.bind f=some (Fl.rt z,H):=by
 obtain ⟨δ',h',e,j⟩:=e;rw [e];exact k δ' h' j
def dN3 {x:Option (Fl×aA)} (e:∃ H,x=some (Fl.rt (.d (.bool true)),H)):∃ h',x.bind (ends [])=some (.bool true,h'):=by
 obtain ⟨H,e⟩:=e;refine ⟨[],?_⟩;rw [e,bs,cI3,if_pos]
 ·rfl
 ·exact fun i c hi=>absurd hi (by simp)
def tok (z:PyData):Prop:=z=.none\/∃ (w:String) (k:Nat),z=.tuple [.str (Str.ofString w),.int k]
theorem zM {σ:Type} {f:Nat->σ->PyData ⊕ σ} (hf:∀ k s z,f k s=.inl z->tok z):∀ (m k:Nat) (s:σ) (z:PyData),nV f m k s=.inl z->tok z
 | 0,k,s,z,e=>nomatch e
 | m+1,k,s,z,e=>by
  unfold nV at e;split at e
  ·rename_i z' e';cases e;exact hf k s _ e'
  ·exact zM hf m _ _ z e
def bK4 (b:Pb) (line:List Nat):tok (gX b line):=by
 unfold gX;split
 ·rename_i z e;refine zM (fun k s z e=>?_) _ _ _ z e;unfold kT at e;split at e
  ·split at e
   ·cases e
   ·cases e;exact .inr ⟨_,_,rfl⟩
  ·cases e;exact .inr ⟨_,_,rfl⟩
 ·split
  ·exact .inr ⟨_,_,rfl⟩
  ·exact .inl rfl
def cL0 {z:PyData} (hz:tok z) (h:aA):xEq (.d z) (.d z) h=some true:=by
 rcases hz with rfl | ⟨w,k,rfl⟩
 ·simp [xEq,ref,PyData.eqv]
 ·simp [xEq,ref,PyData.eqv,PyData.eqvAll]
def LJ (ns:List Int) (gr:Bool) (b:Pb) (δ:DSt) (H:aA):Prop:=∃ (x4 x5 x6 x7 x8:Option W),δ=[some (.d (.list (ns.map .int))),some (.d (.bool gr)),some (.d b.dat),some (.d (.int b.its.length)),x4,x5,x6,x7,x8]
def cL1 (ns:List Int) (d:Nat):∃ h',aD T (d+16) "law" [.d (.list (ns.map .int))] []=some (.bool true,h'):=by
 obtain ⟨c0,ec⟩:∃ c0,c0=ns.head?.getD 0:=⟨_,rfl⟩;have g0:=bI2 (d+14) [] ns;rw [<- ec] at g0;obtain ⟨gr,eg⟩:∃ gr,gr=decide (c0%8=7):=⟨_,rfl⟩;obtain ⟨m,em,hm⟩:∃ m:Nat,atI [PyData.int 7,.int 60] (if gr=true then 1 else 0)=some (.int m)/\m<=120:=by
  cases gr
  ·exact ⟨7,by simp,by decide⟩
  ·exact ⟨60,by simp,by decide⟩
 obtain ⟨q,eq,hq⟩:∃ q:Nat,atI [PyData.int 11,.int 2] (if gr=true then 1 else 0)=some (.int q)/\q<=11:=by
  cases gr
  ·exact ⟨11,by simp,by decide⟩
  ·exact ⟨2,by simp,by decide⟩
 have hb:=cK5 (c0 / 8) hm;have g1:=aH2 (d+8) [] (c0 / 8) hm;generalize pbF (c0 / 8) m=b at hb g1;have hil:=hb.il;have d8:aT 8=true:=by decide
 rw [show d+16=(d+15)+1 from rfl,cW1];simp only [mV,nO];refine dN3 ?_;refine er1 (.nx [some (.d (.list (ns.map .int))),some (.d (.bool gr)),none,none,none,none,none,none,none],[]) (by simp [g0,eg,cE,asW]) ?_;dsimp only;refine er1 (.nx [some (.d (.list (ns.map .int))),some (.d (.bool gr)),some (.d b.dat),none,none,none,none,none,none],[]) (by simp [g0,d8,aK,szl,em,g1]) ?_;dsimp only;refine er1 (.nx [some (.d (.list (ns.map .int))),some (.d (.bool gr)),some (.d b.dat),some (.d (.int b.its.length)),none,none,none,none,none],[]) (by simp [Pb.dat]) ?_;dsimp only;obtain ⟨qs,eqs,ql⟩:=aW4 ns 1 q;rw [show ((1:Nat):Int)=1 from rfl] at eqs;refine erE (LJ ns gr b) ?_ ?_
 ·refine zE ((qs.map .int,none),[]) (by simp [aK,szl,eq,eqs]) ?_;dsimp only;refine aE9 (LJ ns gr b) _ ?_ _ _ ⟨_,_,_,_,_,rfl⟩;rintro x hx δ H ⟨x4,x5,x6,x7,x8,rfl⟩;obtain ⟨c,hc,rfl⟩:=List.mem_map.mp hx;refine ⟨[some (.d (.list (ns.map .int))),some (.d (.bool gr)),some (.d b.dat),some (.d (.int b.its.length)),some (.d (.int c)),x5,x6,x7,x8],H,rfl,?_⟩;have hi:H.length < (H++[Cell.l []]).length:=by simp
  have as:∀ c,H++[c]=(H++[Cell.l []]).set H.length c:=fun c=>zG H c _;obtain ⟨G,eG⟩:∃ G,G=H++[Cell.l []]:=⟨_,rfl⟩;rw [<- eG] at hi as;refine bO [some (.d (.list (ns.map .int))),some (.d (.bool gr)),some (.d b.dat),some (.d (.int b.its.length)),some (.d (.int c)),some (.c H.length),x6,x7,x8] (G.set H.length (.l [.int c])) (by simp [bZ,szl,<- as]) ?_;dsimp only;obtain ⟨line0,s1,h1,h2,h3⟩:=cK8 (d+8) G (c:=.l [.int c]) (s0:=st0 c) (.inr ⟨c,rfl,rfl⟩) hi hb;obtain ⟨line,s2,h4,h5,h6⟩:=cK9 (d+13) G s1 hi hil h1 h2;refine bO [some (.d (.list (ns.map .int))),some (.d (.bool gr)),some (.d b.dat),some (.d (.int b.its.length)),some (.d (.int c)),some (.c H.length),some (.d (.list (line.map nI))),x7,x8] (G.set H.length (stL s2)) (by simp [h3,h6]) ?_;dsimp only;generalize G.set H.length (stL s2)=K;have h7:=cX2 (d+8) K hb h4 (by omega);refine bO [some (.d (.list (ns.map .int))),some (.d (.bool gr)),some (.d b.dat),some (.d (.int b.its.length)),some (.d (.int c)),some (.c H.length),some (.d (.list (line.map nI))),some (.d (gX b line)),x8] K (by simp [h7]) ?_;dsimp only;have h8:=zJ d K hb h4 (by omega) (z:=.list (line.map nI)) (.inl rfl);have h9:=zJ d K hb h4 (by omega) (z:=.tuple (line.map nI)) (.inr rfl);have h10:=cL0 (bK4 b line) K;refine bO [some (.d (.list (ns.map .int))),some (.d (.bool gr)),some (.d b.dat),some (.d (.int b.its.length)),some (.d (.int c)),some (.c H.length),some (.d (.list (line.map nI))),some (.d (gX b line)),x8] K (by simp [h8,h9,h10]) ?_;dsimp only;refine cP (LJ ns gr b) ?_ (fun δ h j=>⟨δ,h,rfl,j⟩);have ll:line.length+1<=16777216:=by omega
  have ll2:1+line.length<=16777216:=by omega
  refine zE (([.list (line.map nI++[.int b.its.length]),.list ([.int (-1)]++line.map nI),.list (line.map nI++[.bool true]),.list (line.map nI++[.none]),.str (Str.ofString "row"),.none,.int 0],none),K) (by simp [aK,szl,ll,ll2]) ?_;dsimp only;refine qB (P:=LJ ns gr b) (c:=none) rfl (fun δ=>∃ x8,δ=[some (.d (.list (ns.map .int))),some (.d (.bool gr)),some (.d b.dat),some (.d (.int b.its.length)),some (.d (.int c)),some (.c H.length),some (.d (.list (line.map nI))),some (.d (gX b line)),x8]) (fun δ i=>?_) _ _ ⟨_,rfl⟩ fun x hx δ i=>?_
  ·obtain ⟨x8,rfl⟩:=i;exact ⟨_,_,_,_,_,rfl⟩
  obtain ⟨x8,rfl⟩:=i;have hf:(isi x "list"||isi x "tuple")=false\/∃ xs,zH x xs/\(xs.all fun z=>bW z 0 (b.its.length - 1))=false:=by
   simp only [List.mem_cons,List.not_mem_nil,or_false] at hx;rcases hx with rfl | rfl | rfl | rfl | rfl | rfl | rfl
   ·exact .inr ⟨_,.inl rfl,by simp [List.all_append,bW];intro _;omega⟩
   ·exact .inr ⟨_,.inl rfl,by simp [List.all_append,bW]⟩
   ·exact .inr ⟨_,.inl rfl,by simp [List.all_append,bW]⟩
   ·exact .inr ⟨_,.inl rfl,by simp [List.all_append,bW]⟩
   ·exact .inl (by simp [isi,fF])
   ·exact .inl (by simp [isi,fF])
   ·exact .inl (by simp [isi,fF])
  have h11:=cK7 d K hb hf;have h12:xEq (.d (.tuple [.str (Str.ofString "form")])) (.d (.tuple [.str (Str.ofString "form")])) K=some true:=by simp [xEq,ref,PyData.eqv,PyData.eqvAll]
  refine ⟨[some (.d (.list (ns.map .int))),some (.d (.bool gr)),some (.d b.dat),some (.d (.int b.its.length)),some (.d (.int c)),some (.c H.length),some (.d (.list (line.map nI))),some (.d (gX b line)),some (.d x)],rfl,[some (.d (.list (ns.map .int))),some (.d (.bool gr)),some (.d b.dat),some (.d (.int b.its.length)),some (.d (.int c)),some (.c H.length),some (.d (.list (line.map nI))),some (.d (gX b line)),some (.d x)],K,?_,⟨_,rfl⟩,rfl⟩;simp [h11,h12,szl]
 ·rintro δ H ⟨x4,x5,x6,x7,x8,rfl⟩;exact ⟨_,rfl⟩
end K16
set_option maxHeartbeats 4000000
namespace K16
open PySem PySem.Spec PyProof.Rows L2 DL CI
noncomputable def top (k:Nat):Stmt:=PySem.Challenge.pw_storejudge_k16_the_fault_of_a_row.main.body.getD k (.Pass ⟨0,0,0,0⟩)
abbrev s_0:Stmt:=top 0
abbrev s_1:Stmt:=top 2
abbrev s_2:Stmt:=top 3
abbrev s_3:Stmt:=top 4
abbrev s_4:Stmt:=top 5
abbrev s_5:Stmt:=top 6
abbrev s_6:Stmt:=top 11
abbrev s_7:Stmt:=top 12
abbrev s_8:Stmt:=top 13
abbrev s_9:Stmt:=top 14
abbrev cX4:Stmt:=top 15
abbrev cX5:Stmt:=top 16
abbrev cX6:Stmt:=top 17
abbrev cX7:Stmt:=top 18
abbrev cX8:Stmt:=top 19
abbrev cX9:Stmt:=top 20
abbrev cY0:Stmt:=top 21
abbrev cY1:Stmt:=top 22
abbrev cY2:Stmt:=top 23
abbrev cY3:Stmt:=top 29
abbrev cY4:Stmt:=top 30
abbrev cY5:Stmt:=top 31
abbrev cY6:Stmt:=top 32
abbrev cY7:Stmt:=top 33
abbrev cY8:Stmt:=top 34
abbrev cY9:Stmt:=top 40
abbrev cZ0:Stmt:=top 41
abbrev cZ1:Stmt:=top 42
abbrev cZ2:Stmt:=top 43
abbrev cZ3:Stmt:=top 44
abbrev cZ4:Stmt:=top 45
abbrev cZ5:Stmt:=top 46
abbrev cZ6:Stmt:=top 48
abbrev cZ7:Stmt:=top 49
abbrev cZ8:Stmt:=top 51
abbrev cZ9:Stmt:=top 53
abbrev dA0:Stmt:=top 54
abbrev dA1:Stmt:=top 55
abbrev dA2:Stmt:=top 56
abbrev dA3:Stmt:=top 57
abbrev dA4:Stmt:=top 58
abbrev dA5:Stmt:=top 59
abbrev dA6:Stmt:=top 60
abbrev dA7:Stmt:=top 61
abbrev dA8:Stmt:=top 62
abbrev dA9:Stmt:=top 63
abbrev dB0:Stmt:=top 64
abbrev dB1:Stmt:=top 65
abbrev dB2:Stmt:=top 66
abbrev dB3:Stmt:=top 67
abbrev vE:Stmt:=top 68
def dB4:gcl body=([(Str.ofString "LAST_KEY",PyData.int 7),(Str.ofString "MOST_PARTS",PyData.int 4),(Str.ofString "FIRST",PyData.tuple [PyData.int 0,PyData.int 0,PyData.int 0,PyData.int 0,PyData.int 0,PyData.int 0,PyData.int 0,PyData.int 0]),(Str.ofString "WORDS",PyData.tuple [PyData.str (Str.ofString "must"),PyData.str (Str.ofString "may"),PyData.str (Str.ofString "out")]),(Str.ofString "MOST_ITEMS",PyData.int 120),(Str.ofString "MOST_PAIRS",PyData.int 4000),(Str.ofString "MOST_TRIPLES",PyData.int 4000)]:List (Str×PyData)):=by kernel_rfl
def dB5:tkl body=([(Str.ofString "NUMBERS_BEHIND",[(Str.ofString "read",0),(Str.ofString "write",1),(Str.ofString "add",1),(Str.ofString "swap",2)])]:List (Str×List (Str×Int))):=by kernel_rfl
def dB6:dfl body=([(Str.ofString "_wall",s_0),(Str.ofString "is_whole",s_1),(Str.ofString "is_between",s_2),(Str.ofString "is_tuple_of",s_3),(Str.ofString "are_whole",s_4),(Str.ofString "are_rising",s_5),(Str.ofString "is_key",s_6),(Str.ofString "word_of",s_7),(Str.ofString "is_worded",s_8),(Str.ofString "is_single",s_9),(Str.ofString "is_span",cX4),(Str.ofString "is_deal",cX5),(Str.ofString "is_call",cX6),(Str.ofString "is_look",cX7),(Str.ofString "is_value_pair",cX8),(Str.ofString "is_lay",cX9),(Str.ofString "is_step",cY0),(Str.ofString "is_answer",cY1),(Str.ofString "is_own_answer",cY2),(Str.ofString "is_stand",cY3),(Str.ofString "with_value",cY4),(Str.ofString "done",cY5),(Str.ofString "single_done",cY6),(Str.ofString "deal_done",cY7),(Str.ofString "laid",cY8),(Str.ofString "is_item",cY9),(Str.ofString "are_items",cZ0),(Str.ofString "are_numbers",cZ1),(Str.ofString "are_unlike",cZ2),(Str.ofString "are_pairs",cZ3),(Str.ofString "are_triples",cZ4),(Str.ofString "is_problem",cZ5),(Str.ofString "check_problem",cZ6),(Str.ofString "ways_of",cZ7),(Str.ofString "row_fault",cZ8),(Str.ofString "_law_cell_at",cZ9),(Str.ofString "_law_digit",dA0),(Str.ofString "_law_value",dA1),(Str.ofString "_law_plain_call",dA2),(Str.ofString "_law_step",dA3),(Str.ofString "_law_altered",dA4),(Str.ofString "_law_items",dA5),(Str.ofString "_law_pairs",dA6),(Str.ofString "_law_triples",dA7),(Str.ofString "_law_problem",dA8),(Str.ofString "_law_may",dA9),(Str.ofString "_law_later",dB0),(Str.ofString "_law_due",dB1),(Str.ofString "_law_line",dB2),(Str.ofString "_law_bent",dB3),(Str.ofString "law",vE)]:List (Str×Stmt)):=by kernel_rfl
noncomputable def clsB:List Stmt:=match top 47 with
 | .ClassDef _ _ _ b _ _ _ _ _ _ _=>b
 | _=>[]
abbrev sI:Stmt:=clsB.getD 0 (.Pass ⟨0,0,0,0⟩)
abbrev sM0:Stmt:=clsB.getD 3 (.Pass ⟨0,0,0,0⟩)
abbrev sM1:Stmt:=clsB.getD 1 (.Pass ⟨0,0,0,0⟩)
abbrev sM2:Stmt:=clsB.getD 4 (.Pass ⟨0,0,0,0⟩)
def mI:methOf "__init__"=some sI:=by kernel_rfl
def mM0:methOf "stand_behind"=some sM0:=by kernel_rfl
def mM1:methOf "may_follow"=some sM1:=by kernel_rfl
def mM2:methOf "missing"=some sM2:=by kernel_rfl
def bK5:T.defs "law"=some vE:=by kernel_rfl
def dB7:aR vE=([Str.ofString "_law_script"]:List Str):=by kernel_rfl
def bQ6 {x:Str} {C:Addr} {s:Stmt} (h:T.mt x=some (C,s)):C=289/\((x="stand_behind"/\s=sM0)\/(x="may_follow"/\s=sM1)\/(x="missing"/\s=sM2)):=by
 have h:mt x=some (C,s):=h;unfold mt at h;split at h
 ·rename_i e;try rw [e] at h
  rw [mM0] at h;cases h;exact ⟨rfl,.inl ⟨e,rfl⟩⟩
 split at h
 ·rename_i e;try rw [e] at h
  rw [mM1] at h;cases h;exact ⟨rfl,.inr (.inl ⟨e,rfl⟩)⟩
 split at h
 ·rename_i e;try rw [e] at h
  rw [mM2] at h;cases h;exact ⟨rfl,.inr (.inr (⟨e,rfl⟩))⟩
 cases h
def all_mk {l:PySem.W.OpenLaw} {w:World} {K:Frag} {h:Heap} {mg:Str->Option Value} {fa:Addr} (X:K.In h) (G:h.Ns mainGlobals mg) (hfa:mg "law"=some (.ref fa))
  (a0:FI K "_wall" s_0)
  (a1:FI K "is_whole" s_1)
  (a2:FI K "is_between" s_2)
  (a3:FI K "is_tuple_of" s_3)
  (a4:FI K "are_whole" s_4)
  (a5:FI K "are_rising" s_5)
  (a6:FI K "is_key" s_6)
  (a7:FI K "word_of" s_7)
  (a8:FI K "is_worded" s_8)
  (a9:FI K "is_single" s_9)
  (a10:FI K "is_span" cX4)
  (a11:FI K "is_deal" cX5)
  (a12:FI K "is_call" cX6)
  (a13:FI K "is_look" cX7)
  (a14:FI K "is_value_pair" cX8)
  (a15:FI K "is_lay" cX9)
  (a16:FI K "is_step" cY0)
  (a17:FI K "is_answer" cY1)
  (a18:FI K "is_own_answer" cY2)
  (a19:FI K "is_stand" cY3)
  (a20:FI K "with_value" cY4)
  (a21:FI K "done" cY5)
  (a22:FI K "single_done" cY6)
  (a23:FI K "deal_done" cY7)
  (a24:FI K "laid" cY8)
  (a25:FI K "is_item" cY9)
  (a26:FI K "are_items" cZ0)
  (a27:FI K "are_numbers" cZ1)
  (a28:FI K "are_unlike" cZ2)
  (a29:FI K "are_pairs" cZ3)
  (a30:FI K "are_triples" cZ4)
  (a31:FI K "is_problem" cZ5)
  (a32:FI K "check_problem" cZ6)
  (a33:FI K "ways_of" cZ7)
  (a34:FI K "row_fault" cZ8)
  (a35:FI K "_law_cell_at" cZ9)
  (a36:FI K "_law_digit" dA0)
  (a37:FI K "_law_value" dA1)
  (a38:FI K "_law_plain_call" dA2)
  (a39:FI K "_law_step" dA3)
  (a40:FI K "_law_altered" dA4)
  (a41:FI K "_law_items" dA5)
  (a42:FI K "_law_pairs" dA6)
  (a43:FI K "_law_triples" dA7)
  (a44:FI K "_law_problem" dA8)
  (a45:FI K "_law_may" dA9)
  (a46:FI K "_law_later" dB0)
  (a47:FI K "_law_due" dB1)
  (a48:FI K "_law_line" dB2)
  (a49:FI K "_law_bent" dB3)
  (a50:FI K "law" vE)
  {tg0:Tok} (cg0:PySem.W.nsIn K mainGlobals "LAST_KEY"=some (some (.int 7 tg0)))
  {tg1:Tok} (cg1:PySem.W.nsIn K mainGlobals "MOST_PARTS"=some (some (.int 4 tg1)))
  {q2:Addr} {nq2:Nat} {tq2_0 tq2_1 tq2_2 tq2_3 tq2_4 tq2_5 tq2_6 tq2_7:Tok} (aQ2:PySem.W.nsIn K mainGlobals "FIRST"=some (some (.ref q2))) (lQ2:K.lookup q2=some ⟨.type "tuple",none,.seq #[.int 0 tq2_0,.int 0 tq2_1,.int 0 tq2_2,.int 0 tq2_3,.int 0 tq2_4,.int 0 tq2_5,.int 0 tq2_6,.int 0 tq2_7] nq2,#[]⟩)
  {q3:Addr} {nq3:Nat} {tq3_0 tq3_1 tq3_2:Tok} (aQ3:PySem.W.nsIn K mainGlobals "WORDS"=some (some (.ref q3))) (lQ3:K.lookup q3=some ⟨.type "tuple",none,.seq #[.str "must" tq3_0,.str "may" tq3_1,.str "out" tq3_2] nq3,#[]⟩)
  {tg4:Tok} (cg4:PySem.W.nsIn K mainGlobals "MOST_ITEMS"=some (some (.int 120 tg4)))
  {tg5:Tok} (cg5:PySem.W.nsIn K mainGlobals "MOST_PAIRS"=some (some (.int 4000 tg5)))
  {tg6:Tok} (cg6:PySem.W.nsIn K mainGlobals "MOST_TRIPLES"=some (some (.int 4000 tg6)))
  {p0:Addr} {n0:Nat} {hh0_0 hh0_1 hh0_2 hh0_3:Int} {tk0_0 tv0_0 tk0_1 tv0_1 tk0_2 tv0_2 tk0_3 tv0_3:Tok} (aT0:PySem.W.nsIn K mainGlobals "NUMBERS_BEHIND"=some (some (.ref p0))) (lT0:K.lookup p0=some ⟨.type "dict",none,.dict #[⟨hh0_0,.str "read" tk0_0,.int 0 tv0_0⟩,⟨hh0_1,.str "write" tk0_1,.int 1 tv0_1⟩,⟨hh0_2,.str "add" tk0_2,.int 1 tv0_2⟩,⟨hh0_3,.str "swap" tk0_3,.int 2 tv0_3⟩] n0,#[]⟩) (kT0:PySem.W.KeysLit w.params [⟨hh0_0,.str "read" tk0_0,.int 0 tv0_0⟩,⟨hh0_1,.str "write" tk0_1,.int 1 tv0_1⟩,⟨hh0_2,.str "add" tk0_2,.int 1 tv0_2⟩,⟨hh0_3,.str "swap" tk0_3,.int 2 tv0_3⟩]) (sT0:(p0==sysModules)=false)
  (m0:FM K 289 "__init__" "Ways.__init__" sI)
  (m1:FM K 289 "stand_behind" "Ways.stand_behind" sM0)
  (m2:FM K 289 "may_follow" "Ways.may_follow" sM1)
  (m3:FM K 289 "missing" "Ways.missing" sM2)
  (cW:PySem.W.nsIn K mainGlobals "Ways"=some (some (.ref 289))) (mkW:PySem.W.makesIn K 289=true) (kpW:PySem.W.keepIn K (.ref 289)=true) (clW:Cls K 289) (noW:∀ f∈(["first","listed","musts","ahead","later","gaps"]:List Str),PySem.W.findIn K (.ref 289) f=some none)
  (zb:∀ b∈blAll,PySem.W.nsIn K mainGlobals b=some none) :
  ∃ fd:FuncData,(∀ (s:Shared) (v:Value),BindsTo s fd ⟨[v],[]⟩ [("_law_script",v)])/\∀ base:Heap,K.In base->base.Ns mainGlobals mg->FnOk l.prog w K mg base CX0 16 fa fd ["_law_script"] (mC K (nN (aD T 16 "law"))):=by
 have aL:=a50;obtain ⟨f50,od50,an50,sl50,oc50,kV50,dc50,pm50,cd50,ct50,b50,l50,c50,kk50⟩:=aL;have e:=hfa.symm.trans (PySem.W.mg_of X G b50);cases e;have F50:=vT (st:=vE) l50 c50 kk50;refine ⟨PySem.W.fnOf "law" "law" (cA vE) (bJ vE) (aH vE) .none kV50 dc50 pm50 an50 cd50 ct50,fun s v=>.of_eq rfl,fun base XB GB=>?_⟩;have TT:TopOk T l.prog w K mg base:=by
  refine ⟨fun x hx=>?_,fun x z hz=>?_,fun x f hf=>?_,fun x s hs=>?_,fun x C s hs=>?_,fun x C s hs=>?_,fun C f hf=>?_⟩
  ·have hx:blAll.contains x=true:=hx;rw [List.contains_iff_mem] at hx;exact PySem.W.mg_none_of X G (zb x hx)
  ·have hm:=cH7 (show cG7 body x=some z from hz);rw [dB4] at hm;simp only [List.mem_cons,List.not_mem_nil,or_false,Prod.mk.injEq] at hm;rcases hm with ⟨rfl,rfl⟩ | ⟨rfl,rfl⟩ | ⟨rfl,rfl⟩ | ⟨rfl,rfl⟩ | ⟨rfl,rfl⟩ | ⟨rfl,rfl⟩ | ⟨rfl,rfl⟩
   ·exact ⟨.int 7,_,PySem.W.mg_of X G cg0,⟨tg0,rfl⟩,fun _ _=>iX⟩
   ·exact ⟨.int 4,_,PySem.W.mg_of X G cg1,⟨tg1,rfl⟩,fun _ _=>iX⟩
   ·exact ⟨.ref q2,_,PySem.W.mg_of X G aQ2,rfl,cI2 (ws:=[0,0,0,0,0,0,0,0]) lQ2 (.cons ⟨_,rfl⟩ (.cons ⟨_,rfl⟩ (.cons ⟨_,rfl⟩ (.cons ⟨_,rfl⟩ (.cons ⟨_,rfl⟩ (.cons ⟨_,rfl⟩ (.cons ⟨_,rfl⟩ (.cons ⟨_,rfl⟩ .nil)))))))) (show 8<=16777216 by decide)⟩
   ·exact ⟨.ref q3,_,PySem.W.mg_of X G aQ3,rfl,cI1 (ws:=["must","may","out"]) lQ3 (.cons ⟨_,rfl⟩ (.cons ⟨_,rfl⟩ (.cons ⟨_,rfl⟩ .nil))) (show 3<=16777216 by decide) (by decide +kernel)⟩
   ·exact ⟨.int 120,_,PySem.W.mg_of X G cg4,⟨tg4,rfl⟩,fun _ _=>iX⟩
   ·exact ⟨.int 4000,_,PySem.W.mg_of X G cg5,⟨tg5,rfl⟩,fun _ _=>iX⟩
   ·exact ⟨.int 4000,_,PySem.W.mg_of X G cg6,⟨tg6,rfl⟩,fun _ _=>iX⟩
  ·obtain ⟨t,hm,rfl⟩:=cH8 (show cG9 body x=some f from hf);rw [dB5] at hm;simp only [List.mem_cons,List.not_mem_nil,or_false,Prod.mk.injEq] at hm;rcases hm with ⟨rfl,rfl⟩
   ·refine ⟨p0,PySem.W.mg_of X G aT0,⟨⟨_,n0,lT0,kT0,fun y i hy=>?_,fun y hy=>?_⟩,sT0⟩⟩
    ·repeat rw [uE]
     simp only [List.lookup] at hy
     repeat (first | (split at hy;(rename_i q;rw [if_pos (eq_of_beq q).symm];cases hy;exact ⟨_,rfl⟩);(rename_i q;rw [if_neg (fun z=>(beq_eq_false_iff_ne.mp q) z.symm)])) | cases hy)
    ·repeat rw [uE]
     simp only [List.lookup] at hy
     repeat (split at hy;(cases hy);(rename_i q;rw [if_neg (fun z=>(beq_eq_false_iff_ne.mp q) z.symm)]))
     rfl
  ·have hm:=cH9 (show wN body x=some s from hs);rw [dB6] at hm;simp only [List.mem_cons,List.not_mem_nil,or_false,Prod.mk.injEq] at hm;rcases hm with ⟨rfl,rfl⟩ | ⟨rfl,rfl⟩ | ⟨rfl,rfl⟩ | ⟨rfl,rfl⟩ | ⟨rfl,rfl⟩ | ⟨rfl,rfl⟩ | ⟨rfl,rfl⟩ | ⟨rfl,rfl⟩ | ⟨rfl,rfl⟩ | ⟨rfl,rfl⟩ | ⟨rfl,rfl⟩ | ⟨rfl,rfl⟩ | ⟨rfl,rfl⟩ | ⟨rfl,rfl⟩ | ⟨rfl,rfl⟩ | ⟨rfl,rfl⟩ | ⟨rfl,rfl⟩ | ⟨rfl,rfl⟩ | ⟨rfl,rfl⟩ | ⟨rfl,rfl⟩ | ⟨rfl,rfl⟩ | ⟨rfl,rfl⟩ | ⟨rfl,rfl⟩ | ⟨rfl,rfl⟩ | ⟨rfl,rfl⟩ | ⟨rfl,rfl⟩ | ⟨rfl,rfl⟩ | ⟨rfl,rfl⟩ | ⟨rfl,rfl⟩ | ⟨rfl,rfl⟩ | ⟨rfl,rfl⟩ | ⟨rfl,rfl⟩ | ⟨rfl,rfl⟩ | ⟨rfl,rfl⟩ | ⟨rfl,rfl⟩ | ⟨rfl,rfl⟩ | ⟨rfl,rfl⟩ | ⟨rfl,rfl⟩ | ⟨rfl,rfl⟩ | ⟨rfl,rfl⟩ | ⟨rfl,rfl⟩ | ⟨rfl,rfl⟩ | ⟨rfl,rfl⟩ | ⟨rfl,rfl⟩ | ⟨rfl,rfl⟩ | ⟨rfl,rfl⟩ | ⟨rfl,rfl⟩ | ⟨rfl,rfl⟩ | ⟨rfl,rfl⟩ | ⟨rfl,rfl⟩ | ⟨rfl,rfl⟩
   all_goals first | exact FI.ok1 (by assumption) X G (by kernel_rfl) (fun _ _ _ _ _ _ _=>rfl) | exact FI.ok2 (by assumption) X G (by kernel_rfl) (fun _ _ _ _ _ _ _ _=>rfl) | exact FI.ok3 (by assumption) X G (by kernel_rfl) (fun _ _ _ _ _ _ _ _ _=>rfl)
  ·have h:(if x="Ways" then (methOf "__init__").map fun s=>((289:Addr),s) else none)=some (C,s):=hs;rw [mI] at h;split at h
   ·rename_i e;cases h;subst e;obtain ⟨f,fd,F,M,B⟩:=m0.ok (ps:=["self","problem"]) (by kernel_rfl) fun _ _ _ _ _ _ us hl=>match us,hl with | [_,_],_=>rfl
    exact ⟨_,_,f,fd,F,⟨mkW,M.at_,M.fn,kpW⟩,PySem.W.mg_of X G cW,B⟩
   ·cases h
  ·refine ⟨?_,?_⟩
   ·obtain ⟨e,_⟩:=bQ6 hs;rw [e];exact clW
   ·obtain ⟨e,hm⟩:=bQ6 hs;subst e;rcases hm with ⟨rfl,rfl⟩ | ⟨rfl,rfl⟩ | ⟨rfl,rfl⟩
    ·obtain ⟨f,fd,F,M,B⟩:=m1.ok (ps:=["self","stand","x"]) (by kernel_rfl) fun _ _ _ _ _ _ us hl=>match us,hl with | [_,_,_],_=>rfl
     exact ⟨_,_,f,fd,F,M,B⟩
    ·obtain ⟨f,fd,F,M,B⟩:=m2.ok (ps:=["self","placed","x"]) (by kernel_rfl) fun _ _ _ _ _ _ us hl=>match us,hl with | [_,_,_],_=>rfl
     exact ⟨_,_,f,fd,F,M,B⟩
    ·obtain ⟨f,fd,F,M,B⟩:=m3.ok (ps:=["self","placed"]) (by kernel_rfl) fun _ _ _ _ _ _ us hl=>match us,hl with | [_,_],_=>rfl
     exact ⟨_,_,f,fd,F,M,B⟩
  ·have h:(decide (C=289)&&(["first","listed","musts","ahead","later","gaps"]:List Str).contains f)=true:=hf;rw [Bool.and_eq_true,decide_eq_true_eq,List.contains_iff_mem] at h;obtain ⟨rfl,h⟩:=h;exact ⟨clW,noW f h⟩
 have q:=law_fn (k:=15) TT bK5 F50;rw [dB7] at q;exact q
def walk {l:PySem.W.OpenLaw} {q:Program} {loose:List Str} {XP:(Str->Option Value)->Heap->Prop} {YP:World->Heap->Prop} {d:DefRec} {K:Params->Frag} (hn:l.most=some 63) (hdf:d.params.defaults=[])
  (hY:∀ (w:World) (h:Heap),YP w h->(K w.params).In h)
  (F:∀ (w:World) (mg:Str->Option Value) (fa:Addr) (h:Heap),(K w.params).In h->h.Ns mainGlobals mg->mg d.name=some (.ref fa) ->
   ∃ fd:FuncData,(∀ (s:Shared) (u:Value),BindsTo s fd ⟨[u],[]⟩ [("_law_script",u)])/\∀ base:Heap,(K w.params).In base->base.Ns mainGlobals mg->FnOk l.prog w (K w.params) mg base CX0 16 fa fd ["_law_script"] (mC (K w.params) (nN (aD T 16 "law")))) :
  PySem.W.WalkO q loose XP YP l.row.toRowW d [] (fun f vs=>PySem.call f vs) :=
 L2.walk_of (n:=63) (k:=16) (x:="_law_script") (CX:=fun _=>CX0) (sp:=fun w=>mC (K w.params) (nN (aD T 16 "law"))) hn (by decide) hdf ⟨rfl,by decide,by decide⟩ hY F (fun w H a ns hl _ hS=>cI0 (t:=T) (d:=16) (fun ns=>cL1 ns 0) _ H a ns hS) fun _ _ _ _ _ z=>z
end K16
open PySem PySem.W PyProof.Rows
set_option maxHeartbeats 0
local macro_rules
 | `(tactic| o_head $H) => `(tactic| refine holds_open (q := hdQ) (loose := [Str.ofString "NUMBERS_BEHIND"]) (Xt := fun s => xlAt hdQ [] s && recOk (RowW.records (OpenRow.toRowW (OpenLaw.row PySem.Challenge.rw_storejudge_k16_the_fault_of_a_row))) s) (XP := XL hdQ []) (Yf := Hook.obs $H) (Ya := Hook.val $H) (YP := Hook.says $H) (N := 5038) ?hl (Hook.of $H) (Hook.keeps $H) (fun s e => xl_of s (Bool.and_eq_true_iff.mp e).1) XL.keeps (by rfl) (by rfl) (by rfl) (fun s e => recFacts_of (Bool.and_eq_true_iff.mp e).2) (by rfl) (by first | assumption | decide +kernel) (by decide +kernel) ⟨rfl, rfl, rfl, rfl, rfl, by decide +kernel⟩ ?hw ?hc)
theorem PySem.Challenge.cw_storejudge_k16_the_fault_of_a_row_holds : PySem.Challenge.rw_storejudge_k16_the_fault_of_a_row.Holds := by
 w_on;refine holds_law hdS fun said=>?_
 o_head (kHook hdP.heap_1 hdA hdE)
 case hl =>
  refine LeftO.of_split "special-get-raises" ?_;intro w;exact CI.two_of (hdL1 w) (hdL2 w)
 (case hw=>w_witness2)
 k_fill
 refine K16.walk (l:=PySem.Challenge.rw_storejudge_k16_the_fault_of_a_row) rfl rfl (fun w h Y=>PySem.W.kIn_of Y) ?F
 case F =>
  intro w mg fa h KX G hmg;refine' K16.all_mk KX G hmg ?a0 ?a1 ?a2 ?a3 ?a4 ?a5 ?a6 ?a7 ?a8 ?a9 ?a10 ?a11 ?a12 ?a13 ?a14 ?a15 ?a16 ?a17 ?a18 ?a19 ?a20 ?a21 ?a22 ?a23 ?a24 ?a25 ?a26 ?a27 ?a28 ?a29 ?a30 ?a31 ?a32 ?a33 ?a34 ?a35 ?a36 ?a37 ?a38 ?a39 ?a40 ?a41 ?a42 ?a43 ?a44 ?a45 ?a46 ?a47 ?a48 ?a49 ?a50 ?cg0 ?cg1 ?aQ2 ?lQ2 ?aQ3 ?lQ3 ?cg4 ?cg5 ?cg6 ?aT0 ?lT0 ?kT0 ?sT0 ?m0 ?m1 ?m2 ?m3 ?cW ?mkW ?kpW ?clW ?noW ?zb
  all_goals try (refine' CI.fi_mk ?a ?l ?c ?k;(case a=>k_is);(case l=>k_is);(case c=>k_is);(case k=>k_is))
  (case cg0=>k_is)
  (case cg1=>k_is)
  (case aQ2=>k_is);(case lQ2=>k_is)
  (case aQ3=>k_is);(case lQ3=>k_is)
  (case cg4=>k_is)
  (case cg5=>k_is)
  (case cg6=>k_is)
  (case aT0=>k_is);(case lT0=>k_is);(case kT0=>k_keys);(case sT0=>first | rfl | decide | k_is)
  (case m0=>refine' CI.fm_mk (f:=260) ?a ?i ?l ?c ?k;(case a=>kernel_rfl);(case i=>kernel_rfl);(case l=>k_is);(case c=>k_is);(case k=>k_is))
  (case m1=>refine' CI.fm_mk (f:=281) ?a ?i ?l ?c ?k;(case a=>kernel_rfl);(case i=>kernel_rfl);(case l=>k_is);(case c=>k_is);(case k=>k_is))
  (case m2=>refine' CI.fm_mk (f:=267) ?a ?i ?l ?c ?k;(case a=>kernel_rfl);(case i=>kernel_rfl);(case l=>k_is);(case c=>k_is);(case k=>k_is))
  (case m3=>refine' CI.fm_mk (f:=286) ?a ?i ?l ?c ?k;(case a=>kernel_rfl);(case i=>kernel_rfl);(case l=>k_is);(case c=>k_is);(case k=>k_is))
  (case cW=>k_is);(case mkW=>kernel_rfl);(case kpW=>k_is);(case clW=>exact ⟨by kernel_rfl,by kernel_rfl,by kernel_rfl,by kernel_rfl⟩)
  (case noW=>intro f hf;simp only [List.mem_cons,List.not_mem_nil,or_false] at hf;rcases hf with rfl | rfl | rfl | rfl | rfl | rfl<;>kernel_rfl)
  (case zb=>intro b hb;simp only [CI.blAll,List.mem_cons,List.not_mem_nil,or_false] at hb;rcases hb with rfl | rfl | rfl | rfl | rfl | rfl | rfl | rfl | rfl | rfl | rfl | rfl | rfl | rfl | rfl | rfl | rfl | rfl | rfl | rfl<;>k_is)
