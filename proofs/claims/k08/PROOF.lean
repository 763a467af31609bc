import PyProof.Rows.All
import Wide.All
import OpenK.AllK
import Wide.FinOn
import Lean
import PyProof.EqAt
import PyProof.EqKinds
import PyProof.TupleCall
import PyProof.ZipIter
import PyProof.EnumIter
import KE.KDictSum
import KE.KItemsList
import KE.KSortKey
import KE.KLam
import PyProof.SeqI3
import PyProof.WalkInts
import PyProof.EqLayable
import KE.KSortTup
import PyProof.SetNew
import PyProof.Rows.SetFrom
import PyProof.EnumFor
import PyProof.EnumStmt
import PySem.Challenge.RW_storejudge_k08_hands_and_times
set_option Elab.async false
set_option linter.all false
set_option maxRecDepth 100000
namespace L2
open PySem PySem.Spec PyProof.Rows
abbrev Key := Sum Int Str
def keyIs : Key -> Value -> Bool
 | .inl k, v => Value.isInt k v
 | .inr x, v => Value.isStrOf x v
def keyH (w : World) : Key -> Int
 | .inl k => hashInt k
 | .inr x => hashStr w x
theorem keyIs_shape : ∀ {k : Key} {v : Value}, keyIs k v = true -> (∃ i t, k = Sum.inl i /\ v = Value.int i t) \/ (∃ x t, k = Sum.inr x /\ v = Value.str x t)
 | .inl i, v, h => by
  obtain ⟨t, e⟩ := Value.isInt_shape (k := i) (v := v) h
  exact .inl ⟨i, t, rfl, e⟩
 | .inr x, v, h => by
  obtain ⟨t, e⟩ := Value.isStrOf_shape (x := x) (v := v) h
  exact .inr ⟨x, t, rfl, e⟩
theorem keyIs_int (i : Int) (t : Tok) : keyIs (.inl i) (.int i t) = true := by simp [keyIs, Value.isInt]
theorem keyIs_str (x : Str) (t : Tok) : keyIs (.inr x) (.str x t) = true := by simp [keyIs, Value.isStrOf]
theorem key_ll (a b : Int) : decide ((Sum.inl a : Key) = Sum.inl b) = (a == b) := by
 by_cases e : a = b
 ·subst e; simp
 ·have h : ¬ (Sum.inl a : Key) = Sum.inl b := fun q => e (Sum.inl.inj q)
  rw [decide_eq_false h]
  exact (beq_eq_false_iff_ne.mpr e).symm
theorem key_rr (a b : Str) : decide ((Sum.inr a : Key) = Sum.inr b) = decide (a = b) := by
 by_cases e : a = b
 ·subst e; simp
 ·have h : ¬ (Sum.inr a : Key) = Sum.inr b := fun q => e (Sum.inr.inj q)
  rw [decide_eq_false h, decide_eq_false e]
theorem key_lr (a : Int) (b : Str) : decide ((Sum.inl a : Key) = Sum.inr b) = false := decide_eq_false (fun q => nomatch q)
theorem key_rl (a : Str) (b : Int) : decide ((Sum.inr a : Key) = Sum.inl b) = false := decide_eq_false (fun q => nomatch q)
def mixKind (prog : Program) (w : World) : PySem.KeyKind prog w Key where
 is := keyIs
 hash := keyH w
 inj := fun v a b ha hb => by
  rcases keyIs_shape ha with ⟨i, t, rfl, rfl⟩ | ⟨x, t, rfl, rfl⟩
  ·rcases keyIs_shape hb with ⟨j, u, rfl, e⟩ | ⟨y, u, rfl, e⟩
   ·injection e with e1 _; rw [e1]
   ·exact nomatch e
  ·rcases keyIs_shape hb with ⟨j, u, rfl, e⟩ | ⟨y, u, rfl, e⟩
   ·exact nomatch e
   ·injection e with e1 _; rw [e1]
 byValue := fun k v h => by
  rcases keyIs_shape h with ⟨i, t, rfl, rfl⟩ | ⟨x, t, rfl, rfl⟩ <;> rfl
 pyHash := fun hv h => by
  rcases keyIs_shape hv with ⟨i, t, rfl, rfl⟩ | ⟨x, t, rfl, rfl⟩
  ·exact wpAny_pyHash_int h
  ·exact wpAny_pyHash_str h
 eqBool := fun hu hv h => by
  rcases keyIs_shape hu with ⟨i, t, rfl, rfl⟩ | ⟨x, t, rfl, rfl⟩
  ·rcases keyIs_shape hv with ⟨j, u, rfl, rfl⟩ | ⟨y, u, rfl, rfl⟩
   ·rw [key_ll] at h; exact wpAny_eqBool_int h
   ·rw [key_lr] at h; exact SeqAt.EqAt.int_str i t y u _ _ _ _ h
  ·rcases keyIs_shape hv with ⟨j, u, rfl, rfl⟩ | ⟨y, u, rfl, rfl⟩
   ·rw [key_rl] at h; exact SeqAt.EqAt.str_int x t j u _ _ _ _ h
   ·rw [key_rr] at h; exact wpAny_eqBool_str h
 «strs» := fun k x t v h => by
  rcases keyIs_shape h with ⟨i, u, rfl, e⟩ | ⟨y, u, rfl, e⟩
  ·exact nomatch e
  ·injection e with e1 _
   subst e1
   cases v <;> rfl
theorem mixKind_int (prog : Program) (w : World) (i : Int) (t : Tok) : (mixKind prog w).is (.inl i) (.int i t) = true := keyIs_int i t
theorem mixKind_str (prog : Program) (w : World) (x : Str) (t : Tok) : (mixKind prog w).is (.inr x) (.str x t) = true := keyIs_str x t
end L2
namespace L2
open PySem PySem.Spec PyProof.Rows
def IsTupD (h : Heap) (a : Addr) (items : Array Value) : Prop := ∃ o, h.get? a = some o /\ o.cls = .type "tuple" /\ (∃ n, o.data = .seq items n) /\ o.dict = none
theorem IsTupD.tup {h : Heap} {a : Addr} {items : Array Value} (x : IsTupD h a items) : IsTup h a items := let ⟨o, h1, h2, h3, _⟩ := x; ⟨o, h1, h2, h3⟩
theorem IsTupD.lt {h : Heap} {a : Addr} {items : Array Value} (x : IsTupD h a items) : a < h.objs.size := let ⟨_, h1, _⟩ := x; Heap.lt_size h1
theorem IsTupD.new (h : Heap) (items : Array Value) : IsTupD (h.push { cls := .type "tuple", data := .seq items }) h.objs.size items := ⟨_, Heap.get?_push_size _ rfl, rfl, ⟨_, rfl⟩, rfl⟩
inductive V where
 | non | bl (b : Bool) | int (i : Int) | str (x : Str) | byt (b : Array UInt8) | flt (b : UInt64) | ref (a : Addr) | ty (n : String)
 deriving DecidableEq
def RelV : V -> Value -> Prop
 | .non, u => u = Value.none
 | .bl b, u => u = Value.bool b
 | .int i, u => ∃ t, u = Value.int i t
 | .str x, u => ∃ t, u = Value.str x t
 | .byt b, u => ∃ t, u = Value.bytes b t
 | .flt b, u => ∃ t, u = Value.float b t
 | .ref a, u => u = Value.ref a
 | .ty n, u => u = Value.type n
abbrev Vals : List V -> List Value -> Prop := Paired RelV
theorem Vals.length {xs : List V} {us : List Value} (r : Vals xs us) : xs.length = us.length := Paired.length r
theorem Vals.get : ∀ {xs : List V} {us : List Value} {i : Nat} {x : V}, Vals xs us -> xs[i]? = some x -> ∃ u, us[i]? = some u /\ RelV x u
 | _, _, _, _, .nil, e => by simp at e
 | _, _, 0, _, .cons r _, e => by simp at e; subst e; exact ⟨_, rfl, r⟩
 | _, _, i + 1, x, .cons _ t, e => by
  obtain ⟨u, h1, h2⟩ := Vals.get (i := i) (x := x) t (by simpa using e)
  exact ⟨u, by simpa using h1, h2⟩
theorem Vals.set {x : V} {u : Value} (r : RelV x u) : ∀ {xs : List V} {us : List Value} (i : Nat), Vals xs us -> Vals (xs.set i x) (us.set i u)
 | _, _, _, .nil => .nil
 | _, _, 0, .cons _ t => .cons r t
 | _, _, i + 1, .cons q t => .cons q (Vals.set r i t)
theorem Vals.append : ∀ {xs ys : List V} {us ws : List Value}, Vals xs us -> Vals ys ws -> Vals (xs ++ ys) (us ++ ws)
 | _, _, _, _, .nil, s => s
 | _, _, _, _, .cons r t, s => .cons r (Vals.append t s)
theorem Vals.take : ∀ {xs : List V} {us : List Value} (n : Nat), Vals xs us -> Vals (xs.take n) (us.take n)
 | _, _, 0, _ => .nil
 | _, _, _ + 1, .nil => .nil
 | _, _, n + 1, .cons r t => .cons r (Vals.take n t)
theorem Vals.drop : ∀ {xs : List V} {us : List Value} (n : Nat), Vals xs us -> Vals (xs.drop n) (us.drop n)
 | _, _, 0, r => r
 | _, _, _ + 1, .nil => .nil
 | _, _, n + 1, .cons _ t => Vals.drop n t
def RelO : Option V -> Option Value -> Prop
 | some v, some u => RelV v u
 | none, none => True
 | _, _ => False
def KV {κ : Type} : List (κ × V) -> List (κ × Value) -> Prop := Paired fun (p : κ × V) (q : κ × Value) => p.1 = q.1 /\ RelV p.2 q.2
def kV : Key -> V
 | .inl i => .int i
 | .inr x => .str x
inductive HO where
 | lst (xs : List V)
 | tup (xs : List V)
 | dK (kvs : List (Key × V)) | dT (kvs : List (List Key × V))
 | set (S : Int -> Bool) (n : Nat)
 | ins (C dx : Addr) (fs : List (Str × V))
 | own (x : Addr)
 | xd (fs : List (Str × V))
 | met (f x : Addr)
 | rng (lo hi : Int)
 | frz (o : Obj) (u : HO)
 | tbl (ps : Array Value)
 | ext (φ : Heap -> Prop)
abbrev Hp := Addr -> Option HO
def upd (H : Hp) (a : Addr) (o : HO) : Hp := fun b => if b = a then some o else H b
theorem upd_same {H : Hp} {a : Addr} {o : HO} : upd H a o a = some o := by unfold upd; rw [if_pos rfl]
theorem upd_ne {H : Hp} {a b : Addr} {o : HO} (h : b ≠ a) : upd H a o b = H b := by unfold upd; rw [if_neg h]
theorem ne_of_none {H : Hp} {a b : Addr} {o : HO} (h : H a = some o) (h' : H b = none) : a ≠ b := by
 intro e; subst e; rw [h] at h'; cases h'
section
variable (P : Program) (w : World)
def ObjOk (H : Hp) (h : Heap) (a : Addr) : HO -> Prop
 | .lst xs => xs.length <= sizeLine /\ ∃ (its : List Value) (n : Nat), Vals xs its /\ h.get? a = some { cls := .type "list", data := .seq its.toArray n }
 | .tup xs => xs.length <= sizeLine /\ ∃ its : List Value, Vals xs its /\ IsTupD h a its.toArray
 | .dK kvs => kvs.length <= sizeLine /\ (a == sysModules) = false /\ ∃ vs, KV kvs vs /\ h.DictOf (mixKind P w) a vs
 | .dT kvs => kvs.length <= sizeLine /\ (a == sysModules) = false /\ ∃ xs : List (List Key × Addr × Value),
   Paired (fun (p : List Key × V) (q : List Key × Addr × Value) => p.1 = q.1 /\ H q.2.1 = some (.tup (p.1.map kV)) /\ RelV p.2 q.2.2) kvs xs /\
   ∃ o es ep, h.get? a = some o /\ o.ExactDict /\ o.data = .dict es ep /\ es.toList = xs.map (entryOfKey (tupleKind (mixKind P w))) /\ (xs.map (·.1)).Nodup
 | .set S n => h.SetOf (intKind P w) a S n
 | .ins C dx fs => H dx = some (.own a) /\ fs.length <= 1000 /\ dx ≠ a /\ h.get? a = some (PySem.W.instObj C dx) /\
   ∃ mA, h.Ns1 dx mA /\ (∀ f, RelO (fs.lookup f) (mA f)) /\ PySem.Within mA (fs.map (·.1))
 | .own _ => ∃ o, h.get? a = some o
 | .xd fs => ∃ mA, h.Ns1 a mA /\ ∀ f, RelO (fs.lookup f) (mA f)
 | .rng lo hi => ∃ t u v, h.get? a = some { cls := .type "range", data := .fields #[.int lo t, .int hi u, .int 1 v] }
 | .frz o u => h.get? a = some o /\ ObjOk H h a u
 | .tbl ps => h.get? a = some { cls := .none, data := .fields ps }
 | .met f x => h.get? a = some (PySem.W.methodObj (.ref f) (.ref x))
 | .ext φ => φ h /\ (∃ o, h.get? a = some o) /\ ∀ h1 h2 : Heap, φ h1 -> (∀ o, h1.get? a = some o -> h2.get? a = some o) -> φ h2
def HOk (H : Hp) (h : Heap) : Prop := ∀ a o, H a = some o -> ObjOk P w H h a o
end
section
variable {P : Program} {w : World} {H H' : Hp} {h h' : Heap} {a : Addr} {o : HO}
theorem ObjOk.lt (x : ObjOk P w H h a o) : a < h.objs.size := by
 cases o with
 | lst xs => obtain ⟨_, _, _, _, e⟩ := x; exact Heap.lt_size e
 | tup xs => obtain ⟨_, _, _, p⟩ := x; exact p.lt
 | dK kvs => obtain ⟨_, _, _, _, o, _, _, e, _⟩ := x; exact Heap.lt_size e
 | dT kvs => obtain ⟨_, _, _, _, o, _, _, e, _⟩ := x; exact Heap.lt_size e
 | set S n => obtain ⟨o, _, _, _, e, _⟩ := x; exact Heap.lt_size e
 | ins C dx fs => obtain ⟨_, _, _, e, _⟩ := x; exact Heap.lt_size e
 | own y => obtain ⟨_, e⟩ := x; exact Heap.lt_size e
 | xd fs => obtain ⟨_, ⟨_, _, _, e, _⟩, _⟩ := x; exact Heap.lt_size e
 | rng lo hi => obtain ⟨_, _, _, e⟩ := x; exact Heap.lt_size e
 | frz ob u => obtain ⟨e, _⟩ := x; exact Heap.lt_size e
 | tbl ps => exact Heap.lt_size (show h.get? a = some _ from x)
 | met f y => exact Heap.lt_size (show h.get? a = some _ from x)
 | ext φ => obtain ⟨_, ⟨_, e⟩, _⟩ := x; exact Heap.lt_size e
theorem Paired.mapP {α β : Type} {F G : α -> β -> Prop} : ∀ {l₁ : List α} {l₂ : List β}, Paired F l₁ l₂ -> (∀ a b, F a b -> G a b) -> Paired G l₁ l₂
 | _, _, .nil, _ => .nil
 | _, _, .cons r t, f => .cons (f _ _ r) (Paired.mapP t f)
theorem ObjOk.stay (x : ObjOk P w H h a o) (k : ∀ b u, (b = a \/ H b = some (.own a)) -> h.get? b = some u -> h'.get? b = some u)
  (ho : ∀ b, H b = some (.own a) -> H' b = some (.own a)) (ht : ∀ b xs, H b = some (.tup xs) -> H' b = some (.tup xs)) : ObjOk P w H' h' a o := by
 induction o with
 | lst xs => obtain ⟨z, its, n, r, e⟩ := x; exact ⟨z, its, n, r, k _ _ (.inl rfl) e⟩
 | tup xs => obtain ⟨z, its, r, ob, e, c⟩ := x; exact ⟨z, its, r, ob, k _ _ (.inl rfl) e, c⟩
 | dK kvs => obtain ⟨z, y, vs, r, ob, es, ep, e, c⟩ := x; exact ⟨z, y, vs, r, ob, es, ep, k _ _ (.inl rfl) e, c⟩
 | dT kvs =>
  obtain ⟨z, y, xs, r, ob, es, ep, e, c⟩ := x
  exact ⟨z, y, xs, Paired.mapP r fun p q z => ⟨z.1, ht _ _ z.2.1, z.2.2⟩, ob, es, ep, k _ _ (.inl rfl) e, c⟩
 | set S n => obtain ⟨ob, es, ep, t, e, c⟩ := x; exact ⟨ob, es, ep, t, k _ _ (.inl rfl) e, c⟩
 | ins C dx fs =>
  obtain ⟨d, z, ne, e, mA, ⟨od, es, ep, e2, c⟩, r⟩ := x
  exact ⟨ho _ d, z, ne, k _ _ (.inl rfl) e, mA, ⟨od, es, ep, k _ _ (.inr d) e2, c⟩, r⟩
 | own y => obtain ⟨ob, e⟩ := x; exact ⟨ob, k _ _ (.inl rfl) e⟩
 | xd fs => obtain ⟨mA, ⟨od, es, ep, e, c⟩, r⟩ := x; exact ⟨mA, ⟨od, es, ep, k _ _ (.inl rfl) e, c⟩, r⟩
 | rng lo hi => obtain ⟨t, u, v, e⟩ := x; exact ⟨t, u, v, k _ _ (.inl rfl) e⟩
 | frz ob u ih => obtain ⟨e, q⟩ := x; exact ⟨k _ _ (.inl rfl) e, ih q⟩
 | tbl ps =>
  have e : h.get? a = some { cls := .none, data := .fields ps } := x
  show h'.get? a = some { cls := .none, data := .fields ps }
  exact k a _ (.inl rfl) e
 | met f y =>
  have e : h.get? a = some (PySem.W.methodObj (.ref f) (.ref y)) := x
  show h'.get? a = some (PySem.W.methodObj (.ref f) (.ref y))
  exact k a _ (.inl rfl) e
 | ext φ => obtain ⟨p, ⟨o, e⟩, st⟩ := x; exact ⟨st _ _ p fun o q => k _ _ (.inl rfl) q, ⟨o, k _ _ (.inl rfl) e⟩, st⟩
theorem HOk.lt (x : HOk P w H h) (e : H a = some o) : a < h.objs.size := (x a o e).lt
theorem HOk.fresh (x : HOk P w H h) (e : h.objs.size <= a) : H a = none := by
 cases q : H a with
 | none => rfl
 | some u => exact absurd (Nat.lt_of_lt_of_le (x.lt q) e) (Nat.lt_irrefl _)
theorem HOk.kept (x : HOk P w H h) (k : ∀ b u, h.get? b = some u -> h'.get? b = some u) : HOk P w H h' := fun a o e =>
 (x a o e).stay (fun b u _ q => k b u q) (fun _ q => q) fun _ _ q => q
theorem HOk.laid (x : HOk P w H h) (k : ∀ b u, h.get? b = some u -> h'.get? b = some u) (hp : h.objs.size <= a) (new : ObjOk P w (upd H a o) h' a o) : HOk P w (upd H a o) h' := fun b u e => by
 have hn := x.fresh hp
 by_cases hb : b = a
 ·subst hb; rw [upd_same] at e; cases e; exact new
 ·rw [upd_ne hb] at e
  exact (x b u e).stay (fun c v _ q => k c v q) (fun c q => by rw [upd_ne (ne_of_none q hn)]; exact q) fun c xs q => by rw [upd_ne (ne_of_none q hn)]; exact q
end
def Rd (H : Hp) (a : Addr) (u : HO) : Prop := H a = some u \/ ∃ o, H a = some (.frz o u)
theorem Rd.of {H : Hp} {a : Addr} {u : HO} (h : H a = some u) : Rd H a u := .inl h
theorem Rd.ok {P : Program} {w : World} {H : Hp} {h : Heap} {a : Addr} {u : HO} (r : Rd H a u) (x : HOk P w H h) : ObjOk P w H h a u := by
 rcases r with r | ⟨o, r⟩
 ·exact x a u r
 ·obtain ⟨_, q⟩ := x a _ r
  exact q
def Mut : Option HO -> Prop
 | some (.lst _) => True
 | some (.dK _) => True
 | some (.dT _) => True
 | some (.set _ _) => True
 | some (.ins _ _ _) => True
 | some (.ext _) => True
 | _ => False
section
variable {P : Program} {w : World} {H : Hp} {h h' : Heap} {x e : Addr} {o' : HO}
theorem HOk.write (ok : HOk P w H h) (mu : Mut (H x)) (he : e = x \/ H e = some (.own x)) (k : ∀ b u, b ≠ e -> h.get? b = some u -> h'.get? b = some u) (heo : ∃ u, h'.get? e = some u)
  (new : ObjOk P w (upd H x o') h' x o') : HOk P w (upd H x o') h' := fun b u q => by
 have nown : ∀ c y, H c = some (.own y) -> c ≠ x := fun c y r z => by subst z; rw [r] at mu; exact mu
 have ntup : ∀ c xs, H c = some (.tup xs) -> c ≠ x := fun c xs r z => by subst z; rw [r] at mu; exact mu
 by_cases hb : b = x
 ·subst hb; rw [upd_same] at q; cases q; exact new
 ·rw [upd_ne hb] at q
  by_cases hbe : b = e
  ·have q' : H b = some (.own x) := by
    rcases he with z | z
    ·exact absurd (hbe.trans z) hb
    ·rw [hbe]; exact z
   rw [q] at q'; cases q'
   obtain ⟨v, hv⟩ := heo
   exact ⟨v, by rw [hbe]; exact hv⟩
  ·refine (ok b u q).stay (fun c v hc r => k c v ?_ r) (fun c r => by rw [upd_ne (nown c b r)]; exact r) fun c xs r => by rw [upd_ne (ntup c xs r)]; exact r
   rcases hc with rfl | hc
   ·exact hbe
   ·rintro rfl
    rcases he with z | z
    ·exact nown c b hc z
    ·rw [hc] at z; cases z; exact hb rfl
end
structure Un (fs ex : List Addr) (H H' : Hp) (h h' : Heap) : Prop where
 keep : ∀ b o, h.get? b = some o -> H b = none -> b ∉ fs -> b ∉ ex -> h'.get? b = some o
 slot : ∀ b o, h.get? b = some o -> H b = none -> b ∈ fs -> b ∉ ex -> ∃ sl, h'.get? b = some { o with slots := sl }
 free : ∀ b o, h.get? b = some o -> H b = none -> b ∉ ex -> H' b = none
 there : ∀ b o, h.get? b = some o -> b ∉ ex -> ∃ o', h'.get? b = some o'
 tups : ∀ b xs, H b = some (.tup xs) -> H' b = some (.tup xs)
 frzs : ∀ b o u, H b = some (.frz o u) -> H' b = some (.frz o u)
 tbls : ∀ b ps, H b = some (.tbl ps) -> ∃ more, H' b = some (.tbl (ps ++ more))
section
variable {fs fs' ex ex' : List Addr} {H H1 H2 : Hp} {h h1 h2 h' : Heap} {a x e : Addr} {o : HO}
theorem Un.any (u : Un fs ex H H1 h h1) {b : Addr} {ob : Obj} (q : h.get? b = some ob) (n : H b = none) (hx : b ∉ ex) : ∃ sl, h1.get? b = some { ob with slots := sl } := by
 by_cases hb : b ∈ fs
 ·exact u.slot b ob q n hb hx
 ·exact ⟨ob.slots, u.keep b ob q n hb hx⟩
theorem Un.trans (a : Un fs ex H H1 h h1) (b : Un fs ex H1 H2 h1 h2) : Un fs ex H H2 h h2 where
 keep := fun c ob q n hc hx => b.keep c ob (a.keep c ob q n hc hx) (a.free c ob q n hx) hc hx
 slot := fun c ob q n hc hx => by
  obtain ⟨sl, e1⟩ := a.slot c ob q n hc hx
  obtain ⟨sl', e2⟩ := b.slot c _ e1 (a.free c ob q n hx) hc hx
  exact ⟨sl', e2⟩
 free := fun c ob q n hx => by
  obtain ⟨o', e1⟩ := a.there c ob q hx
  exact b.free c o' e1 (a.free c ob q n hx) hx
 there := fun c ob q hx => by
  obtain ⟨o', e1⟩ := a.there c ob q hx
  exact b.there c o' e1 hx
 tups := fun c xs q => b.tups c xs (a.tups c xs q)
 frzs := fun c ob xs q => b.frzs c ob xs (a.frzs c ob xs q)
 tbls := fun c ps q => by
  obtain ⟨m1, e1⟩ := a.tbls c ps q
  obtain ⟨m2, e2⟩ := b.tbls c _ e1
  exact ⟨m1 ++ m2, by rw [e2, Array.append_assoc]⟩
theorem Un.kept (k : ∀ b u, h.get? b = some u -> h'.get? b = some u) : Un fs ex H H h h' :=
 ⟨fun b ob q _ _ _ => k b ob q, fun b ob q _ _ _ => ⟨ob.slots, k b ob q⟩, fun _ _ _ n _ => n, fun b ob q _ => ⟨ob, k b ob q⟩, fun _ _ q => q, fun _ _ _ q => q, fun _ ps q => ⟨#[], by rw [q]; simp⟩⟩
theorem Un.refl : Un fs ex H H h h := Un.kept fun _ _ q => q
theorem Un.laid (k : ∀ b u, h.get? b = some u -> h'.get? b = some u) (hp : h.objs.size <= a) (hn : H a = none) : Un fs ex H (upd H a o) h h' where
 keep := fun b u q _ _ _ => k b u q
 slot := fun b u q _ _ _ => ⟨u.slots, k b u q⟩
 free := fun b u q n _ => by rw [upd_ne (Nat.ne_of_lt (Nat.lt_of_lt_of_le (Heap.lt_size q) hp))]; exact n
 there := fun b u q _ => ⟨u, k b u q⟩
 tups := fun b xs q => by rw [upd_ne (ne_of_none q hn)]; exact q
 frzs := fun b u xs q => by rw [upd_ne (ne_of_none q hn)]; exact q
 tbls := fun b ps q => ⟨#[], by rw [upd_ne (ne_of_none q hn), q]; simp⟩
theorem Un.write (mu : Mut (H x)) (he : e = x \/ H e = some (.own x)) (k : ∀ b u, b ≠ e -> h.get? b = some u -> h'.get? b = some u) (heo : ∃ u, h'.get? e = some u) : Un fs ex H (upd H x o) h h' := by
 have hx : ∀ b, H b = none -> b ≠ x := fun b n z => by subst z; rw [n] at mu; exact mu
 have hb : ∀ b, H b = none -> b ≠ e := fun b n z => by
  subst z
  rcases he with r | r
  ·exact hx b n r
  ·rw [n] at r; cases r
 have hm : ∀ b u, H b = some u -> ¬ Mut (some u) -> b ≠ x := fun b u q nm z => by subst z; rw [q] at mu; exact nm mu
 refine ⟨fun b u q n _ _ => k b u (hb b n) q, fun b u q n _ _ => ⟨u.slots, k b u (hb b n) q⟩, fun b u q n _ => by rw [upd_ne (hx b n)]; exact n, fun b u q _ => ?_,
  fun b xs q => by rw [upd_ne (hm b _ q fun z => z)]; exact q, fun b u xs q => by rw [upd_ne (hm b _ q fun z => z)]; exact q, fun b ps q => ⟨#[], by rw [upd_ne (hm b _ q fun z => z), q]; simp⟩⟩
 by_cases hbe : b = e
 ·subst hbe; exact heo
 ·exact ⟨u, k b u hbe q⟩
end
def trk (h : Heap) (H : Hp) : List Addr := (List.range h.objs.size).filter fun a => (H a).isSome
def hidT (h : Heap) (H : Hp) : Heap := PySem.W.hideAll h (trk h H)
theorem hidT_size (h : Heap) (H : Hp) : (hidT h H).objs.size = h.objs.size := PySem.W.hideAll_size _ _
theorem hidT_get {h : Heap} {H : Hp} {b : Addr} {o : Obj} (e : h.get? b = some o) (n : H b = none) : (hidT h H).get? b = some o :=
 PySem.W.hideAll_get _ e fun hm => by
  have q : (H b).isSome = true := (List.mem_filter.mp hm).2
  rw [n] at q; simp at q
theorem of_hidT {h : Heap} {H : Hp} {b : Addr} {o : Obj} (e : (hidT h H).get? b = some o) : h.get? b = some o /\ H b = none := by
 have e' : h.get? b = some o := PySem.W.of_hideAll (trk h H) e
 refine ⟨e', ?_⟩
 cases q : H b with
 | none => rfl
 | some x =>
  have hm : b ∈ trk h H := List.mem_filter.mpr ⟨List.mem_range.mpr (Heap.lt_size e'), by simp [q]⟩
  have z : (hidT h H).get? b = none := PySem.W.hideAll_none (trk h H) hm
  rw [z] at e; cases e
end L2
namespace L2
open PySem PySem.Spec PyProof.Rows
structure Mod (K : PySem.W.Frag) (mg : Str -> Option Value) (base : Heap) : Prop where
 kin : K.In base
 glob : base.Ns mainGlobals mg
 blt : ∃ mb, base.Ns builtinsNs mb /\ ∀ x : Str, x ≠ "__name__" -> mb x = bootBuiltins x
 nolimit : base.NoLimit
structure Cx where
 prog : Program
 w : World
 K : PySem.W.Frag
 mg : Str -> Option Value
 base : Heap
 A : Around
 N : List Str
 s₀ : Shared
 H₀ : Hp
 env : Env
 outer : List Env
 stack : List Env
 ex : List Addr
 fn : Str -> Bool
 calm : Bool
 pn : List (Addr × Obj)
 xe : Value -> Shared -> Prop
def frs (l : List Env) : List Addr := l.filterMap (·.frame)
abbrev Cx.fs (X : Cx) : List Addr := frs X.outer
def Vis (sc : Scope) (x : Str) : Prop := sc.names.lookup x = some .local \/ sc.names.lookup x = some .cell \/ sc.names.lookup x = some .free
def Loc (sc : Scope) (x : Str) : Prop := sc.names.lookup x = some .local \/ sc.names.lookup x = some .cell
def Look (env : Env) (h : Heap) (m : Str -> Option Value) (x : Str) (u : Value) : Prop :=
 (env.kindOf x = some .local /\ m x = some u) \/ ((env.kindOf x = some .cell \/ env.kindOf x = some .free) /\ ∃ c, env.cells.lookup x = some c /\ h.IsCell c (some u))
structure Cx.Ok (X : Cx) : Prop where
 mod : Mod X.K X.mg X.base
 kind : X.env.scope.kind = .function
 glob : X.env.globals = mainGlobals
 blt : X.env.builtins = builtinsNs
 above : X.s₀.heap.objs.size <= X.env.locals
 inj : ∀ x y c, X.env.cells.lookup x = some c -> X.env.cells.lookup y = some c -> x = y
 has : ∀ x, (X.env.kindOf x = some .cell \/ X.env.kindOf x = some .free) -> ∃ c, X.env.cells.lookup x = some c
 cab : ∀ x c, X.fn x = true -> X.env.cells.lookup x = some c -> X.s₀.heap.objs.size <= c
 hd : X.calm = true -> X.A.handled = none
 frames : X.A.frames = some X.stack
 stk : X.stack = X.outer \/ (X.stack = X.env :: X.outer /\ X.env.frame = some X.env.locals)
 exf : ∀ b ∈ X.ex, b ≠ X.env.locals /\ ∀ x c, X.env.cells.lookup x = some c -> c ≠ b
 bs : ∀ b o, X.base.get? b = some o -> X.s₀.heap.get? b = some o /\ X.H₀ b = none
 bsz : X.base.objs.size <= X.s₀.heap.objs.size
 noex : ∀ b o, X.base.get? b = some o -> b ∉ X.ex
 exfs : ∀ b ∈ X.ex, b ∉ X.fs
 funs : X.s₀.heap.FunFrames X.base X.outer
 frf : ∀ b ∈ X.fs, X.H₀ b = none
structure Inv (X : Cx) (pins : List (Addr × Obj)) (σ : List (Option V)) (H : Hp) (s : Shared) : Prop where
 ok : X.Ok
 os : s.os = X.s₀.os
 bare : AllBare s.gens
 base : Un X.fs X.ex X.H₀ H X.s₀.heap s.heap
 loc : ∃ m, s.heap.Ns X.env.locals m /\ ∀ (i : Nat) (x : Str) (v : V), X.N[i]? = some x -> σ[i]? = some (some v) -> Vis X.env.scope x -> ∃ u, RelV v u /\ Look X.env s.heap m x u
 cell : ∀ x c, X.env.cells.lookup x = some c -> ∃ v, s.heap.IsCell c v
 free : H X.env.locals = none
 freeC : ∀ x c, X.env.cells.lookup x = some c -> H c = none
 pin : ∀ p ∈ X.pn ++ pins, s.heap.get? p.1 = some p.2 /\ H p.1 = none /\ p.1 ≠ X.env.locals /\ p.1 ∉ X.fs /\ ∀ v, p.2.data ≠ .cell v
 hok : HOk X.prog X.w H s.heap
 len : σ.length = X.N.length
section
variable {X : Cx} {pins : List (Addr × Obj)} {σ : List (Option V)} {H H' : Hp} {s : Shared} {h' : Heap}
theorem Cx.Ok.nofr (ok : X.Ok) {b : Addr} {o : Obj} (e : X.base.get? b = some o) : b ∉ X.fs := fun hb => by
 have := (ok.funs.mem hb).1
 rw [e] at this; cases this
theorem Inv.bs (I : Inv X pins σ H s) : ∀ b o, X.base.get? b = some o -> s.heap.get? b = some o /\ H b = none := fun b o e =>
 ⟨I.base.keep b o (I.ok.bs b o e).1 (I.ok.bs b o e).2 (I.ok.nofr e) (I.ok.noex b o e), I.base.free b o (I.ok.bs b o e).1 (I.ok.bs b o e).2 (I.ok.noex b o e)⟩
theorem Inv.bk (I : Inv X pins σ H s) : ∀ b o, X.base.get? b = some o -> s.heap.get? b = some o := fun b o e => (I.bs b o e).1
theorem Inv.mod (I : Inv X pins σ H s) : Mod X.K X.mg X.base := I.ok.mod
theorem Inv.kIn (I : Inv X pins σ H s) : X.K.In s.heap := I.ok.mod.kin.keeps I.bk
theorem Inv.fr (I : Inv X pins σ H s) : ∃ m, Fr X.base X.env.locals s.heap m :=
 let ⟨m, hn, _⟩ := I.loc
 ⟨m, hn, I.bk, Nat.le_trans I.ok.bsz I.ok.above⟩
theorem Inv.lt (I : Inv X pins σ H s) : X.env.locals < s.heap.objs.size := let ⟨_, hn, _⟩ := I.loc; hn.lt
theorem Inv.sz (I : Inv X pins σ H s) : X.s₀.heap.objs.size <= s.heap.objs.size := Nat.le_trans I.ok.above (Nat.le_of_lt I.lt)
theorem Inv.nofs (I : Inv X pins σ H s) {a : Addr} (h : s.heap.objs.size <= a) : a ∉ X.fs := fun hb => by
 obtain ⟨_, o, ho, _⟩ := I.ok.funs.mem hb
 exact absurd (Nat.lt_of_lt_of_le (Heap.lt_size ho) (Nat.le_trans I.sz h)) (Nat.lt_irrefl _)
theorem Inv.cne (I : Inv X pins σ H s) : ∀ x c, X.env.cells.lookup x = some c -> c ≠ X.env.locals := fun x c e z => by
 obtain ⟨v, o, ho, hd⟩ := I.cell x c e
 obtain ⟨m, ⟨o', es, ep, ho', hd', _⟩, _⟩ := I.loc
 rw [z, ho'] at ho; cases ho; rw [hd'] at hd; cases hd
theorem Inv.funs (I : Inv X pins σ H s) : s.heap.FunFrames X.base X.outer := by
 have all : ∀ (l : List Env), (∀ b ∈ frs l, b ∈ X.fs) -> X.s₀.heap.FunFrames X.base l -> s.heap.FunFrames X.base l := by
  intro l
  induction l with
  | nil => intro _ _; trivial
  | cons env r ih =>
   intro hs hl
   obtain ⟨hk, ⟨L, o, hf, hn, ho, hd⟩, hr⟩ := hl
   have hL : L ∈ X.fs := hs L (by unfold frs; rw [List.filterMap_cons, hf]; exact List.mem_cons_self)
   obtain ⟨sl, e⟩ := I.base.slot L o ho (I.ok.frf L hL) hL fun z => I.ok.exfs L z hL
   exact ⟨hk, ⟨L, _, hf, hn, e, hd⟩, ih (fun b hb => hs b (by unfold frs; rw [List.filterMap_cons, hf]; exact List.mem_cons_of_mem _ hb)) hr⟩
 exact all X.outer (fun _ hb => hb) I.ok.funs
theorem Inv.stack (I : Inv X pins σ H s) : s.heap.FunFrames X.base X.stack := by
 rcases I.ok.stk with e | ⟨e, hf⟩
 ·rw [e]; exact I.funs
 ·rw [e]
  obtain ⟨m, hn, _⟩ := I.loc
  refine .cons (by rw [I.ok.kind]; decide) hf hn ?_ I.funs
  exact Heap.get?_none_of_le (Nat.le_trans I.ok.bsz I.ok.above)
theorem Inv.stkSub (I : Inv X pins σ H s) : ∀ b ∈ frs X.stack, b ∈ X.env.locals :: X.fs := fun b hb => by
 rcases I.ok.stk with e | ⟨e, hf⟩
 ·rw [e] at hb; exact List.mem_cons_of_mem _ hb
 ·rw [e] at hb
  unfold frs at hb
  rw [List.filterMap_cons, hf] at hb
  exact hb
theorem Inv.stkFree (I : Inv X pins σ H s) : ∀ b ∈ frs X.stack, H b = none := fun b hb => by
 rcases List.mem_cons.mp (I.stkSub b hb) with e | hb
 ·rw [e]; exact I.free
 ·obtain ⟨_, o, ho, _⟩ := I.ok.funs.mem hb
  exact I.base.free b o ho (I.ok.frf b hb) fun z => I.ok.exfs b z hb
theorem Inv.step {g' : Array GenState} {t' : Nat} {d' : Drawn} {ch : List Addr} (I : Inv X pins σ H s)
  (hch : ∀ b ∈ ch, (b ∈ X.ex \/ X.s₀.heap.objs.size <= b) /\ b ≠ X.env.locals /\ (∀ x c, X.env.cells.lookup x = some c -> c ≠ b) /\ ∀ p ∈ X.pn ++ pins, p.1 ≠ b)
  (keep : ∀ b o, b ≠ X.env.locals -> b ∉ X.fs -> b ∉ ch -> s.heap.get? b = some o -> H b = none -> h'.get? b = some o)
  (slot : ∀ b o, b ≠ X.env.locals -> b ∈ X.fs -> b ∉ ch -> s.heap.get? b = some o -> H b = none -> ∃ sl, h'.get? b = some { o with slots := sl }) (free : ∀ b o, b ∉ ch -> s.heap.get? b = some o -> H b = none -> H' b = none)
  (there : ∀ b o, b ∉ ch -> s.heap.get? b = some o -> ∃ o', h'.get? b = some o')
  (tups : ∀ b xs, H b = some (.tup xs) -> H' b = some (.tup xs)) (frzs : ∀ b o u, H b = some (.frz o u) -> H' b = some (.frz o u)) (tbls : ∀ b ps, H b = some (.tbl ps) -> ∃ more, H' b = some (.tbl (ps ++ more)))
  (ns : ∀ m, s.heap.Ns X.env.locals m -> h'.Ns X.env.locals m) (hok : HOk X.prog X.w H' h') (hg : AllBare g') :
  Inv X pins σ H' { s with heap := h', gens := g', drawn := d', toks := t' } := by
 have neL : ∀ b o, X.s₀.heap.get? b = some o -> b ≠ X.env.locals := fun b o e => Nat.ne_of_lt (Nat.lt_of_lt_of_le (Heap.lt_size e) I.ok.above)
 have neC : ∀ b o, X.s₀.heap.get? b = some o -> b ∉ X.ex -> b ∉ ch := fun b o e hx hb => by
  rcases (hch b hb).1 with z | z
  ·exact hx z
  ·exact absurd (Nat.lt_of_lt_of_le (Heap.lt_size e) z) (Nat.lt_irrefl _)
 have cellK : ∀ x c, X.env.cells.lookup x = some c -> ∀ v, s.heap.IsCell c v -> h'.IsCell c v := fun x c e v ⟨o, ho, hd⟩ => by
  have nch : c ∉ ch := fun z => (hch c z).2.2.1 x c e rfl
  by_cases hc : c ∈ X.fs
  ·obtain ⟨sl, q⟩ := slot c o (I.cne x c e) hc nch ho (I.freeC x c e)
   exact ⟨_, q, hd⟩
  ·exact ⟨o, keep c o (I.cne x c e) hc nch ho (I.freeC x c e), hd⟩
 refine ⟨I.ok, I.os, hg, ⟨fun b o e n hb hx => ?_, fun b o e n hb hx => ?_, fun b o e n hx => ?_, fun b o e hx => ?_, fun b xs e => tups b xs (I.base.tups b xs e), fun b o xs e => frzs b o xs (I.base.frzs b o xs e), fun b ps e => ?_⟩, ?_, fun x c e => ?_, ?_, fun x c e => ?_, fun p hp => ?_, hok, I.len⟩
 ·exact keep b o (neL b o e) hb (neC b o e hx) (I.base.keep b o e n hb hx) (I.base.free b o e n hx)
 ·obtain ⟨sl, e1⟩ := I.base.slot b o e n hb hx
  obtain ⟨sl', e2⟩ := slot b _ (neL b o e) hb (neC b o e hx) e1 (I.base.free b o e n hx)
  exact ⟨sl', e2⟩
 ·obtain ⟨o', e1⟩ := I.base.there b o e hx
  exact free b o' (neC b o e hx) e1 (I.base.free b o e n hx)
 ·obtain ⟨o', e1⟩ := I.base.there b o e hx
  exact there b o' (neC b o e hx) e1
 ·obtain ⟨m1, e1⟩ := I.base.tbls b ps e
  obtain ⟨m2, e2⟩ := tbls b _ e1
  exact ⟨m1 ++ m2, by rw [e2, Array.append_assoc]⟩
 ·obtain ⟨m, hn, hl⟩ := I.loc
  refine ⟨m, ns m hn, fun i x v e1 e2 e3 => ?_⟩
  obtain ⟨u, r, l⟩ := hl i x v e1 e2 e3
  refine ⟨u, r, ?_⟩
  rcases l with l | ⟨k, c, e, z⟩
  ·exact .inl l
  ·exact .inr ⟨k, c, e, cellK x c e _ z⟩
 ·obtain ⟨v, z⟩ := I.cell x c e
  exact ⟨v, cellK x c e v z⟩
 ·obtain ⟨m, ⟨o, _, _, ho, _⟩, _⟩ := I.loc
  exact free _ o (fun z => (hch _ z).2.1 rfl) ho I.free
 ·obtain ⟨v, o, ho, hd⟩ := I.cell x c e
  exact free c o (fun z => (hch c z).2.2.1 x c e rfl) ho (I.freeC x c e)
 ·obtain ⟨e, n, ne, nf, d⟩ := I.pin p hp
  have nch : p.1 ∉ ch := fun z => (hch p.1 z).2.2.2 p hp rfl
  exact ⟨keep p.1 p.2 ne nf nch e n, free p.1 p.2 nch e n, ne, nf, d⟩
theorem Inv.un {t' : Nat} (I : Inv X pins σ H s) (u : Un X.fs [] H H' s.heap h') (hok : HOk X.prog X.w H' h') : Inv X pins σ H' { s with heap := h', toks := t' } := by
 obtain ⟨m, ⟨o, es, ep, ho, r⟩, _⟩ := id I.loc
 obtain ⟨sl, hL⟩ := u.any ho I.free (by simp)
 exact I.step (g' := s.gens) (d' := s.drawn) (ch := []) (fun _ z => nomatch z) (fun b o _ hb _ e n => u.keep b o e n hb (by simp)) (fun b o _ hb _ e n => u.slot b o e n hb (by simp)) (fun b o _ e n => u.free b o e n (by simp)) (fun b o _ e => u.there b o e (by simp)) u.tups u.frzs u.tbls (fun m' hm => by
  obtain ⟨o', es', ep', ho', r'⟩ := hm
  rw [ho] at ho'; cases ho'
  exact ⟨_, es', ep', hL, r'⟩) hok I.bare
theorem Inv.call {g' : Array GenState} {t' : Nat} {d' : Drawn} {ch : List Addr} (I : Inv X pins σ H s) (u : Un (frs X.stack) ch H H' s.heap h') (hok : HOk X.prog X.w H' h') (hg : AllBare g')
  (hch : ∀ b ∈ ch, (b ∈ X.ex \/ X.s₀.heap.objs.size <= b) /\ b ≠ X.env.locals /\ (∀ x c, X.env.cells.lookup x = some c -> c ≠ b) /\ ∀ p ∈ X.pn ++ pins, p.1 ≠ b) :
  Inv X pins σ H' { s with heap := h', gens := g', drawn := d', toks := t' } := by
 obtain ⟨m, ⟨o, es, ep, ho, r⟩, _⟩ := id I.loc
 obtain ⟨sl, hL⟩ := u.any ho I.free fun z => (hch _ z).2.1 rfl
 exact I.step (ch := ch) hch (fun b o hL hb hc e n => u.keep b o e n (fun z => (List.mem_cons.mp (I.stkSub b z)).elim hL hb) hc) (fun b o _ _ hc e n => u.any e n hc) (fun b o hc e n => u.free b o e n hc) (fun b o hc e => u.there b o e hc) u.tups u.frzs u.tbls (fun m' hm => by
  obtain ⟨o', es', ep', ho', r'⟩ := hm
  rw [ho] at ho'; cases ho'
  exact ⟨_, es', ep', hL, r'⟩) hok hg
theorem Inv.turned {t' : Nat} {it : Addr} (I : Inv X pins σ H s) (k : ∀ b o, b ≠ it -> s.heap.get? b = some o -> h'.get? b = some o) (hn : H it = none) (hL : it ≠ X.env.locals)
  (h1 : it ∈ X.ex \/ X.s₀.heap.objs.size <= it) (h2 : ∀ x c, X.env.cells.lookup x = some c -> c ≠ it) (h3 : ∀ p ∈ X.pn ++ pins, p.1 ≠ it) : Inv X pins σ H { s with heap := h', toks := t' } := by
 have nit : ∀ b u, H b = some u -> b ≠ it := fun b u e z => by rw [z, hn] at e; cases e
 refine I.step (g' := s.gens) (d' := s.drawn) (ch := [it]) (fun b hb => ?_) (fun b o _ _ hc e _ => k b o (fun z => hc (by simp [z])) e) (fun b o _ _ hc e _ => ⟨o.slots, k b o (fun z => hc (by simp [z])) e⟩) (fun _ _ _ _ n => n)
  (fun b o hc e => ⟨o, k b o (fun z => hc (by simp [z])) e⟩) (fun _ _ e => e) (fun _ _ _ e => e) (fun b ps e => ⟨#[], by rw [e]; simp⟩) (fun m hm => ?_) (fun b u e => ?_) I.bare
 ·have e : b = it := by simpa using hb
  subst e
  exact ⟨h1, hL, h2, h3⟩
 ·obtain ⟨o, es, ep, ho, r⟩ := hm
  exact ⟨o, es, ep, k _ o (Ne.symm hL) ho, r⟩
 ·refine (I.hok b u e).stay (fun c v hc q => k c v ?_ q) (fun _ q => q) fun _ _ q => q
  rcases hc with z | z
  ·rw [z]; exact nit b u e
  ·exact nit c _ z
theorem Inv.tok (I : Inv X pins σ H s) (t : Nat) : Inv X pins σ H { s with toks := t } := I.un (h' := s.heap) (t' := t) Un.refl I.hok
theorem Inv.kept {t' : Nat} (I : Inv X pins σ H s) (k : ∀ b u, s.heap.get? b = some u -> h'.get? b = some u) : Inv X pins σ H { s with heap := h', toks := t' } := I.un (Un.kept k) (I.hok.kept k)
theorem Inv.laid {a : Addr} {o : HO} {t' : Nat} (I : Inv X pins σ H s) (k : ∀ b u, s.heap.get? b = some u -> h'.get? b = some u) (hp : s.heap.objs.size <= a) (new : ObjOk X.prog X.w (upd H a o) h' a o) :
  Inv X pins σ (upd H a o) { s with heap := h', toks := t' } := I.un (Un.laid k hp (I.hok.fresh hp)) (I.hok.laid k hp new)
theorem Inv.write {x e : Addr} {o : HO} {t' : Nat} (I : Inv X pins σ H s) (mu : Mut (H x)) (he : e = x \/ H e = some (.own x)) (k : ∀ b u, b ≠ e -> s.heap.get? b = some u -> h'.get? b = some u) (heo : ∃ u, h'.get? e = some u)
  (new : ObjOk X.prog X.w (upd H x o) h' x o) : Inv X pins σ (upd H x o) { s with heap := h', toks := t' } := I.un (Un.write mu he k heo) (I.hok.write mu he k heo new)
theorem Inv.pins_of {pins' : List (Addr × Obj)} (I : Inv X pins σ H s) (h : ∀ p ∈ pins', s.heap.get? p.1 = some p.2 /\ H p.1 = none /\ p.1 ≠ X.env.locals /\ p.1 ∉ X.fs /\ ∀ v, p.2.data ≠ .cell v) : Inv X pins' σ H s :=
 ⟨I.ok, I.os, I.bare, I.base, I.loc, I.cell, I.free, I.freeC, fun p hp => (List.mem_append.mp hp).elim (fun z => I.pin p (List.mem_append_left _ z)) (h p), I.hok, I.len⟩
theorem nodup_ix {N : List Str} (hN : N.Nodup) {i j : Nat} {x : Str} (a : N[i]? = some x) (b : N[j]? = some x) : i = j := by
 obtain ⟨h1, e1⟩ := List.getElem?_eq_some_iff.mp a
 obtain ⟨h2, e2⟩ := List.getElem?_eq_some_iff.mp b
 exact (List.getElem_inj hN).mp (e1.trans e2.symm)
theorem store_ok2 {M : Model} {A : Around} {E : Value -> Shared -> Prop} {i : Nat} {x : Str} {v : V} {u : Value} {Q : Unit -> Shared -> Prop} (I : Inv X pins σ H s) (hN : X.N.Nodup) (hi : X.N[i]? = some x) (hx : Loc X.env.scope x) (r : RelV v u)
  (h : ∀ s', Inv X pins (σ.set i (some v)) H s' -> (∃ a, Heap.SameBut a s.heap s'.heap /\ (a = X.env.locals \/ X.env.cells.lookup x = some a)) -> Q () s') (hf : X.fn x = true \/ X.env.scope.names.lookup x = some .local := by first | exact .inl rfl | exact .inr rfl | assumption) : wpAny M A (storeName X.env x u) Q E s := by
 obtain ⟨m, hn, hl⟩ := id I.loc
 have hcls : (X.env.scope.kind == .class || (X.env.scope.kind == .module && X.env.locals != X.env.globals)) = false := by rw [I.ok.kind]; rfl
 have hiσ : i < σ.length := by rw [I.len]; exact (List.getElem?_eq_some_iff.mp hi).1
 have cne := I.cne
 have tracked : ∀ {a : Addr} {h' : Heap}, (∃ o, s.heap.get? a = some o /\ H a = none) -> Heap.SameBut a s.heap h' -> HOk X.prog X.w H h' := fun {a h'} ha hs b ob e => by
  obtain ⟨_, _, hfree⟩ := ha
  refine (I.hok b ob e).stay (fun c w' hc q => (hs.2 c ?_).trans q) (fun _ q => q) fun _ _ q => q
  rintro rfl
  rcases hc with rfl | hc
  ·rw [hfree] at e; cases e
  ·rw [hfree] at hc; cases hc
 rcases hx with hk | hk
 ·refine wpAny_storeName_local hk hn (fun h' hn' hs => ?_) hcls
  obtain ⟨oL, _, _, hoL, _⟩ := id hn
  refine h _ ⟨I.ok, I.os, I.bare, ⟨fun b o e n hb hx => ?_, fun b o e n hb hx => ?_, I.base.free, fun b o e hx => ?_, I.base.tups, I.base.frzs, I.base.tbls⟩, ⟨_, hn', fun j y v' e1 e2 e3 => ?_⟩, fun y c e => ?_, I.free, I.freeC, fun p hp => ?_, tracked ⟨oL, hoL, I.free⟩ hs, by simpa using I.len⟩ ⟨_, hs, .inl rfl⟩
  ·exact (hs.2 b (Nat.ne_of_lt (Nat.lt_of_lt_of_le (Heap.lt_size e) I.ok.above))).trans (I.base.keep b o e n hb hx)
  ·obtain ⟨sl, e1⟩ := I.base.slot b o e n hb hx
   exact ⟨sl, (hs.2 b (Nat.ne_of_lt (Nat.lt_of_lt_of_le (Heap.lt_size e) I.ok.above))).trans e1⟩
  ·obtain ⟨o', e1⟩ := I.base.there b o e hx
   exact ⟨o', (hs.2 b (Nat.ne_of_lt (Nat.lt_of_lt_of_le (Heap.lt_size e) I.ok.above))).trans e1⟩
  ·by_cases hj : j = i
   ·subst hj
    rw [hi] at e1; cases e1
    rw [List.getElem?_set_self hiσ] at e2
    cases e2
    exact ⟨u, r, .inl ⟨hk, by simp⟩⟩
   ·rw [List.getElem?_set_ne (Ne.symm hj)] at e2
    obtain ⟨u', r', q⟩ := hl j y v' e1 e2 e3
    refine ⟨u', r', ?_⟩
    rcases q with ⟨k, e⟩ | ⟨k, c, e, z⟩
    ·refine .inl ⟨k, ?_⟩
     have : y ≠ x := fun e => hj (nodup_ix hN e1 (e ▸ hi))
     simp [this, e]
    ·exact .inr ⟨k, c, e, z.sameBut hs (cne y c e)⟩
  ·obtain ⟨w', z⟩ := I.cell y c e
   exact ⟨w', z.sameBut hs (cne y c e)⟩
  ·obtain ⟨e, n, ne, nf, d⟩ := I.pin p hp
   exact ⟨(hs.2 p.1 ne).trans e, n, ne, nf, d⟩
 ·have hfn : X.fn x = true := by
   rcases hf with z | z
   ·exact z
   ·rw [z] at hk; cases hk
  obtain ⟨c, hc⟩ := I.ok.has x (.inl hk)
  obtain ⟨w', z⟩ := I.cell x c hc
  refine wpAny_storeName_cell I.ok.kind hk hc z (fun h' hc' hs => ?_)
  obtain ⟨oc, hoc, hocd⟩ := id z
  refine h { s with heap := h' } ⟨I.ok, I.os, I.bare, ⟨fun b o e n hb hx => ?_, fun b o e n hb hx => ?_, I.base.free, fun b o e hx => ?_, I.base.tups, I.base.frzs, I.base.tbls⟩, ⟨m, hn.sameBut hs (Ne.symm (cne x c hc)), fun j y v' e1 e2 e3 => ?_⟩, fun y c' e => ?_, I.free, I.freeC, fun p hp => ?_, tracked ⟨oc, hoc, I.freeC x c hc⟩ hs, by simpa using I.len⟩ ⟨c, hs, .inr hc⟩
  ·exact (hs.2 b (Nat.ne_of_lt (Nat.lt_of_lt_of_le (Heap.lt_size e) (I.ok.cab x c hfn hc)))).trans (I.base.keep b o e n hb hx)
  ·obtain ⟨sl, e1⟩ := I.base.slot b o e n hb hx
   exact ⟨sl, (hs.2 b (Nat.ne_of_lt (Nat.lt_of_lt_of_le (Heap.lt_size e) (I.ok.cab x c hfn hc)))).trans e1⟩
  ·obtain ⟨o', e1⟩ := I.base.there b o e hx
   exact ⟨o', (hs.2 b (Nat.ne_of_lt (Nat.lt_of_lt_of_le (Heap.lt_size e) (I.ok.cab x c hfn hc)))).trans e1⟩
  ·by_cases hj : j = i
   ·subst hj
    rw [hi] at e1; cases e1
    rw [List.getElem?_set_self hiσ] at e2
    cases e2
    exact ⟨u, r, .inr ⟨.inl hk, c, hc, hc'⟩⟩
   ·rw [List.getElem?_set_ne (Ne.symm hj)] at e2
    obtain ⟨u', r', q⟩ := hl j y v' e1 e2 e3
    refine ⟨u', r', ?_⟩
    rcases q with q | ⟨k, c', e, z'⟩
    ·exact .inl q
    ·refine .inr ⟨k, c', e, z'.sameBut hs ?_⟩
     rintro rfl
     exact hj (nodup_ix hN e1 (I.ok.inj _ _ _ e hc ▸ hi))
  ·by_cases hcc : c' = c
   ·subst hcc; exact ⟨_, hc'⟩
   ·obtain ⟨w2, z2⟩ := I.cell y c' e
    exact ⟨w2, z2.sameBut hs hcc⟩
  ·obtain ⟨e, n, ne, nf, d⟩ := I.pin p hp
   refine ⟨(hs.2 p.1 ?_).trans e, n, ne, nf, d⟩
   intro q
   rw [q, hoc] at e
   have q' : oc = p.2 := Option.some.inj e
   exact d w' (by rw [<- q']; exact hocd)
theorem store_ok {M : Model} {A : Around} {E : Value -> Shared -> Prop} {i : Nat} {x : Str} {v : V} {u : Value} {Q : Unit -> Shared -> Prop} (I : Inv X pins σ H s) (hN : X.N.Nodup) (hi : X.N[i]? = some x) (hx : Loc X.env.scope x) (r : RelV v u)
  (h : ∀ s', Inv X pins (σ.set i (some v)) H s' -> Q () s') (hf : X.fn x = true \/ X.env.scope.names.lookup x = some .local := by first | exact .inl rfl | exact .inr rfl | assumption) : wpAny M A (storeName X.env x u) Q E s :=
 store_ok2 I hN hi hx r (fun s' I' _ => h s' I') hf
theorem Inv.call' {s' : Shared} {ch : List Addr} (I : Inv X pins σ H s) (ho : s'.os = s.os) (u : Un (frs X.stack) ch H H' s.heap s'.heap) (hok : HOk X.prog X.w H' s'.heap) (hg : AllBare s'.gens)
  (hch : ∀ b ∈ ch, (b ∈ X.ex \/ X.s₀.heap.objs.size <= b) /\ b ≠ X.env.locals /\ (∀ x c, X.env.cells.lookup x = some c -> c ≠ b) /\ ∀ p ∈ X.pn ++ pins, p.1 ≠ b) : Inv X pins σ H' s' := by
 obtain ⟨h', g', d', t', o'⟩ := s'
 have e : o' = s.os := ho
 subst e
 exact I.call (g' := g') (t' := t') (d' := d') u hok hg hch
end
abbrev XK := Value -> Option Addr -> Hp -> Prop
abbrev St := List (Option V)
abbrev VK := V -> Hp -> Prop
abbrev TE := St -> Hp -> VK -> Prop
abbrev TT := St -> Hp -> (Bool -> Hp -> Prop) -> Prop
abbrev TA := St -> Hp -> (List V -> Hp -> Prop) -> Prop
structure Ends where
 nx : St -> Hp -> Prop
 rt : VK
 bk : St -> Hp -> Prop := fun _ _ => False
 ct : St -> Hp -> Prop := fun _ _ => False
abbrev TS := Ends -> St -> Hp -> Prop
def EP (X : Cx) (pins : List (Addr × Obj)) (σ : St) (Q : VK) (u : Value) (s' : Shared) : Prop := ∃ v H', Inv X pins σ H' s' /\ RelV v u /\ Q v H'
def TP (X : Cx) (pins : List (Addr × Obj)) (σ : St) (Q : Bool -> Hp -> Prop) (b : Bool) (s' : Shared) : Prop := ∃ H', Inv X pins σ H' s' /\ Q b H'
def AP (X : Cx) (pins : List (Addr × Obj)) (σ : St) (Q : List V -> Hp -> Prop) (us : List Value) (s' : Shared) : Prop := ∃ vs H', Inv X pins σ H' s' /\ Vals vs us /\ Q vs H'
def SP (X : Cx) (pins : List (Addr × Obj)) (D : Ends) (f : Flow) (s' : Shared) : Prop :=
 match f with
 | .next => ∃ σ' H', Inv X pins σ' H' s' /\ D.nx σ' H'
 | .brk => ∃ σ' H', Inv X pins σ' H' s' /\ D.bk σ' H'
 | .cont => ∃ σ' H', Inv X pins σ' H' s' /\ D.ct σ' H'
 | .ret u => ∃ v σ' H', Inv X pins σ' H' s' /\ RelV v u /\ D.rt v H'
def PE (X : Cx) (e : Expr) (t : TE) : Prop :=
 ∀ (pins : List (Addr × Obj)) (s : Shared) (σ : St) (H : Hp) (Q : VK), Inv X pins σ H s -> t σ H Q -> wpAny (model X.prog X.w) X.A (eval e X.env) (EP X pins σ Q) X.xe s
def PT (X : Cx) (e : Expr) (t : TT) : Prop :=
 ∀ (pins : List (Addr × Obj)) (s : Shared) (σ : St) (H : Hp) (Q : Bool -> Hp -> Prop), Inv X pins σ H s -> t σ H Q -> wpAny (model X.prog X.w) X.A (isTrue e X.env (eval e X.env)) (TP X pins σ Q) X.xe s
def PW (X : Cx) (e : Expr) (t : TT) : Prop :=
 ∀ (whole : Sem Value) (pins : List (Addr × Obj)) (s : Shared) (σ : St) (H : Hp) (Q : Bool -> Hp -> Prop), Inv X pins σ H s -> t σ H Q -> wpAny (model X.prog X.w) X.A (isTrue e X.env whole) (TP X pins σ Q) X.xe s
def PA (X : Cx) (es : List Expr) (t : TA) : Prop :=
 ∀ (pos : Pos) (pins : List (Addr × Obj)) (s : Shared) (σ : St) (H : Hp) (Q : List V -> Hp -> Prop), Inv X pins σ H s -> t σ H Q -> wpAny (model X.prog X.w) X.A (spliced (backTo pos (starEach es X.env))) (AP X pins σ Q) X.xe s
def PS (X : Cx) (st : Stmt) (t : TS) : Prop :=
 ∀ (pins : List (Addr × Obj)) (s : Shared) (σ : St) (H : Hp) (D : Ends), Inv X pins σ H s -> t D σ H -> wpAny (model X.prog X.w) X.A (exec st X.env) (SP X pins D) X.xe s
def PSs (X : Cx) (st : List Stmt) (t : TS) : Prop :=
 ∀ (pins : List (Addr × Obj)) (s : Shared) (σ : St) (H : Hp) (D : Ends), Inv X pins σ H s -> t D σ H -> wpAny (model X.prog X.w) X.A (execs st X.env) (SP X pins D) X.xe s
theorem thn {α : Type} {t : Sem α} {Q Q' : α -> Shared -> Prop} {M : Model} {A : Around} {E : Value -> Shared -> Prop} {s : Shared} (h : wpAny M A t Q E s) (hQ : ∀ a s, Q a s -> Q' a s) : wpAny M A t Q' E s := wpAny_mono h hQ fun _ _ x => x
end L2
namespace L2
open PySem PySem.Spec PyProof.Rows
section
variable {X : Cx}
def tVar (i : Nat) : TE := fun σ H Q => ∃ v, σ[i]? = some (some v) /\ Q v H
def tC (v : V) : TE := fun _ H Q => Q v H
theorem pe_var {i : Nat} {x : Str} {pos : Pos} (hN : X.N[i]? = some x) (hv : Vis X.env.scope x) (hd : (x == ("__debug__" : Str)) = false := by decide) (hcd : (x == ("__classdict__" : Str)) = false := by decide) : PE X (.Name x pos) (tVar i) := by
 intro pins s σ H Q I h
 obtain ⟨v, e, h⟩ := h
 obtain ⟨m, hn, hl⟩ := I.loc
 obtain ⟨u, r, l⟩ := hl i x v hN e hv
 have fin : EP X pins σ Q u s := ⟨v, H, I, r, h⟩
 rcases l with ⟨hk, hm⟩ | ⟨hk, c, hc, hcell⟩
 ·exact wpAny_Name (wpAny_loadName_local I.ok.kind hk hn hm fin) hd
 ·rcases hk with hk | hk
  ·exact wpAny_Name (wpAny_loadName_cell I.ok.kind hk hc hcell fin) hd
  ·exact wpAny_Name (wpAny_loadName_free I.ok.kind hk hc hcell fin hcd) hd
theorem pe_int {i j pos} : PE X (.Constant (.int i) j pos) (tC (.int i)) := fun _ _ _ H _ I h => wpAny_Constant_int ⟨.int i, H, I.tok _, ⟨_, rfl⟩, h⟩
theorem pe_bl {b j pos} : PE X (.Constant (.bool b) j pos) (tC (.bl b)) := fun _ _ _ H _ I h => Constant_bool ⟨.bl b, H, I, rfl, h⟩
theorem pe_non {j pos} : PE X (.Constant .none j pos) (tC .non) := fun _ _ _ H _ I h => Constant_none ⟨.non, H, I, rfl, h⟩
theorem pe_str {x j pos} : PE X (.Constant (.str x) j pos) (tC (.str x)) := fun _ _ _ H _ I h => Calls.Constant_str ⟨.str x, H, I.tok _, ⟨_, rfl⟩, h⟩
def Gl (X : Cx) (x : Str) : Prop := X.env.kindOf x = some .globalImplicit
theorem ld_glob {E : Value -> Shared -> Prop} {pins : List (Addr × Obj)} {s : Shared} {σ : St} {H : Hp} {x : Str} {u : Value} {pos : Pos} {Q : Value -> Shared -> Prop} (I : Inv X pins σ H s) (hg : Gl X x) (hm : X.mg x = some u) (h : Q u s)
  (hd : (x == ("__debug__" : Str)) = false := by decide) : wpAny (model X.prog X.w) X.A (eval (.Name x pos) X.env) Q E s :=
 Calls.Name_function_global I.ok.kind hg (Calls.loadGlobal_global (by rw [I.ok.glob]; exact I.mod.glob.keeps I.bk) hm h) hd
theorem ld_blt {E : Value -> Shared -> Prop} {pins : List (Addr × Obj)} {s : Shared} {σ : St} {H : Hp} {x : Str} {u : Value} {pos : Pos} {Q : Value -> Shared -> Prop} (I : Inv X pins σ H s) (hg : Gl X x) (hm : X.mg x = none) (hv : bootBuiltins x = some u) (h : Q u s)
  (hn : x ≠ "__name__" := by decide) (hd : (x == ("__debug__" : Str)) = false := by decide) : wpAny (model X.prog X.w) X.A (eval (.Name x pos) X.env) Q E s := by
 obtain ⟨mb, h1, h2⟩ := I.mod.blt
 exact Calls.Name_function_global I.ok.kind hg (Calls.loadGlobal_builtin (by rw [I.ok.glob]; exact I.mod.glob.keeps I.bk) hm (by rw [I.ok.blt]; exact h1.keeps I.bk) ((h2 x hn).trans hv) h) hd
theorem pe_glob {x : Str} {v : V} {u : Value} {pos : Pos} (hg : Gl X x) (hm : X.mg x = some u) (r : RelV v u) (hd : (x == ("__debug__" : Str)) = false := by decide) : PE X (.Name x pos) (tC v) :=
 fun _ _ _ H _ I h => ld_glob I hg hm ⟨v, H, I, r, h⟩ hd
theorem pe_bltn {x : Str} {v : V} {u : Value} {pos : Pos} (hg : Gl X x) (hm : X.mg x = none) (hv : bootBuiltins x = some u) (r : RelV v u) (hn : x ≠ "__name__" := by decide) (hd : (x == ("__debug__" : Str)) = false := by decide) : PE X (.Name x pos) (tC v) :=
 fun _ _ _ H _ I h => ld_blt I hg hm hv ⟨v, H, I, r, h⟩ hn hd
variable {a b : Expr} {ta tb : TE} {pos : Pos}
def tB (t : TE) : TT := fun σ H Q => t σ H fun x H1 => ∃ c, x = .bl c /\ Q c H1
theorem pt_val {e : Expr} {t : TE} (h : PE X e t) (he : ∀ whole, isTrue e X.env whole = (do let v <- whole; standAt e.pos; holding [v] (truthy v)) := by intro _; rfl) : PT X e (tB t) := by
 intro pins s σ H Q I hw
 refine isTrue_plain (thn (h pins s σ H _ I hw) fun v s1 ⟨x, H1, I1, r1, q1⟩ => ?_) (he _)
 obtain ⟨d, rfl, q⟩ := q1
 cases r1
 exact wpAny_truthy_bool ⟨H1, I1, q⟩
variable {tA tB' : TT} {rest : List Expr}
def tAnd (t u : TT) : TT := fun σ H Q => t σ H fun c H1 => if c = true then u σ H1 Q else Q false H1
def tOr (t u : TT) : TT := fun σ H Q => t σ H fun c H1 => if c = true then Q true H1 else u σ H1 Q
def tNot (t : TT) : TT := fun σ H Q => t σ H fun c H1 => Q (!c) H1
theorem pw_and1 (ha : PT X a tA) : PW X (.BoolOp .And [a] pos) tA := by
 intro wh pins s σ H Q I h
 refine isTrue_and (thn (ha pins s σ H Q I h) fun c s1 e => ?_)
 cases c with
 | true => exact isTrue_and_nil e
 | false => exact e
theorem pw_or1 (ha : PT X a tA) : PW X (.BoolOp .Or [a] pos) tA := by
 intro wh pins s σ H Q I h
 refine isTrue_or (thn (ha pins s σ H Q I h) fun c s1 e => ?_)
 cases c with
 | false => exact isTrue_or_nil e
 | true => exact e
theorem pw_and (ha : PT X a tA) (hb : PW X (.BoolOp .And (b :: rest) pos) tB') : PW X (.BoolOp .And (a :: b :: rest) pos) (tAnd tA tB') := by
 intro wh pins s σ H Q I h
 refine isTrue_and (thn (ha pins s σ H _ I h) fun c s1 ⟨H1, I1, q1⟩ => ?_)
 cases c with
 | true => exact hb wh pins s1 σ H1 Q I1 q1
 | false => exact ⟨H1, I1, q1⟩
theorem pw_or (ha : PT X a tA) (hb : PW X (.BoolOp .Or (b :: rest) pos) tB') : PW X (.BoolOp .Or (a :: b :: rest) pos) (tOr tA tB') := by
 intro wh pins s σ H Q I h
 refine isTrue_or (thn (ha pins s σ H _ I h) fun c s1 ⟨H1, I1, q1⟩ => ?_)
 cases c with
 | true => exact ⟨H1, I1, q1⟩
 | false => exact hb wh pins s1 σ H1 Q I1 q1
theorem pt_not (ha : PT X a tA) : PT X (.UnaryOp .Not a pos) (tNot tA) := by
 intro pins s σ H Q I h
 exact isTrue_not (ha pins s σ H (fun c H1 => Q (!c) H1) I h)
def tAndV (ta tb : TE) : TE := fun σ H Q => ta σ H fun x H1 => ∃ c, x = .bl c /\ if c = true then tb σ H1 Q else Q (.bl false) H1
def tOrV (ta tb : TE) : TE := fun σ H Q => ta σ H fun x H1 => ∃ c, x = .bl c /\ if c = true then Q (.bl true) H1 else tb σ H1 Q
def tNotV (ta : TE) : TE := fun σ H Q => ta σ H fun x H1 => ∃ c, x = .bl c /\ Q (.bl (!c)) H1
theorem pe_one {op} {t : TE} (h : PE X a t) : PE X (.BoolOp op [a] pos) t := fun pins s σ H Q I hw => BoolOp_one (h pins s σ H Q I hw)
theorem pe_and (ha : PE X a ta) (hb : PE X (.BoolOp .And (b :: rest) pos) tb) : PE X (.BoolOp .And (a :: b :: rest) pos) (tAndV ta tb) := by
 intro pins s σ H Q I h
 refine BoolOp_and (thn (ha pins s σ H _ I h) fun v s1 ⟨x, H1, I1, r1, q1⟩ => ?_)
 obtain ⟨c, rfl, q1⟩ := q1
 cases r1
 refine wpAny_truthy_bool ?_
 cases c with
 | true => exact hb pins s1 σ H1 Q I1 q1
 | false => exact ⟨.bl false, H1, I1, rfl, q1⟩
theorem pe_or (ha : PE X a ta) (hb : PE X (.BoolOp .Or (b :: rest) pos) tb) : PE X (.BoolOp .Or (a :: b :: rest) pos) (tOrV ta tb) := by
 intro pins s σ H Q I h
 refine BoolOp_or (thn (ha pins s σ H _ I h) fun v s1 ⟨x, H1, I1, r1, q1⟩ => ?_)
 obtain ⟨c, rfl, q1⟩ := q1
 cases r1
 refine wpAny_truthy_bool ?_
 cases c with
 | false => exact hb pins s1 σ H1 Q I1 q1
 | true => exact ⟨.bl true, H1, I1, rfl, q1⟩
theorem pe_not (ha : PE X a ta) : PE X (.UnaryOp .Not a pos) (tNotV ta) := by
 intro pins s σ H Q I h
 refine UnaryOp_ (thn (ha pins s σ H _ I h) fun v s1 ⟨x, H1, I1, r1, q1⟩ => ?_)
 obtain ⟨c, rfl, q1⟩ := q1
 cases r1
 exact not_of (wpAny_truthy_bool ⟨.bl (!c), H1, I1, rfl, q1⟩)
def tIf (t : TT) (ta tb : TE) : TE := fun σ H Q => t σ H fun c H1 => if c = true then ta σ H1 Q else tb σ H1 Q
theorem pe_ifExp {c : Expr} (hc : PT X c tA) (ha : PE X a ta) (hb : PE X b tb) : PE X (.IfExp c a b pos) (tIf tA ta tb) := by
 intro pins s σ H Q I h
 refine wpAny_IfExp (thn (hc pins s σ H _ I h) fun d s1 ⟨H1, I1, q1⟩ => ?_)
 cases d with
 | true => exact ha pins s1 σ H1 Q I1 q1
 | false => exact hb pins s1 σ H1 Q I1 q1
end
end L2
namespace L2
open PySem PySem.Spec PyProof.Rows
def SqL (K : PySem.W.Frag) (H : Hp) (a : Addr) (xs : List V) : Prop :=
 Rd H a (.lst xs) \/
  ∃ (o : Obj) (its : Array Value) (n : Nat), K.lookup a = some o /\ o.cls = .type "list" /\ o.dict = none /\ o.data = .seq its n /\ its.size <= sizeLine /\ Vals xs its.toList
def SqT (K : PySem.W.Frag) (H : Hp) (a : Addr) (xs : List V) : Prop :=
 Rd H a (.tup xs) \/
  ∃ (o : Obj) (its : Array Value) (n : Nat), K.lookup a = some o /\ o.cls = .type "tuple" /\ o.data = .seq its n /\ its.size <= sizeLine /\ Vals xs its.toList
def absV : Value -> Option V
 | .none => some .non
 | .bool b => some (.bl b)
 | .int i _ => some (.int i)
 | .str x _ => some (.str x)
 | .bytes b _ => some (.byt b)
 | .float b _ => some (.flt b)
 | .ref a => some (.ref a)
 | .type n => some (.ty n)
 | _ => none
theorem RelV.abs {x : V} {u : Value} (r : RelV x u) : absV u = some x := by
 cases x with
 | non => cases r; rfl
 | bl _ => cases r; rfl
 | int _ => obtain ⟨t, rfl⟩ := r; rfl
 | str _ => obtain ⟨t, rfl⟩ := r; rfl
 | byt _ => obtain ⟨t, rfl⟩ := r; rfl
 | flt _ => obtain ⟨t, rfl⟩ := r; rfl
 | ref _ => cases r; rfl
 | ty _ => cases r; rfl
theorem RelV.inj {x y : V} {u : Value} (r : RelV x u) (q : RelV y u) : x = y := Option.some.inj (r.abs.symm.trans q.abs)
theorem Vals.inj : ∀ {xs ys : List V} {us : List Value}, Vals xs us -> Vals ys us -> xs = ys
 | _, _, _, .nil, .nil => rfl
 | _, _, _, .cons r t, .cons r' t' => by rw [r.inj r', Vals.inj t t']
section
variable {X : Cx} {pins : List (Addr × Obj)} {σ : St} {H : Hp} {s : Shared} {a : Addr} {xs ys : List V}
theorem SqL.of {K : PySem.W.Frag} (h : H a = some (.lst xs)) : SqL K H a xs := .inl (.inl h)
theorem SqT.of {K : PySem.W.Frag} (h : H a = some (.tup xs)) : SqT K H a xs := .inl (.inl h)
theorem Inv.list (I : Inv X pins σ H s) (h : SqL X.K H a xs) : ∃ its : List Value, Vals xs its /\ PlainL s.heap a its.toArray /\ xs.length <= sizeLine := by
 rcases h with h | ⟨o, its, n, hk, hc, hd, hs, hz, r⟩
 ·obtain ⟨z, its, n, r, e⟩ := h.ok I.hok
  exact ⟨its, r, ⟨_, n, e, rfl, rfl, rfl⟩, z⟩
 ·refine ⟨its.toList, r, ⟨o, n, I.kIn a o hk, hc, hd, by simpa using hs⟩, ?_⟩
  have e := r.length
  simp only [Array.length_toList] at e
  omega
theorem Inv.tuple (I : Inv X pins σ H s) (h : SqT X.K H a xs) : ∃ its : List Value, Vals xs its /\ IsTup s.heap a its.toArray /\ xs.length <= sizeLine := by
 rcases h with h | ⟨o, its, n, hk, hc, hs, hz, r⟩
 ·obtain ⟨z, its, r, p⟩ := h.ok I.hok
  exact ⟨its, r, p.tup, z⟩
 ·refine ⟨its.toList, r, ⟨o, I.kIn a o hk, hc, n, by simpa using hs⟩, ?_⟩
  have e := r.length
  simp only [Array.length_toList] at e
  omega
theorem Inv.list_inj (I : Inv X pins σ H s) (h : SqL X.K H a xs) (h' : SqL X.K H a ys) : xs = ys := by
 obtain ⟨its, r, ⟨o, n, e, _, _, d⟩, _⟩ := I.list h
 obtain ⟨its', r', ⟨o', n', e', _, _, d'⟩, _⟩ := I.list h'
 rw [e] at e'; cases e'
 rw [d] at d'
 injection d' with d1 _
 have : its = its' := by simpa using congrArg Array.toList d1
 subst this
 exact r.inj r'
theorem Inv.tuple_inj (I : Inv X pins σ H s) (h : SqT X.K H a xs) (h' : SqT X.K H a ys) : xs = ys := by
 obtain ⟨its, r, ⟨o, e, _, n, d⟩, _⟩ := I.tuple h
 obtain ⟨its', r', ⟨o', e', _, n', d'⟩, _⟩ := I.tuple h'
 rw [e] at e'; cases e'
 rw [d] at d'
 injection d' with d1 _
 have : its = its' := by simpa using congrArg Array.toList d1
 subst this
 exact r.inj r'
end
abbrev Cx.wish (X : Cx) (E : Value -> Shared -> Prop) : Cx := { X with xe := E }
abbrev Cx.nox (X : Cx) : Cx := X.wish fun _ _ => False
theorem Cx.Ok.wish {X : Cx} (ok : X.Ok) (E : Value -> Shared -> Prop) : (X.wish E).Ok :=
 ⟨ok.mod, ok.kind, ok.glob, ok.blt, ok.above, ok.inj, ok.has, ok.cab, ok.hd, ok.frames, ok.stk, ok.exf, ok.bs, ok.bsz, ok.noex, ok.exfs, ok.funs, ok.frf⟩
theorem Cx.Ok.unwish {X : Cx} {E : Value -> Shared -> Prop} (ok : (X.wish E).Ok) : X.Ok :=
 ⟨ok.mod, ok.kind, ok.glob, ok.blt, ok.above, ok.inj, ok.has, ok.cab, ok.hd, ok.frames, ok.stk, ok.exf, ok.bs, ok.bsz, ok.noex, ok.exfs, ok.funs, ok.frf⟩
section
variable {X : Cx} {pins : List (Addr × Obj)} {σ : St} {H : Hp} {s : Shared} {E : Value -> Shared -> Prop}
theorem Inv.wish (I : Inv X pins σ H s) (E : Value -> Shared -> Prop) : Inv (X.wish E) pins σ H s := ⟨I.ok.wish E, I.os, I.bare, I.base, I.loc, I.cell, I.free, I.freeC, I.pin, I.hok, I.len⟩
theorem Inv.unwish (I : Inv (X.wish E) pins σ H s) : Inv X pins σ H s := ⟨I.ok.unwish, I.os, I.bare, I.base, I.loc, I.cell, I.free, I.freeC, I.pin, I.hok, I.len⟩
theorem SP.unwish {D : Ends} {f : Flow} {s' : Shared} (h : SP (X.wish E) pins D f s') : SP X pins D f s' := by
 cases f with
 | next => obtain ⟨σ', H', I, q⟩ := h; exact ⟨σ', H', I.unwish, q⟩
 | brk => obtain ⟨σ', H', I, q⟩ := h; exact ⟨σ', H', I.unwish, q⟩
 | cont => obtain ⟨σ', H', I, q⟩ := h; exact ⟨σ', H', I.unwish, q⟩
 | ret u => obtain ⟨v, σ', H', I, r, q⟩ := h; exact ⟨v, σ', H', I.unwish, r, q⟩
theorem PE.nox {e : Expr} {t : TE} (h : PE X.nox e t) : PE X e t := fun pins s σ H Q I hw =>
 wpAny_mono (h pins s σ H Q (I.wish _) hw) (fun _ _ ⟨v, H', I', r, q⟩ => ⟨v, H', I'.unwish, r, q⟩) fun _ _ z => False.elim z
theorem PT.nox {e : Expr} {t : TT} (h : PT X.nox e t) : PT X e t := fun pins s σ H Q I hw =>
 wpAny_mono (h pins s σ H Q (I.wish _) hw) (fun _ _ ⟨H', I', q⟩ => ⟨H', I'.unwish, q⟩) fun _ _ z => False.elim z
theorem PSs.nox {st : List Stmt} {t : TS} (h : PSs X.nox st t) : PSs X st t := fun pins s σ H D I hw =>
 wpAny_mono (h pins s σ H D (I.wish _) hw) (fun _ _ q => q.unwish) fun _ _ z => False.elim z
end
section
variable {X : Cx} {st : Stmt} {rest : List Stmt} {t u : TS} {e : Expr} {te : TE} {pos : Pos}
def tNext : TS := fun D σ H => D.nx σ H
def tSeq (t u : TS) : TS := fun D σ H => t { D with nx := u D } σ H
theorem pss_nil : PSs X [] tNext := fun _ _ σ H _ I h => wpAny_execs_nil ⟨σ, H, I, h⟩
theorem pss_cons (h1 : PS X st t) (h2 : PSs X rest u) : PSs X (st :: rest) (tSeq t u) := by
 intro pins s σ H D I h
 refine wpAny_execs_cons (thn (h1 pins s σ H { D with nx := u D } I h) fun f s1 q => ?_)
 cases f with
 | next =>
  obtain ⟨σ', H', I', q⟩ := q
  exact h2 pins s1 σ' H' D I' q
 | ret v => exact q
 | brk => exact q
 | cont => exact q
def tBreak : TS := fun D σ H => D.bk σ H
def tCont : TS := fun D σ H => D.ct σ H
theorem ps_pass : PS X (.Pass pos) tNext := fun _ _ σ H _ I h => wpAny_Pass ⟨σ, H, I, h⟩
theorem ps_break : PS X (.Break pos) tBreak := fun _ _ σ H _ I h => wpAny_Break ⟨σ, H, I, h⟩
theorem ps_continue : PS X (.Continue pos) tCont := fun _ _ σ H _ I h => wpAny_Continue ⟨σ, H, I, h⟩
theorem Inv.quiet {pins : List (Addr × Obj)} {σ : St} {H : Hp} {s : Shared} (I : Inv X pins σ H s) : interactive X.env = false := by simp [interactive, I.ok.kind]
def tDrop (te : TE) : TS := fun D σ H => te σ H fun _ H1 => D.nx σ H1
theorem ps_expr (he : PE X e te) (hs : swapsWith e none pos.line X.env = pure false := by rfl) : PS X (.Expr e pos) (tDrop te) := by
 intro pins s σ H D I h
 exact wpAny_Expr_any (thn (he pins s σ H _ I h) fun v s1 ⟨x, H1, I1, r1, q1⟩ => ⟨σ, H1, I1, q1⟩) I.quiet hs
def tRet (te : TE) : TS := fun D σ H => te σ H D.rt
theorem ps_ret (he : PE X e te) : PS X (.Return (some e) pos) (tRet te) := by
 intro pins s σ H D I h
 exact wpAny_Return_some (thn (he pins s σ H _ I h) fun v s1 ⟨x, H1, I1, r1, q1⟩ => ⟨x, σ, H1, I1, r1, q1⟩)
def tIfS (c : TT) (t u : TS) : TS := fun D σ H => c σ H fun b H1 => if b = true then t D σ H1 else u D σ H1
theorem ps_if {c : Expr} {a b : List Stmt} {tc : TT} (hc : PT X c tc) (ha : PSs X a t) (hb : PSs X b u) : PS X (.If c a b pos) (tIfS tc t u) := by
 intro pins s σ H D I h
 refine wpAny_If (thn (hc pins s σ H _ I h) fun d s1 ⟨H1, I1, q1⟩ => ?_)
 cases d with
 | true => exact ha pins s1 σ H1 D I1 q1
 | false => exact hb pins s1 σ H1 D I1 q1
end
abbrev TG := V -> St -> Hp -> (St -> Hp -> Prop) -> Prop
abbrev TGs := List V -> St -> Hp -> (St -> Hp -> Prop) -> Prop
def PG (X : Cx) (target : Expr) (t : TG) : Prop :=
 ∀ (pins : List (Addr × Obj)) (s : Shared) (σ : St) (H : Hp) (v : V) (u : Value) (Q : St -> Hp -> Prop), Inv X pins σ H s -> RelV v u -> t v σ H Q ->
  wpAny (model X.prog X.w) X.A (assign target X.env u) (fun _ s' => ∃ σ' H', Inv X pins σ' H' s' /\ Q σ' H') X.xe s
def PGs (X : Cx) (ts : List Expr) (t : TGs) : Prop :=
 ∀ (pins : List (Addr × Obj)) (s : Shared) (σ : St) (H : Hp) (vs : List V) (us : List Value) (Q : St -> Hp -> Prop), Inv X pins σ H s -> Vals vs us -> t vs σ H Q ->
  wpAny (model X.prog X.w) X.A (assignInOrder ((assignEach ts X.env).map (·.2)) us) (fun _ s' => ∃ σ' H', Inv X pins σ' H' s' /\ Q σ' H') X.xe s
abbrev TSet := V -> V -> V -> Hp -> (Hp -> Prop) -> Prop
def PSet (X : Cx) (t : TSet) : Prop :=
 ∀ (pins : List (Addr × Obj)) (s : Shared) (σ : St) (H : Hp) (o i v : V) (ov iv u : Value) (Q : Hp -> Prop), Inv X pins σ H s -> RelV o ov -> RelV i iv -> RelV v u -> t o i v H Q ->
  wpAny (model X.prog X.w) X.A (setItem ov iv u) (fun _ s' => ∃ H', Inv X pins σ H' s' /\ Q H') X.xe s
section
variable {X : Cx} {pos : Pos}
def gName (i : Nat) : TG := fun v σ H Q => Q (σ.set i (some v)) H
theorem pg_name {i : Nat} {x : Str} (hN : X.N.Nodup) (hi : X.N[i]? = some x) (hx : Loc X.env.scope x) (hf : X.fn x = true \/ X.env.scope.names.lookup x = some .local := by first | exact .inl rfl | exact .inr rfl | assumption) : PG X (.Name x pos) (gName i) := by
 intro pins s σ H v u Q I r h
 exact wpAny_assign_Name (store_ok I hN hi hx r (fun s' I' => ⟨_, H, I', h⟩) hf)
def gNil : TGs := fun vs σ H Q => vs = [] /\ Q σ H
def gCons (t : TG) (u : TGs) : TGs := fun vs σ H Q => ∃ v r, vs = v :: r /\ t v σ H fun σ' H' => u r σ' H' Q
theorem pgs_nil : PGs X [] gNil := by
 intro pins s σ H vs us Q I r h
 obtain ⟨e, h⟩ := h
 subst e
 cases r
 exact assignInOrder_nil ⟨σ, H, I, h⟩
theorem pgs_cons {e : Expr} {es : List Expr} {t : TG} {u : TGs} (h1 : PG X e t) (h2 : PGs X es u)
  (hs : (assignEach (e :: es) X.env).map (·.2) = assign e X.env :: (assignEach es X.env).map (·.2) := by rfl) : PGs X (e :: es) (gCons t u) := by
 intro pins s σ H vs us Q I r h
 obtain ⟨v, vr, e1, h⟩ := h
 subst e1
 cases r with
 | cons r rr =>
  rw [hs]
  refine assignInOrder_cons (thn (h1 pins s σ H _ _ _ I r h) fun _ s1 ⟨σ1, H1, I1, q1⟩ => ?_)
  exact h2 pins s1 σ1 H1 _ _ Q I1 rr q1
def gTup (K : PySem.W.Frag) (n : Nat) (t : TGs) : TG := fun v σ H Q => ∃ a xs, v = .ref a /\ SqT K H a xs /\ xs.length = n /\ t xs σ H Q
theorem pg_tup {es : List Expr} {k : Nat} {t : TGs} {n : Nat} (hc : X.calm = true) (h : PGs X es t)
  (hn : (assignEach es X.env).length = n := by rfl) (hst : (assignEach es X.env).findIdx? (·.1) = none := by rfl) : PG X (.Tuple es k pos) (gTup X.K n t) := by
 intro pins s σ H v u Q I r hw
 obtain ⟨a, xs, e1, hq, hl, hw⟩ := hw
 subst e1
 cases r
 obtain ⟨its, rv, ht, hz⟩ := I.tuple hq
 refine assign_Tuple_tuple (I.ok.hd hc) ht (by simp [hn, <- hl, rv.length]) hst fun h' hx => ?_
 have I1 : Inv X pins σ H { s with heap := h' } := I.kept (t' := s.toks) fun b o e => hx b o (Nat.ne_of_lt (Heap.lt_size e)) e
 exact h pins _ σ H xs _ Q I1 (by simpa using rv) hw
def gSub (to ti : TE) (t : TSet) : TG := fun v σ H Q => to σ H fun o H1 => ti σ H1 fun i H2 => t o i v H2 fun H3 => Q σ H3
theorem pg_sub {o i : Expr} {to ti : TE} {t : TSet} (ho : PE X o to) (hi : PE X i ti) (hs : PSet X t)
  (ha : ∀ v, assign (.Subscript o i pos) X.env v = (do
   let ov <- holding [v] (eval o X.env)
   let iv <- holding [v, ov] (eval i X.env)
   standAt pos
   holding [v, ov, iv] (setItem ov iv v)
   release [v, ov, iv] []) := by intro _; rfl) : PG X (.Subscript o i pos) (gSub to ti t) := by
 intro pins s σ H v u Q I r h
 rw [ha]
 refine wpAny_bind (wpAny_holding (thn (ho pins s σ H _ I h) fun ov s1 ⟨x, H1, I1, r1, q1⟩ => ?_))
 refine wpAny_bind (wpAny_holding (thn (hi pins s1 σ H1 _ I1 q1) fun iv s2 ⟨y, H2, I2, r2, q2⟩ => ?_))
 refine wpAny_bind (wpAny_standAt (wpAny_bind (wpAny_holding (thn (hs pins s2 σ H2 x y v ov iv u _ I2 r1 r2 r q2) fun _ s3 ⟨H3, I3, q3⟩ => ?_))))
 exact wpAny_release ⟨σ, H3, I3, q3⟩
def tAsg (te : TE) (g : TG) : TS := fun D σ H => te σ H fun x H1 => g x σ H1 D.nx
theorem ps_asg {tg e : Expr} {te : TE} {g : TG} (he : PE X e te) (hg : PG X tg g) (hs : swapsWithSole [tg] e pos.line X.env = pure false := by rfl) (hw : swappedStores [tg] e X.env = pure none := by rfl)
  (h1 : (assignEach [tg] X.env).map (·.2) = [assign tg X.env] := by rfl) : PS X (.Assign [tg] e pos) (tAsg te g) := by
 intro pins s σ H D I h
 refine wpAny_Assign_stores (thn (he pins s σ H _ I h) fun v s1 ⟨x, H1, I1, r1, q1⟩ => ?_) hs hw
 rw [h1]
 exact thn (hg pins s1 σ H1 x v _ I1 r1 q1) fun _ s2 q => q
theorem ps_set {i : Nat} {x : Str} {e : Expr} {te : TE} {pos' : Pos} (hN : X.N.Nodup) (hi : X.N[i]? = some x) (hx : Loc X.env.scope x) (he : PE X e te) (hs : swapsWith e (some (.Name x pos')) pos.line X.env = pure false := by rfl) (hf : X.fn x = true \/ X.env.scope.names.lookup x = some .local := by first | exact .inl rfl | exact .inr rfl | assumption) :
  PS X (.Assign [.Name x pos'] e pos) (tAsg te (gName i)) := by
 intro pins s σ H D I h
 refine wpAny_Assign_Name (thn (he pins s σ H _ I h) fun v s1 ⟨y, H1, I1, r1, q1⟩ => ?_) hs
 exact store_ok I1 hN hi hx r1 (fun s2 I2 => ⟨_, H1, I2, q1⟩) hf
end
section
variable {X : Cx} {pos : Pos}
def tWhile (c : TT) (tb : TS) : TS := fun D σ H => ∃ W : Nat -> St -> Hp -> Prop, (∃ m, W m σ H) /\ ∀ m σ H, W m σ H ->
 c σ H fun b H1 => if b = true then ∃ N : St -> Hp -> Prop, (∀ σ' H', N σ' H' -> ∃ m', m' < m /\ W m' σ' H') /\ tb { D with nx := N, ct := N, bk := D.nx } σ H1 else D.nx σ H1
theorem ps_while {c : Expr} {body : List Stmt} {tc : TT} {tb : TS} (hp : PassesOwn (model X.prog X.w) X.A X.env X.xe) (hc : PT X c tc) (hb : PSs X body tb) : PS X (.While c body [] pos) (tWhile tc tb) := by
 intro pins s σ H D I h
 obtain ⟨W, ⟨m0, w0⟩, turn⟩ := h
 refine wpAny_While (codeAny_whileLoop (fun n s' => ∃ σ' H', Inv X pins σ' H' s' /\ W n σ' H') ?_ m0 ⟨σ, H, I, w0⟩)
 rintro n s1 ⟨σ1, H1, I1, w1⟩
 refine wpAny_passesOwn hp (thn (hc pins s1 σ1 H1 _ I1 (turn n σ1 H1 w1)) fun b s2 ⟨H2, I2, q2⟩ => ?_)
 cases b with
 | true =>
  obtain ⟨N, hN, q2⟩ := q2
  rw [if_pos rfl]
  refine wpAny_passesOwn hp (thn (hb pins s2 σ1 H2 _ I2 q2) fun f s3 q3 => ?_)
  cases f with
  | next =>
   obtain ⟨σ3, H3, I3, n3⟩ := q3
   obtain ⟨m', hm, w3⟩ := hN σ3 H3 n3
   exact ⟨m', hm, σ3, H3, I3, w3⟩
  | cont =>
   obtain ⟨σ3, H3, I3, n3⟩ := q3
   obtain ⟨m', hm, w3⟩ := hN σ3 H3 n3
   exact ⟨m', hm, σ3, H3, I3, w3⟩
  | brk => exact q3
  | ret v => exact q3
 | false =>
  rw [if_neg Bool.false_ne_true]
  exact wpAny_execs_nil ⟨σ1, H2, I2, q2⟩
end
structure It where
 go : Nat -> Hp -> Prop
 yld : Nat -> Hp -> V -> Hp -> Prop
 stop : Nat -> Hp -> Prop
def FpOk (X : Cx) (pins : List (Addr × Obj)) (H : Hp) (b : Addr) : Prop :=
 H b = none /\ b ≠ X.env.locals /\ b ∉ X.fs /\ (b ∈ X.ex \/ X.s₀.heap.objs.size <= b) /\ (∀ x c, X.env.cells.lookup x = some c -> c ≠ b) /\ ∀ p ∈ X.pn ++ pins, p.1 ≠ b
theorem Inv.fpOk {X : Cx} {pins : List (Addr × Obj)} {σ : St} {H H' : Hp} {s : Shared} {b : Addr} (I : Inv X pins σ H s) (hb : s.heap.objs.size <= b) (hn : H' b = none) : FpOk X pins H' b := by
 refine ⟨hn, Nat.ne_of_gt (Nat.lt_of_lt_of_le I.lt hb), I.nofs hb, .inr (Nat.le_trans I.sz hb), fun x c e z => ?_, fun p hp z => ?_⟩
 ·obtain ⟨v, q⟩ := I.cell x c e
  exact absurd (Nat.lt_of_lt_of_le q.lt (by rw [z]; exact hb)) (Nat.lt_irrefl _)
 ·exact absurd (Nat.lt_of_lt_of_le (Heap.lt_size (I.pin p hp).1) (by rw [z]; exact hb)) (Nat.lt_irrefl _)
structure Turn (P : Program) (w : World) (K : PySem.W.Frag) (tg : Expr) (J : It) (fp : List Addr) (it : Addr) (tn : Nat -> Heap -> Prop) : Prop where
 mem : it ∈ fp
 obj : ∀ i h, tn i h -> ∀ b ∈ fp, ∃ o, h.get? b = some o /\ ∀ v, o.data ≠ .cell v
 keep : ∀ i h h', tn i h -> (∀ b ∈ fp, ∀ o, h.get? b = some o -> h'.get? b = some o) -> tn i h'
 item : ∀ (X : Cx), X.prog = P -> X.w = w -> X.K = K -> X.calm = true -> ∀ (i : Nat) (pins : List (Addr × Obj)) (s : Shared) (σ : St) (H : Hp) (E : Value -> Shared -> Prop), Inv X pins σ H s -> (∀ b ∈ fp, FpOk X pins H b) -> tn i s.heap -> J.go i H ->
  wpAny (model P w) X.A (pyNext (.ref it)) (fun r s1 => ∃ u, r = some u /\
   wpAny (model P w) X.A (letOwnedTupleGo tg (.ref it) u) (fun _ s2 => ∃ x H', Inv X pins σ H' s2 /\ RelV x u /\ J.yld i H x H' /\ tn (i + 1) s2.heap /\ ∀ b ∈ fp, H' b = none) E s1) E s
 done : ∀ (X : Cx), X.prog = P -> X.w = w -> X.K = K -> X.calm = true -> ∀ (i : Nat) (pins : List (Addr × Obj)) (s : Shared) (σ : St) (H : Hp) (E : Value -> Shared -> Prop), Inv X pins σ H s -> (∀ b ∈ fp, FpOk X pins H b) -> tn i s.heap -> J.stop i H ->
  wpAny (model P w) X.A (pyNext (.ref it)) (fun r s1 => r = none /\ Inv X pins σ H s1) E s
 self : ∀ (A : Around) (i : Nat) (s : Shared) (Q : Value -> Shared -> Prop) (E : Value -> Shared -> Prop), tn i s.heap -> Q (.ref it) s -> wpAny (model P w) A (pyIter (.ref it)) Q E s
abbrev TI := St -> Hp -> (It -> Hp -> Prop) -> Prop
def PIE (X : Cx) (pins : List (Addr × Obj)) (σ : St) (tg : Expr) (R : It -> Hp -> Prop) (itv : Value) (s2 : Shared) : Prop :=
 ∃ (it : Addr) (fp : List Addr) (tn : Nat -> Heap -> Prop) (J : It) (H' : Hp), itv = .ref it /\ Inv X pins σ H' s2 /\ Turn X.prog X.w X.K tg J fp it tn /\ tn 0 s2.heap /\ (∀ b ∈ fp, FpOk X pins H' b) /\ R J H'
def PI (X : Cx) (tg iter : Expr) (wi : TI) : Prop :=
 ∀ (pins : List (Addr × Obj)) (s : Shared) (σ : St) (H : Hp) (R : It -> Hp -> Prop), Inv X pins σ H s -> wi σ H R ->
  wpAny (model X.prog X.w) X.A (eval iter X.env) (fun v s1 => wpAny (model X.prog X.w) X.A (pyIter v) (PIE X pins σ tg R) X.xe s1) X.xe s
theorem go_of {M : Model} {A : Around} {E : Value -> Shared -> Prop} {s : Shared} {tg : Expr} {it : Addr} {u : Value} {o : Obj} {n : String} {vs : Array Value} {Q : Unit -> Shared -> Prop} (ho : s.heap.get? it = some o) (hc : o.cls = .type n) (hd : o.data = .fields vs)
  (hn : ["enumerate", "zip", "dict_itemiterator", "dict_reverseitemiterator", "odict_iterator", "itertools.zip_longest", "itertools.pairwise"].contains n = false) (hQ : Q () s) : wpAny M A (letOwnedTupleGo tg (.ref it) u) Q E s := by
 unfold letOwnedTupleGo
 cases tg <;> first
  | exact wpAny_pure hQ
  | (cases u <;> first
    | exact wpAny_pure hQ
    | (refine wpAny_bind (wpAny_load ho ?_)
       rw [hc, hd]
       show wpAny M A (if (["enumerate", "zip", "dict_itemiterator", "dict_reverseitemiterator", "odict_iterator", "itertools.zip_longest", "itertools.pairwise"].contains n && vs[0]? == some (rawInt _)) = true then _ else _) Q E s
       rw [if_neg (by intro h; rw [hn, Bool.false_and] at h; cases h)]
       exact wpAny_pure hQ))
def Itl (K : PySem.W.Frag) (a : Addr) : It :=
 ⟨fun i H => ∃ xs x, SqL K H a xs /\ xs[i]? = some x, fun i H x H' => H' = H /\ ∀ xs, SqL K H a xs -> xs[i]? = some x, fun i H => ∃ xs, SqL K H a xs /\ xs.length <= i⟩
def Itt (K : PySem.W.Frag) (a : Addr) : It :=
 ⟨fun i H => ∃ xs x, SqT K H a xs /\ xs[i]? = some x, fun i H x H' => H' = H /\ ∀ xs, SqT K H a xs -> xs[i]? = some x, fun i H => ∃ xs, SqT K H a xs /\ xs.length <= i⟩
def Itr (lo : Int) (n : Nat) : It := ⟨fun i _ => i < n, fun i H x H' => H' = H /\ x = .int (lo + i), fun i _ => n <= i⟩
theorem turn_list {P : Program} {w : World} {K : PySem.W.Frag} {tg : Expr} (a it : Addr) : Turn P w K tg (Itl K a) [it] it (fun i h => h.IsListIter it a i) where
 mem := by simp
 obj := fun i h st b hb => by
  have e : b = it := by simpa using hb
  subst e
  obtain ⟨o, e, c, d⟩ := st
  exact ⟨o, e, fun v z => by rw [d] at z; cases z⟩
 keep := fun i h h' st k => st.at fun o e => k it (by simp) o e
 item := by
  intro X hP hw hK hc i pins s σ H E I hf st hg
  subst hP hw hK
  obtain ⟨xs, x, hq, hx⟩ := hg
  obtain ⟨its, rv, p, hz⟩ := I.list hq
  obtain ⟨u, hu, ru⟩ := rv.get hx
  obtain ⟨f0, f1, f2, f3, f4, f5⟩ := hf it (by simp)
  refine wpAny_pyNext_list_item st p.isList (x := u) (by simpa using hu) fun h' st' sb => ?_
  have I1 : Inv X pins σ H { s with heap := h' } := I.turned (t' := s.toks) (fun b o hb e => (sb.2 b hb).trans e) f0 f1 f3 f4 f5
  obtain ⟨o, e, c, d⟩ := id st'
  exact ⟨u, rfl, go_of (s := { s with heap := h' }) e c d (by decide) ⟨x, H, I1, ru, ⟨rfl, fun ys hy => by rw [I.list_inj hy hq]; exact hx⟩, st', fun b hb => (hf b hb).1⟩⟩
 done := by
  intro X hP hw hK hc i pins s σ H E I hf st hg
  subst hP hw hK
  obtain ⟨xs, hq, hx⟩ := hg
  obtain ⟨its, rv, p, hz⟩ := I.list hq
  obtain ⟨f0, f1, f2, f3, f4, f5⟩ := hf it (by simp)
  have hl := rv.length
  exact wpAny_pyNext_list_end (I.ok.hd hc) st p.isList (by simp; omega) fun h' eb => ⟨rfl, I.turned (t' := s.toks) (fun b o hb e => eb b o hb e) f0 f1 f3 f4 f5⟩
 self := fun _ _ _ _ _ st h => wpAny_pyIter_listiter st h
theorem turn_tuple {P : Program} {w : World} {K : PySem.W.Frag} {tg : Expr} (a it : Addr) : Turn P w K tg (Itt K a) [it] it (fun i h => h.IsTupleIter it a i) where
 mem := by simp
 obj := fun i h st b hb => by
  have e : b = it := by simpa using hb
  subst e
  obtain ⟨o, e, c, d⟩ := st
  exact ⟨o, e, fun v z => by rw [d] at z; cases z⟩
 keep := fun i h h' st k => st.at fun o e => k it (by simp) o e
 item := by
  intro X hP hw hK hc i pins s σ H E I hf st hg
  subst hP hw hK
  obtain ⟨xs, x, hq, hx⟩ := hg
  obtain ⟨its, rv, p, hz⟩ := I.tuple hq
  obtain ⟨u, hu, ru⟩ := rv.get hx
  obtain ⟨f0, f1, f2, f3, f4, f5⟩ := hf it (by simp)
  refine wpAny_pyNext_tuple_item st (show s.heap.IsTuple a its.toArray from p) (x := u) (by simpa using hu) fun h' st' sb => ?_
  have I1 : Inv X pins σ H { s with heap := h' } := I.turned (t' := s.toks) (fun b o hb e => (sb.2 b hb).trans e) f0 f1 f3 f4 f5
  obtain ⟨o, e, c, d⟩ := id st'
  exact ⟨u, rfl, go_of (s := { s with heap := h' }) e c d (by decide) ⟨x, H, I1, ru, ⟨rfl, fun ys hy => by rw [I.tuple_inj hy hq]; exact hx⟩, st', fun b hb => (hf b hb).1⟩⟩
 done := by
  intro X hP hw hK hc i pins s σ H E I hf st hg
  subst hP hw hK
  obtain ⟨xs, hq, hx⟩ := hg
  obtain ⟨its, rv, p, hz⟩ := I.tuple hq
  obtain ⟨f0, f1, f2, f3, f4, f5⟩ := hf it (by simp)
  have hl := rv.length
  exact wpAny_pyNext_tuple_end (I.ok.hd hc) st (show s.heap.IsTuple a its.toArray from p) (by simp; omega) fun h' eb => ⟨rfl, I.turned (t' := s.toks) (fun b o hb e => eb b o hb e) f0 f1 f3 f4 f5⟩
 self := fun _ _ _ _ _ st h => wpAny_pyIter_tupleiter st h
theorem turn_range {P : Program} {w : World} {K : PySem.W.Frag} {tg : Expr} (it : Addr) (lo : Int) (n : Nat) : Turn P w K tg (Itr lo n) [it] it (fun i h => IsRangeIter h it (lo + (i : Nat) * 1) ((n : Int) - (i : Nat)) 1) where
 mem := by simp
 obj := fun i h st b hb => by
  have e : b = it := by simpa using hb
  subst e
  exact ⟨_, st, fun v z => by
   have z' : Data.fields _ = Data.cell v := z
   cases z'⟩
 keep := fun i h h' st k => k it (by simp) _ st
 item := by
  intro X hP hw hK hc i pins s σ H E I hf st hg
  subst hP hw hK
  obtain ⟨f0, f1, f2, f3, f4, f5⟩ := hf it (by simp)
  have W := Walks.range (prog := X.prog) (w := X.w) (I.ok.hd hc) it lo 1 n
  refine W.item i s _ _ hg st fun v h' tk hv st' kk => ?_
  obtain ⟨t, rfl⟩ := hv
  have I1 : Inv X pins σ H { s with heap := h', toks := tk } := I.turned (fun b o hb e => kk b o (by simpa using hb) e) f0 f1 f3 f4 f5
  refine ⟨_, rfl, go_of (s := { s with heap := h', toks := tk }) (n := "range_iterator") st' rfl rfl (by decide) ⟨.int (lo + i), H, I1, ⟨t, ?_⟩, ⟨rfl, rfl⟩, st', fun b hb => (hf b hb).1⟩⟩
  rw [Int.mul_one]
 done := by
  intro X hP hw hK hc i pins s σ H E I hf st hg
  subst hP hw hK
  obtain ⟨f0, f1, f2, f3, f4, f5⟩ := hf it (by simp)
  exact wpAny_pyNext_range_end (I.ok.hd hc) st (by have : n <= i := hg; omega) fun h' eb => ⟨rfl, I.turned (t' := s.toks) (fun b o hb e => eb b o hb e) f0 f1 f3 f4 f5⟩
 self := fun _ _ _ _ _ st h => wpAny_pyIter_rangeiter st h
end L2
namespace L2
open PySem PySem.Spec PyProof.Rows
section
variable {X : Cx} {tg : Expr}
theorem range_it {pins : List (Addr × Obj)} {σ : St} {H : Hp} {s : Shared} {R : It -> Hp -> Prop} {E : Value -> Shared -> Prop} {lo hi : Int} {t u v : Tok} {tk : Nat} (I : Inv X pins σ H s) (h1 : -(2 ^ 62) <= lo) (h2 : lo < 2 ^ 62) (h3 : -(2 ^ 62) <= hi) (h4 : hi < 2 ^ 62)
  (q : R (Itr lo (hi - lo).toNat) H) : wpAny (model X.prog X.w) X.A (pyIter (.ref s.heap.objs.size)) (PIE X pins σ tg R) E { s with heap := s.heap.push { cls := .type "range", data := .fields #[.int lo t, .int hi u, .int 1 v] }, toks := tk } := by
 refine wpAny_pyIter_range (IsRange.new ..) (small_one h1 h2 h3 h4) ?_
 have I1 : Inv X pins σ H { s with heap := s.heap.push { cls := .type "range", data := .fields #[.int lo t, .int hi u, .int 1 v] }, toks := tk } := I.kept fun b o e => Heap.get?_push_of_some _ e
 refine ⟨(s.heap.push { cls := .type "range", data := .fields #[.int lo t, .int hi u, .int 1 v] }).objs.size, [(s.heap.push { cls := .type "range", data := .fields #[.int lo t, .int hi u, .int 1 v] }).objs.size], _, _, H, rfl,
  I1.kept (t' := tk) fun b o e => Heap.get?_push_of_some _ e, turn_range _ lo (hi - lo).toNat, ?_, fun b hb => ?_, q⟩
 ·have e1 : lo + ((0 : Nat) : Int) * 1 = lo := by simp
  have e2 : (((hi - lo).toNat : Nat) : Int) - ((0 : Nat) : Int) = Builtin.Range.rangeSize lo hi 1 := by rw [rangeSize_one]; split <;> omega
  show IsRangeIter _ _ (lo + ((0 : Nat) : Int) * 1) ((((hi - lo).toNat : Nat) : Int) - ((0 : Nat) : Int)) 1
  rw [e1, e2]
  exact Heap.get?_push_size _ rfl
 ·have e : b = (s.heap.push { cls := .type "range", data := .fields #[.int lo t, .int hi u, .int 1 v] }).objs.size := by simpa using hb
  subst e
  exact I1.fpOk (Nat.le_refl _) (I1.hok.fresh (Nat.le_refl _))
def iRng1 (ta : TA) : TI := fun σ H R => ta σ H fun vs H1 => ∃ j : Int, vs = [.int j] /\ -(2 ^ 62) <= j /\ j < 2 ^ 62 /\ R (Itr 0 j.toNat) H1
def iRng2 (ta : TA) : TI := fun σ H R => ta σ H fun vs H1 => ∃ i j : Int, vs = [.int i, .int j] /\ (-(2 ^ 62) <= i /\ i < 2 ^ 62 /\ -(2 ^ 62) <= j /\ j < 2 ^ 62) /\ R (Itr i (j - i).toNat) H1
theorem pi_range1 {a : Expr} {ta : TA} {p pos : Pos} (hg : Gl X "range") (hm : X.mg "range" = none) (ha : PA X [a] ta) (hs : starEach [a] X.env = [(false, eval a X.env)] := by rfl) : PI X tg (.Call (.Name "range" p) [a] [] pos) (iRng1 ta) := by
 intro pins s σ H R I h
 refine Call_ (ld_blt I hg hm boot_range (PyProof.Rows.callWith_type1 (thn (ha pos pins s σ H _ I h) fun us s1 ⟨vs, H1, I1, r1, q1⟩ => ?_) hs rfl))
 obtain ⟨j, e, q1, q2, q⟩ := q1
 subst e
 cases r1 with
 | cons r rr =>
  cases rr
  obtain ⟨t, rfl⟩ := r
  exact call_range_1 (range_it I1 (by omega) (by omega) q1 q2 (by simpa using q))
theorem pi_range2 {a b : Expr} {ta : TA} {p pos : Pos} (hg : Gl X "range") (hm : X.mg "range" = none) (ha : PA X [a, b] ta) (hs : starEach [a, b] X.env = [(false, eval a X.env), (false, eval b X.env)] := by rfl) (hs2 : starEach [b] X.env = [(false, eval b X.env)] := by rfl) :
  PI X tg (.Call (.Name "range" p) [a, b] [] pos) (iRng2 ta) := by
 intro pins s σ H R I h
 refine Call_ (ld_blt I hg hm boot_range (PyProof.Rows.callWith_type1 (thn (ha pos pins s σ H _ I h) fun us s1 ⟨vs, H1, I1, r1, q1⟩ => ?_) (by rw [hs, hs2]) (by rw [hs2]; rfl)))
 obtain ⟨i, j, e, ⟨q1, q2, q3, q4⟩, q⟩ := q1
 subst e
 cases r1 with
 | cons r rr =>
  cases rr with
  | cons r' rr =>
   cases rr
   obtain ⟨t, rfl⟩ := r
   obtain ⟨t', rfl⟩ := r'
   exact call_range_2 (range_it I1 q1 q2 q3 q4 q)
def tFor (wi : TI) (g : TG) (tb : TS) : TS := fun D σ H => wi σ H fun J H1 => ∃ W : Nat -> Nat -> St -> Hp -> Prop, (∃ m, W 0 m σ H1) /\ ∀ i m σ H, W i m σ H ->
 (J.stop i H /\ D.nx σ H) \/ (J.go i H /\ ∃ N : St -> Hp -> Prop, (∀ σ' H', N σ' H' -> ∃ m', m' < m /\ W (i + 1) m' σ' H') /\ ∀ x H', J.yld i H x H' -> g x σ H' fun σ2 H2 => tb { D with nx := N, ct := N, bk := D.nx } σ2 H2)
def pinsAt (fp : List Addr) (h : Heap) : List (Addr × Obj) := fp.filterMap fun b => (h.get? b).map fun o => (b, o)
theorem mem_pinsAt {fp : List Addr} {h : Heap} {b : Addr} {o : Obj} (hb : b ∈ fp) (e : h.get? b = some o) : (b, o) ∈ pinsAt fp h := List.mem_filterMap.mpr ⟨b, hb, by rw [e]; rfl⟩
theorem of_pinsAt {fp : List Addr} {h : Heap} {p : Addr × Obj} (hp : p ∈ pinsAt fp h) : p.1 ∈ fp /\ h.get? p.1 = some p.2 := by
 obtain ⟨b, hb, e⟩ := List.mem_filterMap.mp hp
 cases q : h.get? b with
 | none => rw [q] at e; cases e
 | some o =>
  rw [q] at e
  have e' : (b, o) = p := Option.some.inj e
  subst e'
  exact ⟨hb, q⟩
theorem Inv.pinned {pins : List (Addr × Obj)} {σ : St} {H : Hp} {s : Shared} {fp : List Addr} (I : Inv X pins σ H s) (hf : ∀ b ∈ fp, FpOk X pins H b) (ho : ∀ b ∈ fp, ∃ o, s.heap.get? b = some o /\ ∀ v, o.data ≠ .cell v) : Inv X (pins ++ pinsAt fp s.heap) σ H s :=
 I.pins_of fun p hp => (List.mem_append.mp hp).elim (fun z => I.pin p (List.mem_append_right _ z)) fun z => by
  obtain ⟨hb, e⟩ := of_pinsAt z
  obtain ⟨f0, f1, f2, _⟩ := hf p.1 hb
  obtain ⟨o, e', d⟩ := ho p.1 hb
  rw [e] at e'; cases e'
  exact ⟨e, f0, f1, f2, d⟩
theorem Inv.unpinned {pins pl : List (Addr × Obj)} {σ : St} {H : Hp} {s : Shared} (I : Inv X (pins ++ pl) σ H s) : Inv X pins σ H s := I.pins_of fun p hp => I.pin p (List.mem_append_right _ (List.mem_append_left _ hp))
theorem ps_for {iter : Expr} {body : List Stmt} {wi : TI} {g : TG} {tb : TS} {pos : Pos} (hp : PassesOwn (model X.prog X.w) X.A X.env X.xe) (hc : X.calm = true) (hi : PI X tg iter wi) (hg : PG X tg g) (hb : PSs X body tb)
  (hs : ∀ x, foldedSetIterable iter X.env x = pure x := by intro _; rfl) : PS X (.For tg iter body [] pos) (tFor wi g tb) := by
 intro pins s σ H D I h
 refine wpAny_For (thn (hi pins s σ H _ I h) fun v s1 h1 => thn h1 fun itv s2 h2 => ?_) hs
 obtain ⟨it, fp, tn, J, H2, e, I2, T, st2, f2, W, ⟨m0, w0⟩, turn⟩ := h2
 subst e
 have stat : ∀ {H' : Hp}, (∀ b ∈ fp, H' b = none) -> ∀ b ∈ fp, FpOk X pins H' b := fun hn b hb => ⟨hn b hb, (f2 b hb).2⟩
 refine codeAny_forLoop_any (fun n s' => ∃ i σ' H', Inv X pins σ' H' s' /\ tn i s'.heap /\ (∀ b ∈ fp, H' b = none) /\ W i n σ' H') ?_ m0 ⟨0, σ, H2, I2, st2, fun b hb => (f2 b hb).1, w0⟩
 rintro n s3 ⟨i, σ3, H3, I3, st3, fr3, w3⟩
 rcases turn i n σ3 H3 w3 with ⟨stop, qn⟩ | ⟨go, N, hN, step⟩
 ·refine wpAny_passesOwn hp (thn (T.done X rfl rfl rfl hc i pins s3 σ3 H3 X.xe I3 (stat fr3) st3 stop) fun r s4 ⟨hr, I4⟩ => ?_)
  subst hr
  exact wpAny_execs_nil ⟨σ3, H3, I4, qn⟩
 ·refine wpAny_passesOwn hp (thn (T.item X rfl rfl rfl hc i pins s3 σ3 H3 X.xe I3 (stat fr3) st3 go) fun r s4 ⟨u, hr, h4⟩ => ?_)
  subst hr
  refine wpAny_passesOwn hp (thn h4 fun _ s5 ⟨x, H5, I5, r5, y5, st5, fr5⟩ => ?_)
  have I5' := I5.pinned (stat fr5) (T.obj _ _ st5)
  refine wpAny_passesOwn hp (thn (hg _ s5 σ3 H5 x u _ I5' r5 (step x H5 y5)) fun _ s6 ⟨σ6, H6, I6, q6⟩ => ?_)
  refine wpAny_passesOwn hp (thn (hb _ s6 σ6 H6 _ I6 q6) fun f s7 q7 => ?_)
  have again : ∀ {σ7 : St} {H7 : Hp}, Inv X (pins ++ pinsAt fp s5.heap) σ7 H7 s7 -> N σ7 H7 -> ∃ m, m < n /\ ∃ i σ' H', Inv X pins σ' H' s7 /\ tn i s7.heap /\ (∀ b ∈ fp, H' b = none) /\ W i m σ' H' := fun {σ7 H7} I7 n7 => by
   obtain ⟨m', hm, w7⟩ := hN σ7 H7 n7
   refine ⟨m', hm, i + 1, σ7, H7, I7.unpinned, T.keep _ _ _ st5 fun b hb o e => (I7.pin (b, o) (List.mem_append_right _ (List.mem_append_right _ (mem_pinsAt hb e)))).1, fun b hb => ?_, w7⟩
   obtain ⟨o, e, d⟩ := T.obj _ _ st5 b hb
   exact (I7.pin (b, o) (List.mem_append_right _ (List.mem_append_right _ (mem_pinsAt hb e)))).2.1
  cases f with
  | next => obtain ⟨σ7, H7, I7, n7⟩ := q7; exact again I7 n7
  | cont => obtain ⟨σ7, H7, I7, n7⟩ := q7; exact again I7 n7
  | brk => obtain ⟨σ7, H7, I7, q7⟩ := q7; exact ⟨σ7, H7, I7.unpinned, q7⟩
  | ret v => obtain ⟨x7, σ7, H7, I7, r7, q7⟩ := q7; exact ⟨x7, σ7, H7, I7.unpinned, r7, q7⟩
end
end L2
namespace L2
open PySem PySem.Spec PyProof.Rows
abbrev R2 := V -> V -> Hp -> VK -> Prop
def OpR (X : Cx) (f : Value -> Value -> Sem Value) (r : R2) : Prop :=
 ∀ (pins : List (Addr × Obj)) (s : Shared) (σ : St) (H : Hp) (x y : V) (v u : Value) (Q : VK), Inv X pins σ H s -> RelV x v -> RelV y u -> r x y H Q ->
  wpAny (model X.prog X.w) X.A (f v u) (EP X pins σ Q) X.xe s
def UnR (X : Cx) (f : Value -> Sem Value) (r : V -> Hp -> VK -> Prop) : Prop :=
 ∀ (pins : List (Addr × Obj)) (s : Shared) (σ : St) (H : Hp) (x : V) (v : Value) (Q : VK), Inv X pins σ H s -> RelV x v -> r x H Q ->
  wpAny (model X.prog X.w) X.A (f v) (EP X pins σ Q) X.xe s
def CallR (X : Cx) (f : Value) (r : List V -> Hp -> VK -> Prop) : Prop :=
 ∀ (pins : List (Addr × Obj)) (s : Shared) (σ : St) (H : Hp) (xs : List V) (us : List Value) (Q : VK), Inv X pins σ H s -> Vals xs us -> r xs H Q ->
  wpAny (model X.prog X.w) X.A (call f us) (EP X pins σ Q) X.xe s
def tOp (r : R2) (ta tb : TE) : TE := fun σ H Q => ta σ H fun x H1 => tb σ H1 fun y H2 => r x y H2 Q
def tUn (r : V -> Hp -> VK -> Prop) (ta : TE) : TE := fun σ H Q => ta σ H fun x H1 => r x H1 Q
def rI (C : Int -> Int -> Prop) (g : Int -> Int -> V) : R2 := fun x y H Q => ∃ i j, x = .int i /\ y = .int j /\ C i j /\ Q (g i j) H
def rI0 (g : Int -> Int -> V) : R2 := fun x y H Q => ∃ i j, x = .int i /\ y = .int j /\ Q (g i j) H
def rU (g : Int -> V) : V -> Hp -> VK -> Prop := fun x H Q => ∃ i, x = .int i /\ Q (g i) H
section
variable {X : Cx} {a b c : Expr} {ta tb tc : TE} {pos : Pos}
theorem binT (ha : PE X a ta) (hb : PE X b tb) {pins : List (Addr × Obj)} {s : Shared} {σ : St} {H : Hp} {R : V -> V -> Hp -> Prop} (I : Inv X pins σ H s)
  (h : ta σ H fun x H1 => tb σ H1 fun y H2 => R x y H2) {Q : Value -> Shared -> Prop} {f : Value -> Value -> Sem Value}
  (hf : ∀ v u s2 x y H2, Inv X pins σ H2 s2 -> RelV x v -> RelV y u -> R x y H2 -> wpAny (model X.prog X.w) X.A (f v u) Q X.xe s2) :
  wpAny (model X.prog X.w) X.A (eval a X.env) (fun v s₁ => wpAny (model X.prog X.w) X.A (eval b X.env) (fun u s₂ => wpAny (model X.prog X.w) X.A (f v u) Q X.xe s₂) X.xe s₁) X.xe s := by
 refine thn (ha pins s σ H _ I h) fun v s1 ⟨x, H1, I1, r1, q1⟩ => ?_
 refine thn (hb pins s1 σ H1 _ I1 q1) fun u s2 ⟨y, H2, I2, r2, q2⟩ => ?_
 exact hf v u s2 x y H2 I2 r1 r2 q2
theorem pe_op {op : Operator} {r : R2} (ho : OpR X (binaryOp op) r) (ha : PE X a ta) (hb : PE X b tb) : PE X (.BinOp a op b pos) (tOp r ta tb) := by
 intro pins s σ H Q I h
 exact wpAny_BinOp (binT ha hb I h fun v u s2 x y H2 I2 rx ry q => ho pins s2 σ H2 x y v u Q I2 rx ry q)
theorem pe_un {op : UnaryOp} {r : V -> Hp -> VK -> Prop} (ho : UnR X (unaryOp op) r) (ha : PE X a ta) : PE X (.UnaryOp op a pos) (tUn r ta) := by
 intro pins s σ H Q I h
 exact UnaryOp_ (thn (ha pins s σ H _ I h) fun v s1 ⟨x, H1, I1, r1, q1⟩ => ho pins s1 σ H1 x v Q I1 r1 q1)
theorem opI {f : Value -> Value -> Sem Value} {C : Int -> Int -> Prop} {g : Int -> Int -> Int}
  (rule : ∀ (i j : Int) (t u : Tok) (s : Shared) (Q : Value -> Shared -> Prop) (E : Value -> Shared -> Prop), C i j -> Q (.int (g i j) s.toks) { s with toks := s.toks + 1 } -> wpAny (model X.prog X.w) X.A (f (.int i t) (.int j u)) Q E s) :
  OpR X f (rI C fun i j => .int (g i j)) := by
 intro pins s σ H x y v u Q I rx ry h
 obtain ⟨i, j, rfl, rfl, hc, q⟩ := h
 obtain ⟨t, rfl⟩ := rx
 obtain ⟨t', rfl⟩ := ry
 exact rule i j t t' s _ _ hc ⟨.int (g i j), H, I.tok _, ⟨_, rfl⟩, q⟩
theorem opI0 {f : Value -> Value -> Sem Value} {g : Int -> Int -> Int}
  (rule : ∀ (i j : Int) (t u : Tok) (s : Shared) (Q : Value -> Shared -> Prop) (E : Value -> Shared -> Prop), Q (.int (g i j) s.toks) { s with toks := s.toks + 1 } -> wpAny (model X.prog X.w) X.A (f (.int i t) (.int j u)) Q E s) :
  OpR X f (rI0 fun i j => .int (g i j)) := by
 intro pins s σ H x y v u Q I rx ry h
 obtain ⟨i, j, rfl, rfl, q⟩ := h
 obtain ⟨t, rfl⟩ := rx
 obtain ⟨t', rfl⟩ := ry
 exact rule i j t t' s _ _ ⟨.int (g i j), H, I.tok _, ⟨_, rfl⟩, q⟩
theorem opB0 {f : Value -> Value -> Sem Value} {g : Int -> Int -> Bool}
  (rule : ∀ (i j : Int) (t u : Tok) (s : Shared) (Q : Value -> Shared -> Prop) (E : Value -> Shared -> Prop), Q (.bool (g i j)) s -> wpAny (model X.prog X.w) X.A (f (.int i t) (.int j u)) Q E s) :
  OpR X f (rI0 fun i j => .bl (g i j)) := by
 intro pins s σ H x y v u Q I rx ry h
 obtain ⟨i, j, rfl, rfl, q⟩ := h
 obtain ⟨t, rfl⟩ := rx
 obtain ⟨t', rfl⟩ := ry
 exact rule i j t t' s _ _ ⟨.bl (g i j), H, I, rfl, q⟩
def CPow (i j : Int) : Prop := 0 <= j /\ j <= 1000000 /\ i.natAbs < 2 ^ 64
def CMul (i j : Int) : Prop := (-(2 ^ 64) < i /\ i < 2 ^ 64) \/ (-(2 ^ 64) < j /\ j < 2 ^ 64)
theorem CMul.ok {i j : Int} (h : CMul i j) : IntMulOk i j := by
 rcases h with ⟨h1, h2⟩ | ⟨h1, h2⟩
 ·exact .of_left (intBits_le_64 h1 h2)
 ·exact .of_right (intBits_le_64 h1 h2)
theorem two_pow_nn (k : Nat) : (0 : Int) <= 2 ^ k := by
 rw [two_pow_cast]
 exact Int.natCast_nonneg _
theorem op_add : OpR X (binaryOp .Add) (rI0 fun i j => .int (i + j)) := opI0 fun _ _ _ _ _ _ _ q => add_int q
theorem op_sub : OpR X (binaryOp .Sub) (rI0 fun i j => .int (i - j)) := opI0 fun _ _ _ _ _ _ _ q => sub_int q
theorem op_mul : OpR X (binaryOp .Mult) (rI CMul fun i j => .int (i * j)) := opI fun _ _ _ _ _ _ _ hc q => mul_int q hc.ok
theorem op_mod : OpR X (binaryOp .Mod) (rI (fun _ j => 0 < j) fun i j => .int (i % j)) := opI fun i j _ _ _ _ _ hc q => by
 have h1 : (0 : Int) < j := hc
 exact mod_int' (by omega) (by rw [Int.fmod_eq_emod_of_nonneg i (by omega)]; exact q)
theorem op_pow : OpR X (binaryOp .Pow) (rI CPow fun i j => .int (i ^ j.toNat)) := opI fun _ _ _ _ _ _ _ hc q => pow_int_small hc.1 hc.2.1 hc.2.2 q
theorem op_shr : OpR X (binaryOp .RShift) (rI (fun _ j => 0 <= j) fun i j => .int (i / 2 ^ j.toNat)) := opI fun i j _ _ _ _ _ hc q =>
 rshift_int hc (by rw [Int.fdiv_eq_ediv_of_nonneg i (two_pow_nn _)]; exact q)
theorem op_and : OpR X (binaryOp .BitAnd) (rI0 fun i j => .int (Builtin.bitAnd i j)) := opI0 fun _ _ _ _ _ _ _ q => and_int q
theorem unI {f : Value -> Sem Value} {g : Int -> Int}
  (rule : ∀ (i : Int) (t : Tok) (s : Shared) (Q : Value -> Shared -> Prop) (E : Value -> Shared -> Prop), Q (.int (g i) s.toks) { s with toks := s.toks + 1 } -> wpAny (model X.prog X.w) X.A (f (.int i t)) Q E s) :
  UnR X f (rU fun i => .int (g i)) := by
 intro pins s σ H x v Q I rx h
 obtain ⟨i, rfl, q⟩ := h
 obtain ⟨t, rfl⟩ := rx
 exact rule i t s _ _ ⟨.int (g i), H, I.tok _, ⟨_, rfl⟩, q⟩
theorem un_neg : UnR X (unaryOp .USub) (rU fun i => .int (-i)) := unI fun _ _ _ _ _ q => neg_int q
end
section
variable {X : Cx} {a b c : Expr} {ta tb tc : TE} {pos : Pos}
theorem op_lt : OpR X (compareOp .Lt) (rI0 fun i j => .bl (decide (i < j))) := opB0 fun _ _ _ _ _ _ _ q => lt_int q
theorem op_le : OpR X (compareOp .LtE) (rI0 fun i j => .bl (decide (i <= j))) := opB0 fun _ _ _ _ _ _ _ q => le_int q
theorem op_gt : OpR X (compareOp .Gt) (rI0 fun i j => .bl (decide (j < i))) := opB0 fun _ _ _ _ _ _ _ q => gt_int q
theorem op_ge : OpR X (compareOp .GtE) (rI0 fun i j => .bl (decide (j <= i))) := opB0 fun _ _ _ _ _ _ _ q => ge_int q
theorem pe_cmpR {op : CmpOp} {r : R2} (ho : OpR X (compareOp op) r) (ha : PE X a ta) (hb : PE X b tb) (hm : behindInMarks op b = false) : PE X (.Compare a [op] [b] pos) (tOp r ta tb) := by
 intro pins s σ H Q I h
 exact wpAny_Compare1 (binT ha hb I h fun v u s2 x y H2 I2 rx ry q => ho pins s2 σ H2 x y v u Q I2 rx ry q) hm
def tTest (t : TE) : TT := fun σ H Q => t σ H fun x H' => ∃ k, x = .bl k /\ Q k H'
theorem pt_cmpR {op : CmpOp} {r : R2} (ho : OpR X (compareOp op) r) (ha : PE X a ta) (hb : PE X b tb) (hm : behindInMarks op b = false) : PT X (.Compare a [op] [b] pos) (tTest (tOp r ta tb)) := by
 intro pins s σ H Q I h
 refine wpAny_isTrue_Compare1 (thn (ha pins s σ H _ I h) fun v s1 ⟨x, H1, I1, r1, q1⟩ => thn (hb pins s1 σ H1 _ I1 q1) fun u s2 ⟨y, H2, I2, r2, q2⟩ =>
  thn (ho pins s2 σ H2 x y v u _ I2 r1 r2 q2) fun c s3 ⟨z, H3, I3, r3, k, e, q3⟩ => ?_) hm
 subst e
 cases r3
 exact wpAny_truthy_bool ⟨H3, I3, q3⟩
def tChain (r r' : R2) (ta tb tc : TE) : TE := fun σ H Q => ta σ H fun x H1 => tb σ H1 fun y H2 => r x y H2 fun z H3 => ∃ k, z = .bl k /\
 (if k = true then tc σ H3 fun w' H4 => r' y w' H4 Q else Q (.bl false) H3)
theorem pe_chain {op op' : CmpOp} {r r' : R2} (ho : OpR X (compareOp op) r) (ho' : OpR X (compareOp op') r') (ha : PE X a ta) (hb : PE X b tb) (hc : PE X c tc)
  (hm : lastMarks [op, op'] [b, c] = false := by with_unfolding_all rfl) : PE X (.Compare a [op, op'] [b, c] pos) (tChain r r' ta tb tc) := by
 intro pins s σ H Q I h
 refine Compare_chain (thn (ha pins s σ H _ I h) fun v s1 ⟨x, H1, I1, r1, q1⟩ => chain_link (thn (hb pins s1 σ H1 _ I1 q1) fun u s2 ⟨y, H2, I2, r2, q2⟩ =>
  thn (ho pins s2 σ H2 x y v u _ I2 r1 r2 q2) fun d s3 ⟨z, H3, I3, r3, k, e, q3⟩ => ?_)) hm
 subst e
 cases r3
 refine wpAny_truthy_bool ?_
 cases k with
 | false => exact ite_ff ⟨.bl false, H3, I3, rfl, q3⟩
 | true => exact ite_tt (chain_last (thn (hc pins s3 σ H3 _ I3 q3) fun w' s4 ⟨z', H4, I4, r4, q4⟩ => ho' pins s4 σ H4 y z' u w' Q I4 r2 r4 q4))
theorem pt_chain {op op' : CmpOp} {r r' : R2} (ho : OpR X (compareOp op) r) (ho' : OpR X (compareOp op') r') (ha : PE X a ta) (hb : PE X b tb) (hc : PE X c tc)
  (hm : lastMarks [op, op'] [b, c] = false := by with_unfolding_all rfl) : PT X (.Compare a [op, op'] [b, c] pos) (tTest (tChain r r' ta tb tc)) := by
 intro pins s σ H Q I h
 refine isTrue_chain (thn (ha pins s σ H _ I h) fun v s1 ⟨x, H1, I1, r1, q1⟩ => test_link (thn (hb pins s1 σ H1 _ I1 q1) fun u s2 ⟨y, H2, I2, r2, q2⟩ =>
  thn (ho pins s2 σ H2 x y v u _ I2 r1 r2 q2) fun d s3 ⟨z, H3, I3, r3, k, e, q3⟩ => ?_)) hm
 subst e
 cases r3
 refine wpAny_truthy_bool ?_
 cases k with
 | false =>
  obtain ⟨k', e', q'⟩ := q3
  cases e'
  exact ite_ff ⟨H3, I3, q'⟩
 | true =>
  refine ite_tt (test_last (thn (hc pins s3 σ H3 _ I3 q3) fun w' s4 ⟨z', H4, I4, r4, q4⟩ => thn (ho' pins s4 σ H4 y z' u w' _ I4 r2 r4 q4) fun d' s5 ⟨z2, H5, I5, r5, k2, e2, q5⟩ => ?_))
  subst e2
  cases r5
  exact wpAny_truthy_bool ⟨H5, I5, q5⟩
theorem line63 : (sizeLine : Nat) < 2 ^ 63 := by rw [sizeLine_eq]; decide
theorem op_add_str : OpR X (binaryOp .Add) (fun x y H Q => ∃ i j, x = .str i /\ y = .str j /\ i.length + j.length <= sizeLine /\ Q (.str (i ++ j)) H) := by
 intro pins s σ H x y v u Q I rx ry h
 obtain ⟨i, j, rfl, rfl, hz, q⟩ := h
 obtain ⟨t, rfl⟩ := rx
 obtain ⟨t', rfl⟩ := ry
 exact add_str (fun t' tk => ⟨.str (i ++ j), H, I.tok _, ⟨_, rfl⟩, q⟩) hz
theorem vals1 {x : V} {us : List Value} (r : Vals [x] us) : ∃ u, us = [u] /\ RelV x u := by
 cases r with
 | cons r1 r2 => cases r2; exact ⟨_, rfl, r1⟩
end
end L2
namespace L2
open PySem PySem.Spec PyProof.Rows
structure ObjM (h : Heap) (x dx C : Addr) (mA : Str -> Option Value) : Prop where
 obj : h.get? x = some (PySem.W.instObj C dx)
 ns : h.Ns1 dx mA
 ne : dx ≠ x
theorem lookIn_ns {h : Heap} {dx : Addr} {mA : Str -> Option Value} (n : h.Ns1 dx mA) : ∃ od, h.get? dx = some od /\ ∀ name, PySem.W.lookIn name od = some (mA name) := by
 obtain ⟨o, es, ep, ho, hd, hk, _, hm⟩ := n
 refine ⟨o, ho, fun name => ?_⟩
 have e := hm name
 unfold nsFind findBy at e
 rw [<- Array.find?_toList] at e
 unfold PySem.W.lookIn
 rw [hd]
 dsimp only
 split
 ·rename_i y q
  rw [q] at e
  exact congrArg some e
 ·rename_i q
  rw [q] at e
  have a : es.toList.any (·.refKey) = false := by
   rw [List.any_eq_false]
   intro y hy
   obtain ⟨z, t, hkey⟩ := hk y (Array.mem_toList_iff.mp hy)
   simp [DictEntry.refKey, hkey]
  have a' : ¬ es.toList.any (·.refKey) = true := by rw [a]; exact Bool.false_ne_true
  rw [if_neg a']
  exact congrArg some e
theorem ObjM.look {h : Heap} {x dx C : Addr} {mA : Str -> Option Value} (I : ObjM h x dx C mA) : ∃ od, PySem.W.InstAt h x (PySem.W.instObj C dx) C (some od) /\ ∀ name, PySem.W.lookIn name od = some (mA name) :=
 let ⟨od, ho, hl⟩ := lookIn_ns I.ns
 ⟨od, ⟨I.obj, rfl, rfl, ho⟩, hl⟩
section
variable {prog : Program} {w : World} {A : Around} {E : Value -> Shared -> Prop} {s : Shared} {K : PySem.W.Frag} {x dx C f : Addr} {mA : Str -> Option Value} {name : Str} {v : Value}
end
theorem RelO.some_of {v : V} {o : Option Value} (r : RelO (some v) o) : ∃ u, o = some u /\ RelV v u := by
 cases o with
 | none => exact (show False from r).elim
 | some u => exact ⟨u, rfl, r⟩
section
variable {P : Program} {w : World} {H H' : Hp} {h h' : Heap} {a C dx : Addr} {fs fs' : List (Str × V)}
end
structure Cls (K : PySem.W.Frag) (C : Addr) : Prop where
 pg : PySem.W.plainGet K C Str.empty = true
 hd : PySem.W.hasDictIn K C = true
 po : PySem.W.plainOver K C = true
 sa : PySem.W.findIn K (.ref C) "__setattr__" = some (some (.builtin "object.__setattr__"))
theorem Cls.get {K : PySem.W.Frag} {C : Addr} (c : Cls K C) (f : Str) : PySem.W.plainGet K C f = true := c.pg
section
variable {X : Cx} {pins : List (Addr × Obj)} {σ : St} {H : Hp} {s : Shared} {a C dx : Addr} {fs : List (Str × V)} {f : Str} {v : V} {A : Around} {E : Value -> Shared -> Prop}
end
section
variable {X : Cx} {o e value : Expr} {f : Str} {pos pos' tpos : Pos} {ta tv : TE}
end
section
variable {X : Cx} {pins : List (Addr × Obj)} {σ : St} {H : Hp} {s : Shared} {A : Around} {E : Value -> Shared -> Prop} {Q : Value -> Shared -> Prop} {c : Value} {b : Bool}
end
end L2
namespace L2
open PySem PySem.Spec PyProof.Rows
structure Room (k : Nat) (A : Around) : Prop where
 hd : A.handled = none
 dp : A.depth + 3 * k + 5 < recursionLimit
 un : A.units + 16 * k + 200 < cLine
theorem Room.deeper {k : Nat} {A : Around} (r : Room (k + 1) A) (env : Env) : Room k (A.deeper env) :=
 ⟨r.hd, by have := r.dp; show A.depth + 1 + 3 * k + 5 < _; omega, by have := r.un; show A.units + 3 + 16 * k + 200 < _; omega⟩
theorem Room.depth {k : Nat} {A : Around} (r : Room k A) : A.depth < recursionLimit := by have := r.dp; omega
theorem Room.units {k : Nat} {A : Around} (r : Room k A) : A.units + 64 < cLine := by have := r.un; omega
def tNil : TA := fun _ H Q => Q [] H
def tCons (ta : TE) (tr : TA) : TA := fun σ H Q => ta σ H fun x H1 => tr σ H1 fun xs H2 => Q (x :: xs) H2
section
variable {X : Cx} {e : Expr} {es : List Expr} {te : TE} {t : TA} {pos : Pos}
theorem pa_nil : PA X [] tNil := fun _ _ _ _ H Q I h => Calls.spliced_nil ⟨[], H, I, .nil, h⟩
theorem pa_cons (ha : PE X e te) (hr : PA X es t) (hs : starEach (e :: es) X.env = (false, eval e X.env) :: starEach es X.env := by rfl) : PA X (e :: es) (tCons te t) := by
 intro pos pins s σ H Q I h
 rw [hs]
 show wpAny _ _ (spliced ((false, eval e X.env) :: backTo pos (starEach es X.env))) _ _ s
 refine Calls.spliced_cons (thn (ha pins s σ H _ I h) fun u s1 ⟨x, H1, I1, r1, q1⟩ => ?_)
 exact thn (hr pos pins s1 σ H1 _ I1 q1) fun us s2 ⟨xs, H2, I2, r2, q2⟩ => ⟨x :: xs, H2, I2, .cons r1 r2, q2⟩
def tTup (t : TA) : TE := fun σ H Q => t σ H fun xs H1 => xs.length <= sizeLine /\ ∀ p, H1 p = none -> Q (.ref p) (upd H1 p (.tup xs))
def tLst (t : TA) : TE := fun σ H Q => t σ H fun xs H1 => xs.length <= sizeLine /\ ∀ p, H1 p = none -> Q (.ref p) (upd H1 p (.lst xs))
theorem pe_tup {x1} (h : PA X es t) : PE X (.Tuple es x1 pos) (tTup t) := by
 intro pins s σ H Q I hq
 refine wpAny_Tuple_spliced (thn (h pos pins s σ H _ I hq) fun us s1 ⟨xs, H1, I1, r, z, q⟩ => ⟨by rw [<- r.length]; exact z, ?_⟩)
 have hf : H1 s1.heap.objs.size = none := I1.hok.fresh (Nat.le_refl _)
 refine ⟨.ref s1.heap.objs.size, upd H1 s1.heap.objs.size (.tup xs), I1.laid (t' := s1.toks) (fun b u e => Heap.get?_push_of_some _ e) (Nat.le_refl _) ?_, rfl, q _ hf⟩
 exact ⟨z, us, r, ⟨_, Heap.get?_push_size _ rfl, rfl, ⟨_, rfl⟩, rfl⟩⟩
theorem pe_lst (h : PA X es t) : PE X (.List es pos) (tLst t) := by
 intro pins s σ H Q I hq
 refine wpAny_List_spliced (thn (h pos pins s σ H _ I hq) fun us s1 ⟨xs, H1, I1, r, z, q⟩ => ⟨by rw [<- r.length]; exact z, ?_⟩)
 have hf : H1 s1.heap.objs.size = none := I1.hok.fresh (Nat.le_refl _)
 refine ⟨.ref s1.heap.objs.size, upd H1 s1.heap.objs.size (.lst xs), I1.laid (t' := s1.toks) (fun b u e => Heap.get?_push_of_some _ e) (Nat.le_refl _) ?_, rfl, q _ hf⟩
 exact ⟨z, us, 0, r, Heap.get?_push_size _ rfl⟩
end
abbrev Sp := List V -> Hp -> VK -> XK -> Prop
abbrev CXT := List Env -> Hp -> Shared -> XK -> Value -> Shared -> Prop
structure Env0 (P : Program) (w : World) (K : PySem.W.Frag) (mg : Str -> Option Value) (base : Heap) (A : Around) (outer : List Env) (s : Shared) (H : Hp) : Prop where
 frames : A.frames = some outer
 mod : Mod K mg base
 bs : ∀ b o, base.get? b = some o -> s.heap.get? b = some o /\ H b = none
 bsz : base.objs.size <= s.heap.objs.size
 funs : s.heap.FunFrames base outer
 frf : ∀ b ∈ frs outer, H b = none
 hok : HOk P w H s.heap
 bare : AllBare s.gens
def CE (outer : List Env) (P : Program) (w : World) (H : Hp) (s : Shared) (Q : VK) (u : Value) (s' : Shared) : Prop :=
 ∃ v H', s'.os = s.os /\ AllBare s'.gens /\ Un (frs outer) [] H H' s.heap s'.heap /\ HOk P w H' s'.heap /\ RelV v u /\ Q v H'
def CR (CX : CXT) (outer : List Env) (P : Program) (w : World) (H : Hp) (s : Shared) (Q : VK) (E : XK) (r : Result) (s' : Shared) : Prop :=
 match r with
 | .ok (.ret u) => CE outer P w H s Q u s'
 | .ok _ => False
 | .error e => CX outer H s E e s'
structure FnOk (P : Program) (w : World) (K : PySem.W.Frag) (mg : Str -> Option Value) (base : Heap) (CX : CXT) (k : Nat) (f : Addr) (fd : FuncData) (ps : List Str) (sp : Sp) : Prop where
 len : ∀ vs H Q E, sp vs H Q E -> vs.length = ps.length
 run : ∀ (A : Around) (outer : List Env) (s : Shared) (H : Hp) (args : Args) (us : List Value) (vs : List V) (Q : VK) (E : XK), Room k A -> Env0 P w K mg base A outer s H -> BindsTo s fd args (ps.zip us) -> Vals vs us -> sp vs H Q E ->
  codeAny (model P w) A (.call (.ref f) args) (CR CX outer P w H s Q E) s
theorem FnOk.imp {P : Program} {w : World} {K : PySem.W.Frag} {mg : Str -> Option Value} {base : Heap} {CX : CXT} {k : Nat} {f : Addr} {fd : FuncData} {ps : List Str} {sp sp' : Sp} (F : FnOk P w K mg base CX k f fd ps sp)
  (h : ∀ vs H Q E, sp' vs H Q E -> sp vs H Q E) : FnOk P w K mg base CX k f fd ps sp' :=
 ⟨fun vs H Q E q => F.len vs H Q E (h _ _ _ _ q), fun A outer s H args us vs Q E hr he hb hv hs => F.run A outer s H args us vs Q E hr he hb hv (h _ _ _ _ hs)⟩
section
variable {X : Cx} {pins : List (Addr × Obj)} {σ : St} {H : Hp} {s s' : Shared}
theorem Inv.env0 (I : Inv X pins σ H s) : Env0 X.prog X.w X.K X.mg X.base X.A X.stack s H :=
 ⟨I.ok.frames, I.ok.mod, I.bs, Nat.le_trans I.ok.bsz I.sz, I.stack, I.stkFree, I.hok, I.bare⟩
theorem Inv.after {Q : VK} {u : Value} (I : Inv X pins σ H s) (h : CE X.stack X.prog X.w H s Q u s') : EP X pins σ Q u s' := by
 obtain ⟨v, H', os, bare, un, hok, r, q⟩ := h
 obtain ⟨hh, g, d, t, os'⟩ := s'
 obtain rfl : os' = s.os := os
 exact ⟨v, H', I.call (h' := hh) (g' := g) (d' := d) (t' := t) (ch := []) un hok bare (fun b z => absurd z (by simp)), r, q⟩
end
def tCall (sp : Sp) (dvs : List V) (E : XK) (t : TA) : TE := fun σ H Q => t σ H fun vs H1 => sp (vs ++ dvs) H1 Q E
def Binds (K : PySem.W.Frag) (fd : FuncData) (ps : List Str) (ds : List Value) : Prop :=
 ∀ (s : Shared) (us : List Value), K.In s.heap -> (us ++ ds).length = ps.length -> BindsTo s fd ⟨us, []⟩ (ps.zip (us ++ ds))
theorem Binds.all {K : PySem.W.Frag} {fd : FuncData} {ps : List Str} (h : ∀ us : List Value, us.length = ps.length -> bindArgs fd ⟨us, []⟩ = pure (ps.zip us)) : Binds K fd ps [] := fun s us _ hl => by
 rw [List.append_nil] at hl ⊢
 exact .of_eq (h us hl)
def Passes (CX : CXT) (X : Cx) (E : XK) : Prop := ∀ (pins : List (Addr × Obj)) (σ : St) (H : Hp) (s : Shared) (e : Value) (s' : Shared), Inv X pins σ H s -> CX X.stack H s E e s' -> X.xe e s'
section
variable {X : Cx} {CX : CXT} {k : Nat} {f C : Addr} {fd : FuncData} {ps : List Str} {sp : Sp} {dvs : List V} {ds : List Value} {E : XK} {x m : Str} {p pos apos : Pos} {e o : Expr} {es : List Expr} {ta : TE} {t : TA}
theorem run_fn {pins : List (Addr × Obj)} {σ : St} {H : Hp} {s : Shared} {Q : VK} {us : List Value} {vs : List V} (F : FnOk X.prog X.w X.K X.mg X.base CX k f fd ps sp) (hr : Room k X.A) (hb : Binds X.K fd ps ds) (hd : Vals dvs ds) (hx : Passes CX X E)
  (I : Inv X pins σ H s) (r : Vals vs us) (h : sp (vs ++ dvs) H Q E) : wpAny (model X.prog X.w) X.A (call (.ref f) us) (EP X pins σ Q) X.xe s := by
 have r2 : Vals (vs ++ dvs) (us ++ ds) := r.append hd
 have hl : (us ++ ds).length = ps.length := by rw [<- r2.length]; exact F.len _ _ _ _ h
 refine wpAny_call (codeAny_mono (F.run X.A X.stack s H ⟨us, []⟩ (us ++ ds) (vs ++ dvs) Q E hr I.env0 (hb s us I.kIn hl) r2 h) fun r s' hq => ?_)
 cases r with
 | error e => exact hx pins σ H s e s' I hq
 | ok fl =>
  cases fl with
  | ret u => exact I.after hq
  | next => exact False.elim hq
  | brk => exact False.elim hq
  | cont => exact False.elim hq
theorem pe_call (F : FnOk X.prog X.w X.K X.mg X.base CX k f fd ps sp) (hr : Room k X.A) (hg : Gl X x) (hm : X.mg x = some (.ref f)) (hk : PySem.W.keepIn X.K (.ref f) = true) (hb : Binds X.K fd ps ds) (hd : Vals dvs ds) (hx : Passes CX X E)
  (ha : PA X (e :: es) t) (hdb : (x == ("__debug__" : Str)) = false := by decide) (he : starEach (e :: es) X.env = (false, eval e X.env) :: starEach es X.env := by rfl) (hpl : (backTo pos (starEach es X.env)).any (·.1) = false := by rfl) :
  PE X (.Call (.Name x p) (e :: es) [] pos) (tCall sp dvs E t) := by
 intro pins s σ H Q I h
 refine wpAny_Call_Name_kw (ld_glob I hg hm ?_ hdb)
 refine PySem.W.callWith_K (h₀ := X.base) I.ok.mod.kin hk (thn (ha pos pins s σ H _ I h) fun us s1 ⟨vs, H1, I1, r, q⟩ => ⟨I1.kIn, ?_⟩) he hpl
 exact run_fn F hr hb hd hx I1 r q
end
section
variable {X : Cx} {CX : CXT} {k : Nat} {f C : Addr} {fd : FuncData} {ps ks : List Str} {sp : Sp} {E : XK} {x m : Str} {p pos apos kpos : Pos} {e o : Expr} {es : List Expr} {kws : List Keyword} {te ta : TE} {t tk : TA} {nm : Option Str}
variable {g : List Value -> List Value -> List Value} {gV : List V -> List V -> List V}
end
structure FnScope (N P : List Str) (sc : Scope) : Prop where
 kind : sc.kind = .function
 co : sc.isCoroutine = false
 gen : sc.isGenerator = false
 nd : N.Nodup
 pre : N.take P.length = P
 par : ∀ x ∈ P, sc.names.lookup x = some .local \/ sc.names.lookup x = some .cell
 nofree : ∀ y ∈ sc.names, y.2 ≠ .free
theorem bindL_out {kindOf : Str -> Option NameKind} {x : Str} : ∀ {binds : List (Str × Value)} {m : Str -> Option Value}, (∀ v, (x, v) ∉ binds) -> bindL kindOf binds m x = m x
 | [], _, _ => rfl
 | (n, v) :: r, m, h => by
  unfold bindL
  rw [bindL_out fun w hw => h w (List.mem_cons_of_mem _ hw)]
  split
  ·have : x ≠ n := by rintro rfl; exact h v List.mem_cons_self
   simp [this]
  ·rfl
theorem bindC_out {kindOf : Str -> Option NameKind} {x : Str} : ∀ {binds : List (Str × Value)} {m : Str -> Option Value}, (∀ v, (x, v) ∉ binds) -> bindC kindOf binds m x = m x
 | [], _, _ => rfl
 | (n, v) :: r, m, h => by
  unfold bindC
  rw [bindC_out fun w hw => h w (List.mem_cons_of_mem _ hw)]
  split
  ·rfl
  ·have : x ≠ n := by rintro rfl; exact h v List.mem_cons_self
   simp [this]
theorem bindL_get {kindOf : Str -> Option NameKind} {x : Str} {v : Value} : ∀ {P : List Str} {vs : List Value} {i : Nat} {m : Str -> Option Value}, P.Nodup -> P[i]? = some x -> vs[i]? = some v -> kindOf x = some .local ->
  bindL kindOf (P.zip vs) m x = some v
 | [], _, _, _, _, h, _, _ => by simp at h
 | _ :: _, [], _, _, _, _, h, _ => by simp at h
 | p :: P, w :: vs, 0, m, nd, h1, h2, hk => by
  simp at h1 h2; subst h1; subst h2
  show bindL kindOf ((p, w) :: P.zip vs) m p = _
  unfold bindL
  rw [bindL_out fun v hv => (List.nodup_cons.mp nd).1 (List.of_mem_zip hv).1, if_pos hk]
  simp
 | p :: P, w :: vs, i + 1, m, nd, h1, h2, hk => by
  show bindL kindOf ((p, w) :: P.zip vs) m x = _
  unfold bindL
  exact bindL_get (i := i) (List.nodup_cons.mp nd).2 (by simpa using h1) (by simpa using h2) hk
theorem bindC_get {kindOf : Str -> Option NameKind} {x : Str} {v : Value} : ∀ {P : List Str} {vs : List Value} {i : Nat} {m : Str -> Option Value}, P.Nodup -> P[i]? = some x -> vs[i]? = some v -> kindOf x ≠ some .local ->
  bindC kindOf (P.zip vs) m x = some v
 | [], _, _, _, _, h, _, _ => by simp at h
 | _ :: _, [], _, _, _, _, h, _ => by simp at h
 | p :: P, w :: vs, 0, m, nd, h1, h2, hk => by
  simp at h1 h2; subst h1; subst h2
  show bindC kindOf ((p, w) :: P.zip vs) m p = _
  unfold bindC
  rw [bindC_out fun v hv => (List.nodup_cons.mp nd).1 (List.of_mem_zip hv).1, if_neg hk]
  simp
 | p :: P, w :: vs, i + 1, m, nd, h1, h2, hk => by
  show bindC kindOf ((p, w) :: P.zip vs) m x = _
  unfold bindC
  exact bindC_get (i := i) (List.nodup_cons.mp nd).2 (by simpa using h1) (by simpa using h2) hk
def start (N : List Str) (vs : List V) : St := vs.map some ++ List.replicate (N.length - vs.length) none
def cxOf (CX : CXT) (P : Program) (w : World) (K : PySem.W.Frag) (mg : Str -> Option Value) (base : Heap) (N : List Str) (qual : Str) (scope : Scope) (f : Addr) (cd : Value) (A : Around) (outer : List Env) (s : Shared) (H : Hp) (E : XK) : Cx where
 prog := P
 w := w
 K := K
 mg := mg
 base := base
 A := A.deeper (envOfC qual scope s.heap.objs.size f cd)
 N := N
 s₀ := s
 H₀ := H
 env := envOfC qual scope s.heap.objs.size f cd
 outer := outer
 stack := envOfC qual scope s.heap.objs.size f cd :: outer
 ex := []
 calm := true
 fn := fun _ => true
 pn := []
 xe := fun e s' => wpAny (model P w) (A.deeper (envOfC qual scope s.heap.objs.size f cd)) (leaving (envOfC qual scope s.heap.objs.size f cd) e) (fun _ s'' => CX outer H s E e s'') (fun e' s'' => CX outer H s E e' s'') s'
theorem cell_has {sc : Scope} {n : Nat} {x : Str} (h : sc.names.lookup x = some .cell) : ∃ c, (cellsFrom n sc.names []).lookup x = some c := by
 have q := PySem.W.cellsFrom_some sc.names n [] (.inl h)
 exact Option.isSome_iff_exists.mp q
theorem inv_start {CX : CXT} {P : Program} {w : World} {K : PySem.W.Frag} {mg : Str -> Option Value} {base : Heap} {N ps : List Str} {qual : Str} {scope : Scope} {f : Addr} {cd : Value} {A : Around} {outer : List Env} {s s1 : Shared} {H : Hp} {E : XK} {us : List Value} {vs : List V}
  (S : FnScope N ps scope) (hd : A.handled = none) (e0 : Env0 P w K mg base A outer s H) (hl : vs.length = ps.length) (r : Vals vs us)
  (x : InCallC s s.heap.objs.size (bindL (envOfC qual scope s.heap.objs.size f cd).kindOf (ps.zip us) fun _ => none) (cellsFrom (s.heap.objs.size + 1) scope.names []) (bindC (envOfC qual scope s.heap.objs.size f cd).kindOf (ps.zip us) fun _ => none) s1) :
  Inv (cxOf CX P w K mg base N qual scope f cd A outer s H E) [] (start N vs) H s1 := by
 have hpl : ps.length <= N.length := by have := congrArg List.length S.pre; rw [List.length_take] at this; omega
 obtain ⟨h1, tk, rfl, hk⟩ := x.done
 have noA : ∀ b : Addr, b ∉ (cxOf CX P w K mg base N qual scope f cd A outer s H E).ex := fun b z => absurd (show b ∈ ([] : List Addr) from z) (by simp)
 refine ⟨⟨e0.mod, S.kind, rfl, rfl, Nat.le_refl _, fun y z c h1 h2 => ?_, fun y hy => ?_, fun y c _ h => ?_, fun _ => hd, Around.frames_deeper e0.frames, .inr ⟨rfl, rfl⟩, fun b z => absurd z (noA b), e0.bs, e0.bsz, fun b _ _ => noA b, fun b z => absurd z (noA b), e0.funs, e0.frf⟩,
  rfl, e0.bare, Un.kept hk, ⟨_, x.toInCall.ns, fun i y v h1 h2 h3 => ?_⟩, fun y c h => ⟨_, x.cell y c h⟩, e0.hok.fresh (Nat.le_refl _), fun y c h => ?_, fun p hp => absurd (show p ∈ ([] : List (Addr × Obj)) from hp) (by simp), e0.hok.kept hk, ?_⟩
 ·exact name_of_addr x.apart (PySem.mem_of_lookup h1) (PySem.mem_of_lookup h2)
 ·have hy : scope.names.lookup y = some .cell \/ scope.names.lookup y = some .free := hy
  rcases hy with hy | hy
  ·exact cell_has hy
  ·exact absurd rfl (S.nofree _ (PySem.mem_of_lookup hy))
 ·exact Nat.le_of_lt (x.above y c (PySem.mem_of_lookup h))
 ·have hi : i < vs.length := by
   unfold start at h2
   by_cases hi : i < vs.length
   ·exact hi
   ·rw [List.getElem?_append_right (by simpa using hi)] at h2
    rw [List.getElem?_replicate] at h2
    split at h2 <;> cases h2
  have ha : vs[i]? = some v := by
   unfold start at h2
   rw [List.getElem?_append_left (by simpa using hi), List.getElem?_map] at h2
   cases e : vs[i]? with
   | none => rw [e] at h2; cases h2
   | some a => rw [e] at h2; cases h2; rfl
  obtain ⟨u, hu, rv⟩ := r.get ha
  have hp : ps[i]? = some y := by
   rw [<- S.pre, List.getElem?_take_of_lt (by omega)]; exact h1
  have ndP : ps.Nodup := by rw [<- S.pre]; exact S.nd.sublist (List.take_sublist _ _)
  refine ⟨u, rv, ?_⟩
  rcases S.par y (List.mem_of_getElem? hp) with k | k
  ·exact .inl ⟨k, bindL_get ndP hp hu k⟩
  ·obtain ⟨c, e⟩ := cell_has (n := s.heap.objs.size + 1) k
   refine .inr ⟨.inl k, c, e, ?_⟩
   have q := x.cell y c e
   rw [bindC_get ndP hp hu (by show scope.names.lookup y ≠ _; rw [k]; decide)] at q
   exact q
 ·exact e0.hok.fresh (Nat.le_of_lt (x.above y c (PySem.mem_of_lookup h)))
 ·unfold start
  show _ = N.length
  rw [List.length_append, List.length_map, List.length_replicate]
  omega
theorem fn_of {CX : CXT} {P : Program} {w : World} {K : PySem.W.Frag} {mg : Str -> Option Value} {base : Heap} {k : Nat} {f : Addr} {name qual : Str} {params : Arguments} {body : List Stmt} {scope : Scope} {dV kV doc pm cdv ct oc : Value} {an od : Option Addr}
  {osl : Array (Option Value)} {N ps : List Str} {sp : Sp} (lk : K.lookup f = some ⟨oc, od, .func (PySem.W.fnOf name qual params body scope dV kV doc pm an cdv ct), osl⟩) (hcd : PySem.W.codeIn K cdv qual = true) (S : FnScope N ps scope)
  (len : ∀ vs H Q E, sp vs H Q E -> vs.length = ps.length)
  (hbody : ∀ (A : Around) (outer : List Env) (s : Shared) (H : Hp) (vs : List V) (Q : VK) (E : XK), Room k (A.deeper (envOfC qual scope s.heap.objs.size f cdv)) -> sp vs H Q E ->
   ∃ t, PSs (cxOf CX P w K mg base N qual scope f cdv A outer s H E) body t /\ t { nx := fun _ H' => Q .non H', rt := Q } (start N vs) H) :
  FnOk P w K mg base CX (k + 1) f (PySem.W.fnOf name qual params body scope dV kV doc pm an cdv ct) ps sp := by
 refine ⟨len, fun A outer s H args us vs Q E hr e0 hb r hsp => ?_⟩
 have hl := len _ _ _ _ hsp
 have KX : K.In s.heap := e0.mod.kin.keeps fun b o e => (e0.bs b o e).1
 have lim : s.heap.NoLimit := e0.mod.nolimit.keeps fun b o e => (e0.bs b o e).1
 have hkind : ∀ y ∈ ps.zip us, scope.names.lookup y.1 = some .local \/ (scope.names.lookup y.1 = some .cell /\ ((cellsFrom (s.heap.objs.size + 1) scope.names []).lookup y.1).isSome = true) := fun ⟨n, v⟩ hy => by
  rcases S.par n (List.of_mem_zip hy).1 with q | q
  ·exact .inl q
  ·exact .inr ⟨q, PySem.W.cellsFrom_some _ _ _ (.inl q)⟩
 refine codeAny_call_function hr.depth (KX _ _ lk) rfl S.co S.gen rfl (PySem.W.codeRec_of KX hcd) (hb _ _ _ _ ?_)
 refine wpAny_newFunctionEnv_cells S.kind hkind fun env he s1 x => ?_
 subst he
 refine ⟨lim.keeps x.toInCall.keep, codeAny_func ?_⟩
 obtain ⟨t, ht, hq⟩ := hbody A outer s H vs Q E (hr.deeper _) hsp
 have I : Inv (cxOf CX P w K mg base N qual scope f cdv A outer s H E) [] (start N vs) H s1 := inv_start S hr.hd e0 hl r x
 refine wpAny_mono (ht [] s1 (start N vs) H _ I hq) (fun fl s' hs => ?_) fun e s' hs => hs
 have fin : ∀ {σ' : St} {H' : Hp} {v : V} {u : Value}, Inv (cxOf CX P w K mg base N qual scope f cdv A outer s H E) [] σ' H' s' -> RelV v u -> Q v H' -> CE outer P w H s Q u s' :=
  fun {σ' H' v u} J rv q => ⟨v, H', J.os, J.bare, J.base, J.hok, rv, q⟩
 cases fl with
 | ret u =>
  obtain ⟨v, σ', H', J, rv, q⟩ := hs
  exact fin J rv q
 | next =>
  obtain ⟨σ', H', J, q⟩ := hs
  exact fin (v := V.non) (u := Value.none) J rfl q
 | brk =>
  obtain ⟨_, _, _, q⟩ := hs
  exact False.elim q
 | cont =>
  obtain ⟨_, _, _, q⟩ := hs
  exact False.elim q
end L2
namespace L2
open PySem PySem.Spec PyProof.Rows
section
variable {X : Cx} {x : Str} {p pos : Pos} {e : Expr} {es : List Expr} {t : TA} {id T : String} {r : List V -> Hp -> VK -> Prop}
def tCB (r : List V -> Hp -> VK -> Prop) (t : TA) : TE := fun σ H Q => t σ H fun vs H1 => r vs H1 Q
theorem pe_callB (hc : CallR X (.builtin id) r) (hg : Gl X x) (hm : X.mg x = none) (hv : bootBuiltins x = some (.builtin id)) (ha : PA X (e :: es) t) (hn : x ≠ "__name__" := by decide) (hdb : (x == ("__debug__" : Str)) = false := by decide)
  (he : starEach (e :: es) X.env = (false, eval e X.env) :: starEach es X.env := by rfl) (hpl : (backTo pos (starEach es X.env)).any (·.1) = false := by rfl) : PE X (.Call (.Name x p) (e :: es) [] pos) (tCB r t) := by
 intro pins s σ H Q I h
 refine wpAny_Call_Name_kw (ld_blt I hg hm hv ?_ hn hdb)
 exact PyProof.Rows.callWith_builtin1 (thn (ha pos pins s σ H _ I h) fun us s1 ⟨vs, H1, I1, r1, q1⟩ => hc pins s1 σ H1 vs us Q I1 r1 q1) he hpl
theorem pe_callTy (hc : CallR X (.type T) r) (hg : Gl X x) (hm : X.mg x = none) (hv : bootBuiltins x = some (.type T)) (ha : PA X (e :: es) t) (hn : x ≠ "__name__" := by decide) (hdb : (x == ("__debug__" : Str)) = false := by decide)
  (he : starEach (e :: es) X.env = (false, eval e X.env) :: starEach es X.env := by rfl) (hpl : (backTo pos (starEach es X.env)).any (·.1) = false := by rfl) : PE X (.Call (.Name x p) (e :: es) [] pos) (tCB r t) := by
 intro pins s σ H Q I h
 refine wpAny_Call_Name_kw (ld_blt I hg hm hv ?_ hn hdb)
 exact PyProof.Rows.callWith_type1 (thn (ha pos pins s σ H _ I h) fun us s1 ⟨vs, H1, I1, r1, q1⟩ => hc pins s1 σ H1 vs us Q I1 r1 q1) he hpl
end
end L2
namespace HT
open PySem PyProof.Rows
section
open PySem.SeqAt
open PySem.AutoSeq1 (wpAny_loadPart')
open PySem.MeetsSeq PySem.MeetsSeq2 PySem.MeetsSeq3
end
section
variable {prog : Program} {w : World} {A : Around} {E : Value -> Shared -> Prop} {s : Shared}
theorem cat_tup {t b : Addr} {vs ws : List Value} {Q : Value -> Shared -> Prop} (ht : IsTup s.heap t vs.toArray) (hb : IsTup s.heap b ws.toArray) (hv : vs ≠ [])
  (h1 : ws = [] -> Q (.ref t) s) (h2 : ws ≠ [] -> Q (.ref s.heap.objs.size) { s with heap := s.heap.push { cls := .type "tuple", data := .seq (vs ++ ws).toArray } })
  (hsz : vs.length + ws.length <= sizeLine) : wpAny (model prog w) A (binaryOp .Add (.ref t) (.ref b)) Q E s := by
 obtain ⟨⟨cls, dd, data, sl⟩, ho, hc, n, hd⟩ := id ht
 obtain ⟨⟨cls2, dd2, data2, sl2⟩, ho2, hc2, n2, hd2⟩ := id hb
 simp only at hc hd hc2 hd2
 subst hc hd hc2 hd2
 have e : vs.toArray ++ ws.toArray = (vs ++ ws).toArray := by simp
 by_cases hw : ws = []
 ·exact concat_meets ⟨_, ho, rfl⟩ ⟨_, ho2, rfl⟩ noFill_tuple_add seq_tuple_add PySem.F.slot_tuple_add PySem.F.entry_tuple_add (PySem.F.args_tuple_add_2 _ _)
   (tuple_addW1 t b vs.toArray ws.toArray n n2 dd dd2 sl sl2 (by simpa using hv) (by simp [hw])) ⟨ho, ho2, h1 hw⟩
 ·refine concat_meets ⟨_, ho, rfl⟩ ⟨_, ho2, rfl⟩ noFill_tuple_add seq_tuple_add PySem.F.slot_tuple_add PySem.F.entry_tuple_add (PySem.F.args_tuple_add_2 _ _)
   (tuple_addW2 t b vs.toArray ws.toArray n n2 dd dd2 sl sl2 (by simpa using hv) (by simpa using hw) (by rw [List.size_toArray, List.size_toArray]; exact hsz)) ⟨ho, ho2, ?_⟩
  rw [e]
  exact h2 hw
def sIx (n d : Nat) : Option Int -> Nat
 | none => d
 | some v => if v < 0 then (v + (n : Int)).toNat else min v.toNat n
theorem sIx_le (n d : Nat) (hd : d <= n) (o : Option Int) : sIx n d o <= n := by
 cases o with
 | none => exact hd
 | some v =>
  show (if v < 0 then (v + (n : Int)).toNat else min v.toNat n) <= n
  by_cases hv : v < 0
  ·rw [if_pos hv]; omega
  ·rw [if_neg hv]; exact Nat.min_le_right _ _
theorem clip_eq (v : Int) (n d : Nat) : (if v < 0 then max (v + (n : Int)) 0 else min v (n : Int)) = ((sIx n d (some v) : Nat) : Int) := by
 show (if v < 0 then max (v + (n : Int)) 0 else min v (n : Int)) = (((if v < 0 then (v + (n : Int)).toNat else min v.toNat n) : Nat) : Int)
 by_cases hv : v < 0
 ·simp only [if_pos hv]; omega
 ·simp only [if_neg hv]; omega
theorem adjust_gen (lo hi : Option Int) (n : Nat) : Builtin.Slice.sliceAdjust lo hi 1 (n : Int) = (((sIx n 0 lo : Nat) : Int), ((sIx n n hi : Nat) : Int)) := by
 have h1 : ¬ ((1 : Int) < 0) := by omega
 unfold Builtin.Slice.sliceAdjust
 simp only [h1, if_false]
 refine Prod.ext ?_ ?_
 ·cases lo with
  | none => rfl
  | some v => exact clip_eq v n 0
 ·cases hi with
  | none => rfl
  | some v => exact clip_eq v n n
theorem places_gen (i j : Nat) : Builtin.Slice.slicePlaces (i : Int) (j : Int) 1 = j - i := by
 unfold Builtin.Slice.slicePlaces
 have h1 : (1 : Int) > 0 := by omega
 simp only [h1, if_true, Int.ediv_one]
 split <;> omega
theorem slicePart_ {v : Value} {o : Option Int} {Q : Option Int -> Shared -> Prop} (p : IsPart v o) (h : Q o s) : wpAny (model prog w) A (Builtin.Slice.slicePartIndex v) Q E s := by
 cases p with
 | none => exact slicePart_none h
 | int i t => exact slicePart_int h
theorem sliceApplied_gen {sl : Addr} {vl vu : Value} {lo hi : Option Int} {n : Nat} {Q : Int × Int × Nat -> Shared -> Prop} (hs : s.heap.IsSliceOf sl vl vu .none) (pl : IsPart vl lo) (pu : IsPart vu hi)
  (h : Q (((sIx n 0 lo : Nat) : Int), 1, sIx n n hi - sIx n 0 lo) s) : wpAny (model prog w) A (Builtin.Slice.sliceApplied (.ref sl) (pure (n : Int))) Q E s := by
 obtain ⟨os, hos, hcs, hds⟩ := id hs
 unfold Builtin.Slice.sliceApplied Builtin.Slice.sliceFields
 refine wpAny_bind (wpAny_bind (wpAny_field hos hds (x := vl) rfl (wpAny_bind (wpAny_field hos hds (x := vu) rfl (wpAny_bind (wpAny_field hos hds (x := .none) rfl (wpAny_pure ?_)))))))
 refine wpAny_bind (slicePart_none ?_)
 show wpAny _ _ (if ((1 : Int) == 0) = true then _ else _) _ _ s
 rw [if_neg (by decide)]
 refine wpAny_bind (slicePart_ pl (wpAny_bind (slicePart_ pu (wpAny_bind (wpAny_pure ?_)))))
 show wpAny _ _ (match Builtin.Slice.sliceAdjust lo hi 1 (n : Int) with | (lo, hi) => pure (lo, (1 : Int), Builtin.Slice.slicePlaces lo hi 1)) _ _ s
 rw [adjust_gen lo hi n]
 show wpAny _ _ (pure (((sIx n 0 lo : Nat) : Int), (1 : Int), Builtin.Slice.slicePlaces ((sIx n 0 lo : Nat) : Int) ((sIx n n hi : Nat) : Int) 1)) _ _ s
 rw [places_gen]
 exact wpAny_pure h
theorem pick_gen (xs : Array Value) (i k : Nat) : ((List.range k).filterMap fun (m : Nat) => xs[((i : Int) + (m : Int) * 1).toNat]?).toArray = ((xs.toList.drop i).take k).toArray := by
 have e : (fun (m : Nat) => xs[((i : Int) + (m : Int) * 1).toNat]?) = fun m => xs[i + m]? := by
  funext m
  have : ((i : Int) + (m : Int) * 1).toNat = i + m := by omega
  rw [this]
 rw [e]
 have := pick_run xs i k
 rw [List.filterMap_map] at this
 have e2 : ((fun x => xs[x]?) ∘ fun x => i + x) = fun m => xs[i + m]? := rfl
 rw [e2] at this
 rw [this]
theorem getItem_tuple_cut {t sl : Addr} {items : Array Value} {vl vu : Value} {lo hi : Option Int} {Q : Value -> Shared -> Prop} (ht : IsTup s.heap t items) (hs : s.heap.IsSliceOf sl vl vu .none) (pl : IsPart vl lo) (pu : IsPart vu hi)
  (hw : ¬ (sIx items.size 0 lo = 0 /\ sIx items.size items.size hi = items.size))
  (h : Q (.ref s.heap.objs.size) { s with heap := s.heap.push { cls := .type "tuple", data := .seq ((items.toList.drop (sIx items.size 0 lo)).take (sIx items.size items.size hi - sIx items.size 0 lo)).toArray } })
  (hsz : items.size <= sizeLine) : wpAny (model prog w) A (getItem (.ref t) (.ref sl)) Q E s := by
 have htake : sizeOk (.seq ((items.toList.drop (sIx items.size 0 lo)).take (sIx items.size items.size hi - sIx items.size 0 lo)).toArray) := by
  show ((items.toList.drop (sIx items.size 0 lo)).take (sIx items.size items.size hi - sIx items.size 0 lo)).toArray.size <= sizeLine
  rw [List.size_toArray, List.length_take, List.length_drop, Array.length_toList]
  omega
 have hj : sIx items.size items.size hi <= items.size := sIx_le _ _ (Nat.le_refl _) hi
 obtain ⟨os, hos, hcs, hds⟩ := id hs
 have hTs : s.TypeIs (.ref sl) "slice" := ⟨os, hos, hcs⟩
 unfold getItem
 try with_reducible refine wpAny_holding ?_
 first | refine wpAny_bind (wpAny_pure ?_) | skip
 refine wpAny_bind (wpAny_sequenceKey ht.typeIs (by decide) ?_)
 refine wpAny_bind (wpAny_callSpecial?_slot (name := Str.ofString "__getitem__") ht.typeIs PyProof.Rows.slot_tuple_getitem
  (wpAny_call_entry PyProof.Rows.slot_tuple_getitem ht.typeIs entry_tuple_getitem ?_ (args_tuple_getitem _ _)))
 show wpAny _ _ (Builtin.Tuple.tupleItemsOf (.ref t) >>= _) _ _ s
 refine wpAny_bind (tupleItemsOf_ ht ?_)
 refine wpAny_bind (wpAny_typeOf hTs ?_)
 rw [if_pos (by decide)]
 refine wpAny_bind (sliceApplied_gen hs pl pu ?_)
 have hno : ¬ ((((sIx items.size 0 lo : Nat) : Int) == 0 && (1 : Int) == 1 && (sIx items.size items.size hi - sIx items.size 0 lo) == items.size) = true) := by
  intro q
  rw [Bool.and_eq_true, Bool.and_eq_true] at q
  have q1 : ((sIx items.size 0 lo : Nat) : Int) = 0 := eq_of_beq q.1.1
  have q2 : sIx items.size items.size hi - sIx items.size 0 lo = items.size := eq_of_beq q.2
  exact hw ⟨by omega, by omega⟩
 show wpAny _ _ (if (((sIx items.size 0 lo : Nat) : Int) == 0 && (1 : Int) == 1 && (sIx items.size items.size hi - sIx items.size 0 lo) == items.size) = true then _ else _) _ _ s
 rw [if_neg hno, pick_gen]
 first
  | exact wpAny_bind (m := Builtin.Tuple.tupleExact _) (wpAny_newObj_type (wpAny_pure ⟨_, rfl, wpAny_pure h⟩) htake)
  | exact wpAny_bind (m := Builtin.Tuple.tupleExact _) (wpAny_newObj_type (wpAny_bind (wpAny_pure (wpAny_pure ⟨_, rfl, wpAny_pure h⟩))) htake)
  | exact wpAny_bind (wpAny_bind (m := Builtin.Tuple.tupleExact _) (wpAny_newObj_type (wpAny_pure (wpAny_pure ⟨_, rfl, wpAny_pure h⟩)) htake))
  | exact wpAny_bind (wpAny_bind (m := Builtin.Tuple.tupleExact _) (wpAny_newObj_type (wpAny_pure ⟨_, rfl, wpAny_pure h⟩) htake))
end
end HT
namespace L2
open PySem PySem.Spec PyProof.Rows
abbrev TO := St -> Hp -> (Option Int -> Hp -> Prop) -> Prop
def PO (X : Cx) (e : Option Expr) (t : TO) : Prop :=
 ∀ (pins : List (Addr × Obj)) (s : Shared) (σ : St) (H : Hp) (Q : Option Int -> Hp -> Prop), Inv X pins σ H s -> t σ H Q ->
  wpAny (model X.prog X.w) X.A (evalPart e X.env) (fun u s' => ∃ o H', Inv X pins σ H' s' /\ IsPart u o /\ Q o H') X.xe s
def tNoPart : TO := fun _ H Q => Q none H
def tPart (t : TE) : TO := fun σ H Q => t σ H fun x H1 => ∃ i, x = .int i /\ Q (some i) H1
section
variable {X : Cx} {e : Expr} {te : TE} {lo hi : Option Expr} {tl th : TO} {pos p2 : Pos}
theorem po_none : PO X none tNoPart := by
 intro pins s σ H Q I h
 rw [evalPart_none]
 exact wpAny_pure ⟨none, H, I, .none, h⟩
theorem po_some (h : PE X e te) : PO X (some e) (tPart te) := by
 intro pins s σ H Q I hw
 rw [evalPart_some]
 refine thn (h pins s σ H _ I hw) fun u s1 ⟨x, H1, I1, r1, q1⟩ => ?_
 obtain ⟨i, rfl, q⟩ := q1
 obtain ⟨t, rfl⟩ := r1
 exact ⟨some i, H1, I1, .int i t, q⟩
def SlR (X : Cx) (r : V -> Option Int -> Option Int -> Hp -> VK -> Prop) : Prop :=
 ∀ (pins : List (Addr × Obj)) (s : Shared) (σ : St) (H : Hp) (x : V) (v vl vu : Value) (lo hi : Option Int) (sl : Addr) (Q : VK), Inv X pins σ H s -> RelV x v -> s.heap.IsSliceOf sl vl vu .none -> IsPart vl lo -> IsPart vu hi -> r x lo hi H Q ->
  ∃ T id, typeLookup (.type T) "__getitem__" = pure (some (.builtin id)) /\ s.TypeIs v T /\ wpAny (model X.prog X.w) X.A (getItem v (.ref sl)) (EP X pins σ Q) X.xe s
theorem SlR.or {r r' : V -> Option Int -> Option Int -> Hp -> VK -> Prop} (h : SlR X r) (h' : SlR X r') : SlR X (fun x lo hi H Q => r x lo hi H Q \/ r' x lo hi H Q) := by
 intro pins s σ H x v vl vu lo hi sl Q I rx hs pl pu q
 rcases q with q | q
 ·exact h pins s σ H x v vl vu lo hi sl Q I rx hs pl pu q
 ·exact h' pins s σ H x v vl vu lo hi sl Q I rx hs pl pu q
def tSl (r : V -> Option Int -> Option Int -> Hp -> VK -> Prop) (te : TE) (tl th : TO) : TE := fun σ H Q => te σ H fun x H1 => tl σ H1 fun l H2 => th σ H2 fun u H3 => r x l u H3 Q
theorem pe_slice {r : V -> Option Int -> Option Int -> Hp -> VK -> Prop} (hr : SlR X r) (he : PE X e te) (hl : PO X lo tl) (hu : PO X hi th) : PE X (.Subscript e (.Slice lo hi none p2) pos) (tSl r te tl th) := by
 intro pins s σ H Q I h
 refine Subscript_ (thn (he pins s σ H _ I h) fun v s1 ⟨x, H1, I1, r1, q1⟩ => ?_)
 refine wpAny_Slice (thn (hl pins s1 σ H1 _ I1 q1) fun vl s2 ⟨l, H2, I2, pl, q2⟩ => thn (hu pins s2 σ H2 _ I2 q2) fun vu s3 ⟨u, H3, I3, pu, q3⟩ => ?_)
 rw [evalPart_none]
 refine wpAny_pure ?_
 have I4 : Inv X pins σ H3 { s3 with heap := s3.heap.push { cls := .type "slice", data := .fields #[vl, vu, .none] } } := I3.kept (t' := s3.toks) fun b ob q => Heap.get?_push_of_some _ q
 obtain ⟨T, id, hT, ht, hg⟩ := hr pins { s3 with heap := s3.heap.push { cls := .type "slice", data := .fields #[vl, vu, .none] } } σ H3 x v vl vu l u s3.heap.objs.size Q I4 r1 (Heap.IsSliceOf.new ..) pl pu q3
 show wpAny (model X.prog X.w) X.A (subscriptTail e (.Slice lo hi none p2) v (.ref s3.heap.objs.size)) (EP X pins σ Q) X.xe { s3 with heap := s3.heap.push { cls := .type "slice", data := .fields #[vl, vu, .none] } }
 exact tail_any (ops := [.ref s3.heap.objs.size, v]) ht hT hg (by with_unfolding_all rfl)
def cutV (xs : List V) (lo hi : Option Int) : List V := (xs.drop (HT.sIx xs.length 0 lo)).take (HT.sIx xs.length xs.length hi - HT.sIx xs.length 0 lo)
theorem cutV_length (xs : List V) (lo hi : Option Int) : (cutV xs lo hi).length <= xs.length := by
 unfold cutV
 rw [List.length_take, List.length_drop]
 omega
def rSlT (K : PySem.W.Frag) : V -> Option Int -> Option Int -> Hp -> VK -> Prop := fun x lo hi H Q => ∃ a xs, x = .ref a /\ SqT K H a xs /\
 ¬ (HT.sIx xs.length 0 lo = 0 /\ HT.sIx xs.length xs.length hi = xs.length) /\ ∀ p, H p = none -> Q (.ref p) (upd H p (.tup (cutV xs lo hi)))
theorem sl_tup : SlR X (rSlT X.K) := by
 intro pins s σ H x v vl vu lo hi sl Q I rx hs pl pu h
 obtain ⟨a, xs, rfl, hx, hw, q⟩ := h
 cases rx
 obtain ⟨its, r, ht, hz⟩ := I.tuple hx
 have hlen : its.toArray.size = xs.length := by rw [List.size_toArray]; exact r.length.symm
 refine ⟨"tuple", _, PyProof.Rows.slot_tuple_getitem.lookup, ht.typeIs, ?_⟩
 refine HT.getItem_tuple_cut ht hs pl pu (by rw [hlen]; exact hw) ?_ (by rw [hlen]; exact hz)
 rw [hlen]
 refine ⟨.ref s.heap.objs.size, _, I.laid (t' := s.toks) (o := .tup (cutV xs lo hi)) (fun b ob q => Heap.get?_push_of_some _ q) (Nat.le_refl _) ?_, rfl, q _ (I.hok.fresh (Nat.le_refl _))⟩
 exact ⟨Nat.le_trans (cutV_length xs lo hi) hz, _, (r.drop (HT.sIx xs.length 0 lo)).take (HT.sIx xs.length xs.length hi - HT.sIx xs.length 0 lo), IsTupD.new _ _⟩
def rCatT (K : PySem.W.Frag) : R2 := fun x y H Q => ∃ a b xs ys, x = .ref a /\ y = .ref b /\ SqT K H a xs /\ SqT K H b ys /\ xs ≠ [] /\ xs.length + ys.length <= sizeLine /\
 (ys = [] -> Q (.ref a) H) /\ (ys ≠ [] -> ∀ p, H p = none -> Q (.ref p) (upd H p (.tup (xs ++ ys))))
theorem Vals.nil_iff {xs : List V} {us : List Value} (r : Vals xs us) : us = [] ↔ xs = [] := by
 cases r with
 | nil => simp
 | cons _ _ => simp
theorem op_catT : OpR X (binaryOp .Add) (rCatT X.K) := by
 intro pins s σ H x y v u Q I rx ry h
 obtain ⟨a, b, xs, ys, rfl, rfl, ha, hb, hx, hz, q1, q2⟩ := h
 cases rx
 cases ry
 obtain ⟨its, r1, p1, _⟩ := I.tuple ha
 obtain ⟨its2, r2, p2, _⟩ := I.tuple hb
 refine HT.cat_tup p1 p2 (fun z => hx (r1.nil_iff.mp z)) (fun z => ⟨.ref a, H, I, rfl, q1 (r2.nil_iff.mp z)⟩) (fun z => ?_) (by rw [<- r1.length, <- r2.length]; exact hz)
 refine ⟨.ref s.heap.objs.size, _, I.laid (t' := s.toks) (o := .tup (xs ++ ys)) (fun b ob q => Heap.get?_push_of_some _ q) (Nat.le_refl _) ?_, rfl, q2 (fun w => z (r2.nil_iff.mpr w)) _ (I.hok.fresh (Nat.le_refl _))⟩
 exact ⟨by rw [List.length_append]; exact hz, _, r1.append r2, IsTupD.new _ _⟩
end
end L2
namespace L2
open PySem PySem.Spec PyProof.Rows
def ixN (n : Nat) (i : Int) : Option Nat := if 0 <= i then (if i < n then some i.toNat else none) else if -(n : Int) <= i then some (i + n).toNat else none
def atI {α : Type} (xs : List α) (i : Int) : Option α := (ixN xs.length i).bind fun j => xs[j]?
theorem ixN_seq {n : Nat} {i : Int} {j : Nat} (h : ixN n i = some j) : seqIndex? i n = some j /\ j < n /\ -(n : Int) <= i /\ i < n := by
 unfold ixN at h
 by_cases h0 : 0 <= i
 ·rw [if_pos h0] at h
  by_cases h1 : i < n
  ·rw [if_pos h1] at h
   have e : i.toNat = j := Option.some.inj h
   exact ⟨by rw [seqIndex_of h0 h1, e], by omega, by omega, h1⟩
  ·rw [if_neg h1] at h; cases h
 ·rw [if_neg h0] at h
  by_cases h1 : -(n : Int) <= i
  ·rw [if_pos h1] at h
   have e : (i + n).toNat = j := Option.some.inj h
   exact ⟨by rw [seqIndex_neg (by omega) h1, e], by omega, h1, by omega⟩
  ·rw [if_neg h1] at h; cases h
theorem atI_get {α : Type} {xs : List α} {i : Int} {v : α} (h : atI xs i = some v) : ∃ j, seqIndex? i xs.length = some j /\ xs[j]? = some v /\ j < xs.length /\ -(xs.length : Int) <= i /\ i < xs.length := by
 unfold atI at h
 cases e : ixN xs.length i with
 | none => rw [e] at h; cases h
 | some j =>
  rw [e] at h
  obtain ⟨h1, h2, h3, h4⟩ := ixN_seq e
  exact ⟨j, h1, h, h2, h3, h4⟩
theorem atI_nat {α : Type} {xs : List α} {j : Nat} {v : α} (h : xs[j]? = some v) : atI xs (j : Int) = some v := by
 have hj : j < xs.length := (List.getElem?_eq_some_iff.mp h).1
 have e : ixN xs.length (j : Int) = some j := by
  unfold ixN
  rw [if_pos (by omega), if_pos (by omega)]; simp
 unfold atI; rw [e]; exact h
def PlainIx (b : Expr) : Prop := ∀ o i, subscripted b false o i = operate [o, i] (getItem o i)
def IxR (X : Cx) (r : R2) : Prop :=
 ∀ (value slice : Expr) (pins : List (Addr × Obj)) (s : Shared) (σ : St) (H : Hp) (x y : V) (v u : Value) (Q : VK), Inv X pins σ H s -> RelV x v -> RelV y u -> r x y H Q ->
  subscripted slice false v u = operate [v, u] (getItem v u) -> wpAny (model X.prog X.w) X.A (subscriptTail value slice v u) (EP X pins σ Q) X.xe s
def MtR (X : Cx) (id : String) (r : V -> List V -> Hp -> VK -> Prop) : Prop :=
 ∀ (pins : List (Addr × Obj)) (s : Shared) (σ : St) (H : Hp) (x : V) (xs : List V) (v : Value) (us : List Value) (Q : VK), Inv X pins σ H s -> RelV x v -> Vals xs us -> r x xs H Q ->
  wpAny (model X.prog X.w) X.A (call (.builtin id) (v :: us)) (EP X pins σ Q) X.xe s
section
variable {X : Cx} {a b : Expr} {ta tb : TE} {pos : Pos}
theorem pe_ix {r : R2} (hr : IxR X r) (ha : PE X a ta) (hb : PE X b tb) (hs : PlainIx b) : PE X (.Subscript a b pos) (tOp r ta tb) := by
 intro pins s σ H Q I h
 exact Subscript_ (binT ha hb I h fun v u s2 x y H2 I2 rx ry q => hr a b pins s2 σ H2 x y v u Q I2 rx ry q (hs _ _))
def rIxL (K : PySem.W.Frag) : R2 := fun x y H Q => ∃ p xs i v, x = .ref p /\ y = .int i /\ SqL K H p xs /\ atI xs i = some v /\ Q v H
def rIxT (K : PySem.W.Frag) : R2 := fun x y H Q => ∃ p xs i v, x = .ref p /\ y = .int i /\ SqT K H p xs /\ atI xs i = some v /\ Q v H
theorem ix_list : IxR X (rIxL X.K) := by
 intro value slice pins s σ H x y v u Q I rx ry h hs
 obtain ⟨p, xs, i, z, rfl, rfl, hq, he, q⟩ := h
 cases rx
 obtain ⟨t, rfl⟩ := ry
 obtain ⟨its, r, pl, hz⟩ := I.list hq
 obtain ⟨j, h1, h2, h3, h4, h5⟩ := atI_get he
 obtain ⟨w, ew, rw'⟩ := r.get h2
 have hl := r.length
 have hn := line63
 have fin : EP X pins σ Q w s := ⟨z, H, I, rw', q⟩
 by_cases h0 : 0 <= i
 ·have hj : i.toNat = j := by
   rw [seqIndex_of h0 h5] at h1
   exact Option.some.inj h1
  exact item_listR pl.isList h0 (by omega) (by rw [hj]; simpa using ew) fin hs
 ·have hj : (i + (its.toArray.size : Int)).toNat = j := by
   rw [seqIndex_neg (by omega) h4] at h1
   rw [List.size_toArray, <- hl]
   exact Option.some.inj h1
  exact subscriptTail_builtinR (x := w) pl.isList.typeIs slot_list_getitem.lookup
   (wpAny_getItem_list_neg (Q := fun r s' => r = w /\ EP X pins σ Q r s') pl.isList (by omega) (by rw [List.size_toArray] <;> omega) (by omega) (by rw [hj]; simpa using ew) ⟨rfl, fin⟩) hs
theorem ix_tup : IxR X (rIxT X.K) := by
 intro value slice pins s σ H x y v u Q I rx ry h hs
 obtain ⟨p, xs, i, z, rfl, rfl, hq, he, q⟩ := h
 cases rx
 obtain ⟨t, rfl⟩ := ry
 obtain ⟨its, r, pl, hz⟩ := I.tuple hq
 obtain ⟨j, h1, h2, h3, h4, h5⟩ := atI_get he
 obtain ⟨w, ew, rw'⟩ := r.get h2
 have hl := r.length
 have hn := line63
 have fin : EP X pins σ Q w s := ⟨z, H, I, rw', q⟩
 exact subscriptTail_builtinR (x := w) pl.typeIs slot_tuple_getitem.lookup
  (getItem_tuple (j := j) (Q := fun r s' => r = w /\ EP X pins σ Q r s') pl (by omega) (by omega) (by rw [List.size_toArray, <- hl]; exact h1) (by simpa using ew) ⟨rfl, fin⟩) hs
theorem mapSeq_set (its : List Value) (n j : Nat) (u : Value) : Obj.mapSeq (·.setIfInBounds j u) { cls := .type "list", data := .seq its.toArray n } = { cls := .type "list", data := .seq (its.set j u).toArray n } := by
 simp [Obj.mapSeq]
theorem Inv.lst {pins : List (Addr × Obj)} {σ : St} {H : Hp} {s : Shared} {p : Addr} {xs : List V} (I : Inv X pins σ H s) (h : H p = some (.lst xs)) :
  ∃ (its : List Value) (n : Nat), Vals xs its /\ s.heap.get? p = some { cls := .type "list", data := .seq its.toArray n } /\ xs.length <= sizeLine := by
 obtain ⟨z, its, n, r, e⟩ := I.hok p _ h
 exact ⟨its, n, r, e, z⟩
theorem Inv.lstUpd {pins : List (Addr × Obj)} {σ : St} {H : Hp} {s : Shared} {p : Addr} {xs ys : List V} {its its' : List Value} {n n' : Nat} {f : Obj -> Obj} (I : Inv X pins σ H s) (h : H p = some (.lst xs))
  (ho : s.heap.get? p = some { cls := .type "list", data := .seq its.toArray n }) (hf : f { cls := .type "list", data := .seq its.toArray n } = { cls := .type "list", data := .seq its'.toArray n' }) (r : Vals ys its') (hz : ys.length <= sizeLine) (t : Nat) :
  Inv X pins σ (upd H p (.lst ys)) { s with heap := s.heap.update p f, toks := t } := by
 have e : (s.heap.update p f).get? p = some { cls := .type "list", data := .seq its'.toArray n' } := by
  rw [Heap.get?_update_self f ho (by rw [hf] <;> rfl), hf]
 refine I.write (x := p) (e := p) (by rw [h]; trivial) (.inl rfl) (fun b u hb q => (Heap.get?_update_other _ _ (Ne.symm hb)).trans q) ⟨_, e⟩ ?_
 exact ⟨hz, its', n', r, e⟩
def rSetL : V -> V -> V -> Hp -> (Hp -> Prop) -> Prop := fun o i v H Q => ∃ p xs k j, o = .ref p /\ i = .int k /\ H p = some (.lst xs) /\ ixN xs.length k = some j /\ Q (upd H p (.lst (xs.set j v)))
theorem set_list : PSet X rSetL := by
 intro pins s σ H o i v ov iv u Q I ro ri rv h
 obtain ⟨p, xs, k, j, rfl, rfl, hp, hj, q⟩ := h
 cases ro
 obtain ⟨t, rfl⟩ := ri
 obtain ⟨its, n, r, ho, hz⟩ := I.lst hp
 obtain ⟨h1, h2, h3, h4⟩ := ixN_seq hj
 have hl := r.length
 have hn := line63
 have I' : Inv X pins σ (upd H p (.lst (xs.set j v))) { s with heap := s.heap.update p (Obj.mapSeq (·.setIfInBounds j u)) } :=
  I.lstUpd hp ho (mapSeq_set its n j u) (r.set rv j) (by rw [List.length_set]; exact hz) s.toks
 by_cases h0 : 0 <= k
 ·have hk : k.toNat = j := by
   rw [seqIndex_of h0 h4] at h1
   exact Option.some.inj h1
  exact PySem.W.ki_setAt ho h0 (by omega) (by rw [List.size_toArray, <- hl]; exact h4) (by rw [hk]; exact ⟨_, I', q⟩)
 ·have hk : (k + (its.toArray.size : Int)).toNat = j := by
   rw [seqIndex_neg (by omega) h3] at h1
   rw [List.size_toArray, <- hl]
   exact Option.some.inj h1
  exact PySem.W.ki_setBack ho (by omega) (by rw [List.size_toArray, <- hl]; exact h3) (by omega) (by rw [hk]; exact ⟨_, I', q⟩)
theorem slice_bounds (lo hi : Option Int) (n : Nat) : (sliceBounds lo hi none n).1 = ((HT.sIx n 0 lo : Nat) : Int) /\ (sliceBounds lo hi none n).2.1 = ((HT.sIx n n hi : Nat) : Int) /\ (sliceBounds lo hi none n).2.2 = 1 := by
 refine ⟨?_, ?_, rfl⟩
 ·cases lo with
  | none => simp [sliceBounds, HT.sIx]
  | some i =>
   simp only [sliceBounds, HT.sIx, Option.getD_none, show (1 : Int) > 0 by decide, if_true]
   by_cases h : i < 0
   ·simp only [h, if_true] <;> omega
   ·simp only [h, if_false] <;> omega
 ·cases hi with
  | none => simp [sliceBounds, HT.sIx]
  | some i =>
   simp only [sliceBounds, HT.sIx, Option.getD_none, show (1 : Int) > 0 by decide, if_true]
   by_cases h : i < 0
   ·simp only [h, if_true] <;> omega
   ·simp only [h, if_false] <;> omega
theorem slicePick_cut (its : List Value) (lo hi : Option Int) : slicePick its.toArray lo hi none = ((its.drop (HT.sIx its.length 0 lo)).take (HT.sIx its.length its.length hi - HT.sIx its.length 0 lo)).toArray := by
 obtain ⟨h1, h2, h3⟩ := slice_bounds lo hi its.toArray.size
 unfold slicePick
 rw [h1, h2, h3]
 simp only [sliceRange_one, pick_run, List.size_toArray] <;> rfl
def rSlL (K : PySem.W.Frag) : V -> Option Int -> Option Int -> Hp -> VK -> Prop := fun x lo hi H Q => ∃ a xs, x = .ref a /\ SqL K H a xs /\ ∀ p, H p = none -> Q (.ref p) (upd H p (.lst (cutV xs lo hi)))
theorem sl_list : SlR X (rSlL X.K) := by
 intro pins s σ H x v vl vu lo hi sl Q I rx hs pl pu h
 obtain ⟨a, xs, rfl, hx, q⟩ := h
 cases rx
 obtain ⟨its, r, ht, hz⟩ := I.list hx
 have hlen := r.length
 refine ⟨"list", _, slot_list_getitem.lookup, ht.isList.typeIs, ?_⟩
 refine wpAny_getItem_list_slice ht.isList hs pl pu .none (by simp) ?_ (by rw [List.size_toArray] <;> omega)
 rw [slicePick_cut, <- hlen]
 refine ⟨.ref s.heap.objs.size, _, I.laid (t' := s.toks) (o := .lst (cutV xs lo hi)) (fun b ob q => Heap.get?_push_of_some _ q) (Nat.le_refl _) ?_, rfl, q _ (I.hok.fresh (Nat.le_refl _))⟩
 exact ⟨Nat.le_trans (cutV_length xs lo hi) hz, _, 0, (r.drop (HT.sIx xs.length 0 lo)).take (HT.sIx xs.length xs.length hi - HT.sIx xs.length 0 lo), Heap.get?_push_size _ rfl⟩
theorem call_len_seq : CallR X (.builtin "len") (fun xs H Q => ∃ p ys, xs = [.ref p] /\ (SqL X.K H p ys \/ SqT X.K H p ys) /\ Q (.int ys.length) H) := by
 intro pins s σ H xs us Q I r h
 obtain ⟨p, ys, rfl, hq, q⟩ := h
 obtain ⟨u, rfl, rx⟩ := vals1 r
 cases rx
 have hn := line63
 rcases hq with hq | hq
 ·obtain ⟨its, r', pl, hz⟩ := I.list hq
  have hlen := r'.length
  exact Calls.call_len_list pl.isList (by simp only [List.size_toArray] <;> omega) ⟨.int ys.length, H, I.tok _, ⟨s.toks + 1, by rw [List.size_toArray, hlen]⟩, q⟩
 ·obtain ⟨its, r', pl, hz⟩ := I.tuple hq
  have hlen := r'.length
  exact len_tuple pl (by simp only [List.size_toArray] <;> omega) ⟨.int ys.length, H, I.tok _, ⟨s.toks + 1, by rw [List.size_toArray, hlen]⟩, q⟩
theorem call_list_of : CallR X (.type "list") (fun xs H Q => ∃ p ys, xs = [.ref p] /\ (SqL X.K H p ys \/ SqT X.K H p ys) /\ ∀ l, H l = none -> Q (.ref l) (upd H l (.lst ys))) := by
 intro pins s σ H xs us Q I r h
 obtain ⟨p, ys, rfl, hq, q⟩ := h
 obtain ⟨u, rfl, rx⟩ := vals1 r
 cases rx
 have fin : ∀ (its : List Value), Vals ys its -> ys.length <= sizeLine -> ∀ (h' : Heap) (c' : Nat), (∀ b o', s.heap.get? b = some o' -> h'.get? b = some o') ->
   h'.get? s.heap.objs.size = some { cls := .type "list", dict := none, data := .seq its.toArray c', slots := #[] } -> EP X pins σ Q (.ref s.heap.objs.size) { s with heap := h' } := fun its r' hz h' c' kp e =>
  ⟨.ref s.heap.objs.size, _, I.laid (t' := s.toks) kp (Nat.le_refl _) (show ObjOk X.prog X.w _ h' _ (.lst ys) from ⟨hz, its, c', r', e⟩), rfl, q _ (I.hok.fresh (Nat.le_refl _))⟩
 rcases hq with hq | hq
 ·obtain ⟨its, r', pl, hz⟩ := I.list hq
  have hlen := r'.length
  obtain ⟨o, ho, hc, n, hd⟩ := pl.isList
  exact call_list_seq p (.inl rfl) ho hc hd (fun h' c' kp e => fin its r' hz h' c' kp e) (by simp only [List.size_toArray] <;> omega)
 ·obtain ⟨its, r', pl, hz⟩ := I.tuple hq
  have hlen := r'.length
  obtain ⟨o, ho, hc, n, hd⟩ := pl
  exact call_list_seq p (.inr rfl) ho hc hd (fun h' c' kp e => fin its r' hz h' c' kp e) (by simp only [List.size_toArray] <;> omega)
theorem call_tuple_of : CallR X (.type "tuple") (fun xs H Q => ∃ p ys, xs = [.ref p] /\ ((SqL X.K H p ys /\ ∀ l, H l = none -> Q (.ref l) (upd H l (.tup ys))) \/ (SqT X.K H p ys /\ Q (.ref p) H))) := by
 intro pins s σ H xs us Q I r h
 obtain ⟨p, ys, rfl, h⟩ := h
 obtain ⟨u, rfl, rx⟩ := vals1 r
 cases rx
 rcases h with ⟨hq, q⟩ | ⟨hq, q⟩
 ·obtain ⟨its, r', pl, hz⟩ := I.list hq
  have hlen := r'.length
  refine call_tuple_list pl.isList (fun h' kp => ?_) (by simp only [List.size_toArray] <;> omega)
  have I1 : Inv X pins σ H { s with heap := h' } := I.kept (t' := s.toks) kp
  have I2 : Inv X pins σ (upd H h'.objs.size (.tup ys)) { s with heap := h'.push { cls := .type "tuple", data := .seq its.toArray } } :=
   I1.laid (t' := s.toks) (fun b o e => Heap.get?_push_of_some _ e) (Nat.le_refl _) (show ObjOk X.prog X.w _ _ _ (.tup ys) from ⟨hz, its, r', IsTupD.new _ _⟩)
  exact ⟨.ref h'.objs.size, _, I2, rfl, q _ (I1.hok.fresh (Nat.le_refl _))⟩
 ·obtain ⟨its, r', pl, hz⟩ := I.tuple hq
  exact call_tuple_same pl ⟨.ref p, H, I, rfl, q⟩
def tyV (K : PySem.W.Frag) (T : String) (x : V) (H : Hp) : Prop := match x with
 | .str _ => T = "str"
 | .int _ => T = "int"
 | .ref p => (T = "list" /\ ∃ xs, SqL K H p xs) \/ (T = "tuple" /\ ∃ o, K.lookup p = some o /\ o.cls = .type "tuple" /\ o.dict = none) \/
   (T = "dict" /\ ((∃ kvs, H p = some (.dK kvs)) \/ ∃ kvs, H p = some (.dT kvs))) \/ (T = "set" /\ ∃ S n, H p = some (.set S n))
 | _ => False
theorem tyV_is {pins : List (Addr × Obj)} {σ : St} {H : Hp} {s : Shared} {T : String} {x : V} {v : Value} (I : Inv X pins σ H s) (r : RelV x v) (ty : tyV X.K T x H) :
  s.TypeIs v T /\ ∀ a, v = .ref a -> ∃ ob, s.heap.get? a = some ob /\ ob.dict = none := by
 cases x with
 | str z =>
  obtain ⟨t, rfl⟩ := r
  cases (show T = "str" from ty)
  exact ⟨typeIs_str s z t, fun _ e => nomatch e⟩
 | int i =>
  obtain ⟨t, rfl⟩ := r
  cases (show T = "int" from ty)
  exact ⟨typeIs_int s i t, fun _ e => nomatch e⟩
 | ref p =>
  cases r
  rcases ty with ⟨rfl, xs, hq⟩ | ⟨rfl, o, hk, hc, hd⟩ | ⟨rfl, hk⟩ | ⟨rfl, S, n, hk⟩
  ·obtain ⟨its, _, pl, _⟩ := I.list hq
   refine ⟨pl.isList.typeIs, fun a e => ?_⟩
   cases e
   obtain ⟨o, n, e, c, hd, _⟩ := pl
   exact ⟨o, e, hd⟩
  ·refine ⟨⟨o, I.kIn p o hk, hc⟩, fun a e => ?_⟩
   cases e
   exact ⟨o, I.kIn _ o hk, hd⟩
  ·have z : ∃ o, s.heap.get? p = some o /\ o.ExactDict := by
    rcases hk with ⟨kvs, hk⟩ | ⟨kvs, hk⟩
    ·obtain ⟨_, _, _, _, o, _, _, e, ex, _⟩ := I.hok p _ hk
     exact ⟨o, e, ex⟩
    ·obtain ⟨_, _, _, _, o, _, _, e, ex, _⟩ := I.hok p _ hk
     exact ⟨o, e, ex⟩
   obtain ⟨o, e, ex⟩ := z
   refine ⟨⟨o, e, ex.1⟩, fun a e2 => ?_⟩
   cases e2
   exact ⟨o, e, ex.2.1⟩
  ·obtain ⟨o, _, _, _, e, ex, _⟩ := I.hok p _ hk
   refine ⟨⟨o, e, ex.1⟩, fun a e2 => ?_⟩
   cases e2
   exact ⟨o, e, ex.2.1⟩
 | _ => exact False.elim ty
def tBM (K : PySem.W.Frag) (T : String) (r : V -> List V -> Hp -> VK -> Prop) (to : TE) (t : TA) : TE := fun σ H Q => to σ H fun x H1 => tyV K T x H1 /\ t σ H1 fun xs H2 => r x xs H2 Q
variable {o e : Expr} {es : List Expr} {to : TE} {t : TA} {name : Str} {apos cpos : Pos} {T id : String} {r : V -> List V -> Hp -> VK -> Prop}
theorem pe_bm (pa : PlainAttrs T) (slot : Slot T name id) (hty : typeOf (.builtin id) = pure (.type "method_descriptor")) (hm : MtR X id r) (ho : PE X o to) (ha : PA X (e :: es) t)
  (hbase : attributeBase o name X.env (eval o X.env) = eval o X.env := by rfl)
  (hfew : ((backTo cpos (starEach (e :: es) X.env)).all (fun x => !x.1) && (backToKw cpos (keywordEach [] X.env)).all (fun x => x.1.isSome)
   && decide ((e :: es).length + ([] : List Keyword).length + (if ([] : List Keyword).isEmpty then 0 else 1) < 30)) = true := by rfl)
  (hline : (apos.endLine == cpos.line) = true := by rfl) (hs : starEach (e :: es) X.env = (false, eval e X.env) :: starEach es X.env := by rfl) (hplain : (backTo cpos (starEach es X.env)).any (·.1) = false := by rfl) :
  PE X (.Call (.Attribute o name apos) (e :: es) [] cpos) (tBM X.K T r to t) := by
 intro pins s σ H Q I h
 refine wpAny_Call_method_late hbase hfew hline rfl (thn (ho pins s σ H _ I h) fun v s1 ⟨x, H1, I1, r1, ty, q1⟩ => ?_)
 obtain ⟨h1, h2⟩ := tyV_is I1 r1 ty
 refine ⟨T, id, pa, slot, hty, h1, h2, ?_⟩
 have hA := ha cpos pins s1 σ H1 _ I1 q1
 rw [hs] at hA ⊢
 refine Calls.callWith_builtin (by show (false || (backTo cpos (starEach es X.env)).any (·.1)) = false; rw [hplain] <;> rfl) (Calls.evalArgs_plain ?_)
 exact thn hA fun us s2 ⟨vs, H2, I2, r2, q2⟩ => hm pins s2 σ H2 x vs v us Q I2 r1 r2 q2
/- xs.append(e), list.index on a module's tuple .. are MtR facts of 06m -/
end
end L2
namespace L2
open PySem PySem.Spec PyProof.Rows
def MtM (X : Cx) (id : String) (r : V -> List V -> Hp -> VK -> Prop) : Prop :=
 ∀ (pins : List (Addr × Obj)) (s : Shared) (σ : St) (H : Hp) (x : V) (xs : List V) (v : Value) (us : List Value) (Q : VK), Inv X pins σ H s -> RelV x v -> Vals xs us -> r x xs H Q ->
  wpAny (model X.prog X.w) X.A (call (.builtin id) (v :: us)) (EP X pins σ Q) X.xe s
theorem Vals.one : ∀ {x : V} {us : List Value}, Vals [x] us -> ∃ u, us = [u] /\ RelV x u
 | _, _, .cons r .nil => ⟨_, rfl, r⟩
theorem Vals.eraseIdx : ∀ {xs : List V} {us : List Value} (i : Nat), Vals xs us -> Vals (xs.eraseIdx i) (us.eraseIdx i)
 | _, _, _, .nil => .nil
 | _, _, 0, .cons _ t => t
 | _, _, i + 1, .cons r t => .cons r (Vals.eraseIdx i t)
theorem Vals.rep {xs : List V} {us : List Value} (h : Vals xs us) : ∀ k : Nat, Vals (List.replicate k xs).flatten (List.replicate k us).flatten
 | 0 => .nil
 | k + 1 => by
  rw [List.replicate_succ, List.replicate_succ, List.flatten_cons, List.flatten_cons]
  exact Vals.append h (Vals.rep h k)
theorem len_erase {α : Type} : ∀ (l : List α) (i : Nat), (l.eraseIdx i).length <= l.length
 | [], _ => Nat.le_refl _
 | _ :: _, 0 => Nat.le_succ _
 | _ :: r, i + 1 => Nat.succ_le_succ (len_erase r i)
theorem foldl_rep (its : List Value) : ∀ (k : Nat) (acc : List Value),
  List.foldl (fun x1 x2 => x1 ++ x2) acc.toArray (List.replicate k its.toArray) = (acc ++ (List.replicate k its).flatten).toArray
 | 0, acc => by simp
 | k + 1, acc => by
  have e : acc.toArray ++ its.toArray = (acc ++ its).toArray := by simp
  have e2 : (acc ++ its) ++ (List.replicate k its).flatten = acc ++ (List.replicate (k + 1) its).flatten := by
   rw [List.replicate_succ, List.flatten_cons, List.append_assoc]
  rw [<- e2, <- foldl_rep its k (acc ++ its), <- e, List.replicate_succ, List.foldl_cons]
section
variable {X : Cx} {pins : List (Addr × Obj)} {σ : St} {H : Hp} {s : Shared} {l b : Addr} {xs ys zs : List V}
theorem Inv.lset {its its' : List Value} {n : Nat} {f : Array Value -> Array Value} {t' : Nat} (I : Inv X pins σ H s) (hH : H l = some (.lst xs))
  (e : s.heap.get? l = some { cls := .type "list", data := .seq its.toArray n }) (hf : f its.toArray = its'.toArray) (hv : Vals ys its') (hz : ys.length <= sizeLine) :
  Inv X pins σ (upd H l (.lst ys)) { s with heap := s.heap.update l (Obj.mapSeq f), toks := t' } := by
 have q := PySem.IsL.update e f
 rw [hf] at q
 refine I.write (x := l) (e := l) (by rw [hH]; exact trivial) (.inl rfl) (fun b' u hb hu => (Heap.get?_update_other s.heap (Obj.mapSeq f) (Ne.symm hb)).trans hu) ⟨_, q⟩ ?_
 exact ⟨hz, its', _, hv, q⟩
theorem Inv.lnew {its : List Value} {t' : Nat} (I : Inv X pins σ H s) (hv : Vals ys its) (hz : ys.length <= sizeLine) :
  Inv X pins σ (upd H s.heap.objs.size (.lst ys)) { s with heap := s.heap.push { cls := .type "list", data := .seq its.toArray }, toks := t' } :=
 I.laid (fun _ _ q => Heap.get?_push_of_some _ q) (Nat.le_refl _) ⟨hz, its, 0, hv, Heap.get?_push_size _ rfl⟩
theorem Inv.fresh (I : Inv X pins σ H s) : H s.heap.objs.size = none := I.hok.fresh (Nat.le_refl _)
theorem Inv.lstM (I : Inv X pins σ H s) (hH : H l = some (.lst xs)) : xs.length <= sizeLine /\ ∃ (its : List Value) (n : Nat), Vals xs its /\ xs.length = its.length /\ s.heap.get? l = some { cls := .type "list", data := .seq its.toArray n } := by
 obtain ⟨z, its, n, r, e⟩ := I.hok l _ hH
 exact ⟨z, its, n, r, r.length, e⟩
theorem notLongL {n : Nat} (h : n <= sizeLine) : Builtin.List.listTooLong n = false := by
 unfold Builtin.List.listTooLong
 exact decide_eq_false (by omega)
end
section
variable {X : Cx}
def rAppend : V -> List V -> Hp -> VK -> Prop := fun x vs H Q => ∃ l xs y, x = .ref l /\ vs = [y] /\ H l = some (.lst xs) /\ xs.length < sizeLine /\ Q .non (upd H l (.lst (xs ++ [y])))
theorem mt_append : MtM X "list.append" rAppend := by
 intro pins s σ H x vs v us Q I rx rv h
 obtain ⟨l, xs, y, rfl, rfl, hH, hz, q⟩ := h
 cases rx
 obtain ⟨u, rfl, ru⟩ := rv.one
 obtain ⟨z, its, n, r, hl, e⟩ := I.lstM hH
 refine call_meets F.slot_list_append ⟨_, e, rfl⟩ F.entry_list_append (F.args_list_append_2 _ _) (PySem.list_append l its.toArray n u (by rw [List.size_toArray]; omega)) ⟨e, ?_⟩
 refine ⟨.non, _, I.lset (its' := its ++ [u]) hH e (by simp) (r.append (.cons ru .nil)) ?_, rfl, q⟩
 rw [List.length_append, List.length_singleton]
 omega
def rPopAt : V -> List V -> Hp -> VK -> Prop := fun x vs H Q => ∃ l xs i k y, x = .ref l /\ vs = [.int i] /\ H l = some (.lst xs) /\ -(2 ^ 63) <= i /\ i < 2 ^ 63 /\ seqIndex? i xs.length = some k /\ xs[k]? = some y /\ Q y (upd H l (.lst (xs.eraseIdx k)))
theorem mt_popAt : MtM X "list.pop" rPopAt := by
 intro pins s σ H x vs v us Q I rx rv h
 obtain ⟨l, xs, i, k, y, rfl, rfl, hH, h1, h2, hk, hy, q⟩ := h
 cases rx
 obtain ⟨u, rfl, ru⟩ := rv.one
 obtain ⟨t, rfl⟩ := ru
 obtain ⟨z, its, n, r, hl, e⟩ := I.lstM hH
 obtain ⟨w, hw, rw'⟩ := r.get hy
 refine call_meets F.slot_list_pop ⟨_, e, rfl⟩ F.entry_list_pop (F.args_list_pop_2 _ _)
  (MeetsSeq.list_pop_at l its.toArray n i t k w (fitsIndex_both h1 h2) (by rw [List.size_toArray, <- hl]; exact hk) (by rw [<- Array.getElem?_toList]; exact hw) (by rw [List.size_toArray]; omega)) ⟨e, ?_⟩
 refine ⟨y, _, I.lset (its' := its.eraseIdx k) hH e ?_ (r.eraseIdx k) ?_, rw', q⟩
 ·show its.toArray.eraseIdxIfInBounds k = (its.eraseIdx k).toArray
  rw [List.eraseIdxIfInBounds_toArray]
 ·have := len_erase xs k
  omega
def rRep : R2 := fun x y H Q => ∃ l k xs, x = .ref l /\ y = .int k /\ H l = some (.lst xs) /\ -(2 ^ 63) <= k /\ k < 2 ^ 63 /\ xs.length * k.toNat <= sizeLine /\
 ∀ p, H p = none -> Q (.ref p) (upd H p (.lst (List.replicate k.toNat xs).flatten))
theorem len_rep {α : Type} (xs : List α) (k : Nat) : (List.replicate k xs).flatten.length = k * xs.length := by
 induction k with
 | zero => simp
 | succ k ih => rw [List.replicate_succ, List.flatten_cons, List.length_append, ih, Nat.succ_mul, Nat.add_comm]
theorem op_rep : OpR X (binaryOp .Mult) rRep := by
 intro pins s σ H x y v u Q I rx ry h
 obtain ⟨l, k, xs, rfl, rfl, hH, h1, h2, hz, q⟩ := h
 cases rx
 obtain ⟨t, rfl⟩ := ry
 obtain ⟨z, its, n, r, hl, e⟩ := I.lstM hH
 have hlen : its.toArray.size * k.toNat <= sizeLine := by rw [List.size_toArray, <- hl]; exact hz
 have hcap : ¬ its.toArray.size * k.toNat > (2 ^ 63 - 1) / 8 := by
  have : (sizeLine : Nat) <= (2 ^ 63 - 1) / 8 := by decide
  omega
 have hfit : ¬ (!Builtin.List.listFitsIndex k) = true := by
  rw [fitsIndex_both h1 h2]
  exact Bool.false_ne_true
 have hlong : ¬ Builtin.List.listTooLong (its.toArray.size * k.toNat) = true := by
  rw [notLongL hlen]
  exact Bool.false_ne_true
 have hnew : List.foldl (fun x1 x2 => x1 ++ x2) #[] (List.replicate (if its.toArray.isEmpty = true then 0 else k.toNat) its.toArray) = (List.replicate k.toNat its).flatten.toArray := by
  have f0 : ∀ m : Nat, List.foldl (fun x1 x2 => x1 ++ x2) #[] (List.replicate m its.toArray) = (List.replicate m its).flatten.toArray := fun m => by
   have := foldl_rep its m []
   rw [List.nil_append] at this
   exact this
  rw [f0]
  cases its with
  | nil => simp
  | cons a r' => rw [if_neg (by simp)]
 refine wpAny_binaryOp_repeat_ref (T := "list") (U := "int") (by decide) ⟨_, e, rfl⟩ (fun s' => typeIs_int s' k t) noFill_list_mul F.fills_int_mul F.slot_int_rmul repeat_list F.slot_int_index.lookup
  (call_meets F.slot_int_rmul (typeIs_int s k t) F.entry_int_rmul (F.args_int_rmul_2 _ _) (int___rmul___int_list k t l its.toArray n)
   ⟨e, rfl, ⟨_, e, rfl⟩, call_meets F.slot_list_mul ⟨_, e, rfl⟩ F.entry_list_mul (F.args_list_mul_2 _ _) (AutoListH.list___mul___list_int_3 l its.toArray n k t hfit hcap hlong) ⟨e, ?_⟩⟩)
 rw [hnew]
 exact ⟨.ref _, _, I.lnew (t' := s.toks) (r.rep k.toNat) (by rw [len_rep, Nat.mul_comm]; exact hz), rfl, q _ I.fresh⟩
end
section
variable {prog : Program} {w : World} {A : Around} {E : Value -> Shared -> Prop} {s : Shared}
set_option maxRecDepth 100000 in
end
section
variable {X : Cx}
end
end L2
namespace Att
open PySem PySem.W PySem.Calls PyProof.Rows
theorem ints_of_wellAll {P : Params} {h : Heap} : ∀ (ns : List Int) (vs : List Value), WellAll P h vs (ns.map WData.int) -> IntsAre vs ns := by
 intro ns
 induction ns with
 | nil =>
  intro vs w
  rw [List.map_nil] at w
  cases w
  exact .nil
 | cons n ns ih =>
  intro vs w
  rw [List.map_cons] at w
  cases w with
  | cons a b =>
   cases a
   exact .cons _ _ (ih _ b)
theorem script_of {l : OpenLaw} {n : Nat} (hn : l.most = some n) {P : Params} {h : Heap} {args : List WData} {vals : List Value}
  (hpre : l.row.toRowW.claim.pre args = true) (hwl : WellAll P h vals args) :
  ∃ a vs ns, vals = [Value.ref a] /\ args = [WData.list (ns.map WData.int)] /\ h.get? a = some { cls := .type "list", data := .seq vs.toArray } /\ IntsAre vs ns /\ ns.length <= n := by
 have hsh : WShape.hasAll [] args [.list .int] = true := (pre_splitW hpre).1
 have hc : l.pre.holds [] { args := args } = true := (pre_splitW hpre).2
 obtain ⟨d, r, rfl, h1, h2⟩ := hasAllW_cons hsh
 obtain rfl := hasAllW_nil h2
 obtain ⟨xs, rfl, h3⟩ := hasW_list h1
 obtain ⟨ns, rfl⟩ := items_int h3
 have hlen : ns.length <= n := by
  unfold OpenLaw.pre at hc
  have h4 : (WTm.not (.lt (.lit (.int (n : Int))) (.len (.arg 0)))).holds [] { args := [.list (ns.map .int)] } = true := by
   have h4 := (holds_andW hc).1
   rw [hn] at h4
   exact h4
  have h5 := condW_of h4 (w_not (w_lt w_lit (w_len_list (w_arg rfl))))
  rw [List.length_map] at h5
  refine Nat.le_of_not_lt fun q => ?_
  have q' : (n : Int) < ((ns.length : Nat) : Int) := by omega
  first
   | (rw [decide_eq_true q'] at h5; exact absurd h5 (by decide))
   | (simp at h5; omega)
 cases hwl with
 | cons w1 w2 =>
  cases w2
  cases w1 with
  | list ho hall => exact ⟨_, _, ns, rfl, rfl, ho, ints_of_wellAll ns _ hall, hlen⟩
theorem post_true (l : OpenLaw) (args : List WData) : l.row.toRowW.claim.post args (.bool true) args = true :=
 postW_of (r := l.row.toRowW) (X := (true == true))
  (show WShape.has [] (.bool true) .bool = true by first | rfl | decide | simp [WShape.has, WShape.arms, WShape.armsAll])
  (show (WTm.eq .res (.lit (.bool true))).value [] { args := args, res := some (.bool true), after := args } = some (.bool (true == true)) from w_eq_bool (w_res rfl) w_lit) rfl
theorem attach_call {l : OpenLaw} {n : Nat} {q : Program} {loose : List Str} {XP : (Str -> Option Value) -> Heap -> Prop} {YP : World -> Heap -> Prop} {d : DefRec}
  (hn : l.most = some n) (hdf : d.params.defaults = [])
  (call : ∀ (w : World) (s₀ s₁ : Shared) (mg mb : Str -> Option Value) (fa : Addr) (o : Obj) (pm cd doc : Value) (a : Addr) (vs : List Value) (ns : List Int),
   Ground q loose [] XP w s₀ mg mb s₁.heap -> YP w s₁.heap ->
   s₁.heap.get? fa = some o -> o.data = .func (docDef d.name d.params d.body d.scope pm cd doc) -> s₁.heap.CodeRec cd d.name -> mg d.name = some (.ref fa) ->
   s₁.heap.get? a = some { cls := .type "list", data := .seq vs.toArray } -> IntsAre vs ns -> ns.length <= n -> s₁.gens = #[] ->
   codeAny (model l.prog w) callerA (.call (.ref fa) ⟨[.ref a], []⟩) (fun r s' => r = .ok (.ret (.bool true)) /\ OldK s₁.heap s'.heap /\ s'.os = s₁.os /\ AllBare s'.gens) s₁) :
  WalkO q loose XP YP l.row.toRowW d [] (fun f vs => PySem.call f vs) := by
 intro w s₀ s₁ mg mb G Y fa o pm cd doc dV kV ho hd hcd hD hmg hg args vals as hpre hlay hrd hwl hlo
 obtain rfl : dV = .none := Dflts.none hD hdf
 obtain rfl : kV = .none := Dflts.noKw hD
 obtain ⟨a, vs, ns, rfl, rfl, hobj, hints, hlen⟩ := script_of hn hpre hwl
 refine enter_call (codeAny_mono (call w s₀ s₁ mg mb fa o pm cd doc a vs ns G Y ho (fd_plain hd) hcd hmg hobj hints hlen hg) fun r s' hq => ?_)
 obtain ⟨rfl, h2, h3, h4⟩ := hq
 exact ⟨.inl ⟨.bool true, .bool true, [], rfl, fun _ => rfl, .bool true, post_true l _, fun _ => ⟨List.Pairwise.nil, fun _ hm => (nomatch hm)⟩⟩, h2, h3, h4⟩
section
variable {prog : Program} {w : World} {A : Around} {E : Value -> Shared -> Prop} {s : Shared} {K : Frag}
end
end Att
namespace L2
open PySem PySem.Spec PyProof.Rows
theorem vals_ints : ∀ {vs : List Value} {ns : List Int}, IntsAre vs ns -> Vals (ns.map V.int) vs
 | _, _, .nil => .nil
 | _, _, .cons n t h => .cons ⟨t, rfl⟩ (vals_ints h)
end L2
namespace L2
open PySem PySem.Spec PyProof.Rows
end L2
/- THE LAST THEOREM (shape; LID, My.* are yours):
  My.Adr: a structure of the addresses that your layer names (classes, functions); My.Txt K t: a structure (Prop) of the equations over K;
  My.txt_mk : {K} {implicit addresses ..} (e1 : nsIn K mainGlobals "law" = some (some (.ref f))) (e2 : K.lookup f = some ⟨oc, od, .func (fnOf "law" "law" params body scope dV kV doc pm an cdv ct), sl⟩) (e3 : codeIn K cdv "law" = true) .. : ∃ t, My.Txt K t
set_option maxRecDepth 100000 in
set_option maxHeartbeats 0 in
theorem PySem.Challenge.cw_LID_holds : PySem.Challenge.rw_LID.Holds := by
 w_on; o_law; k_head; (case hw => w_witness2)
 k_fill
 refine L2.walk_of (l := PySem.Challenge.rw_LID) (n := 63) (k := 40) (x := "script") (CX := fun w => ..) (sp := fun _ => My.sp_law) rfl (by decide) rfl ⟨rfl, by decide, by decide⟩ (fun w h Y => PySem.W.kIn_of Y) ?F ?S ?C
 case F =>
  intro w mg fa h KX G hmg
  have T : ∃ t, My.Txt (L2.KOf KX) t := by
   dsimp only [L2.KOf]                          -- K must stand as «<heap const> w.params» for k_is
   refine' My.txt_mk ?e1 ?e2 ?e3 ..
   (case e1 => PySem.W.k_is)                    -- in the order: a name -> its address -> its object -> its parts
   (case e2 => PySem.W.k_is)
   ..
  obtain ⟨t, T⟩ := T
  have e0 := hmg.symm.trans (PySem.W.mg_of KX G T.law)
  cases e0                                       -- fa is the law's own address
  exact ⟨_, fun s u => .of_eq rfl, fun base kb nb => My.law_fn T kb nb⟩     -- if «.of_eq rfl» comes too early: refine' ⟨_, ?b, fun base kb nb => My.law_fn T kb nb⟩; exact fun s u => .of_eq rfl
 case S => exact fun w H a ns hl hO hS => ..
 case C => exact ..
(the tactic k_is has no namespace: write k_is) -/
namespace L2
open PySem PySem.Spec PyProof.Rows
def defArgs (s : Stmt) : Arguments := match s with
 | .FunctionDef _ a _ _ _ _ _ _ _ _ => a
 | _ => { posonlyargs := [], args := [], vararg := none, kwonlyargs := [], kw_defaults := [], kwarg := none, defaults := [] }
def defBody (s : Stmt) : List Stmt := match s with
 | .FunctionDef _ _ b _ _ _ _ _ _ _ => b
 | _ => []
def defScope (s : Stmt) : Scope := match s with
 | .FunctionDef _ _ _ _ _ _ sc _ _ _ => sc
 | _ => { kind := .function, names := [], isGenerator := false, isCoroutine := false }
abbrev CX0 : CXT := fun _ _ _ _ _ _ => False
abbrev E0 : XK := fun _ _ _ => False
theorem pass0 {X : Cx} : Passes CX0 X E0 := fun _ _ _ _ _ _ _ h => h.elim
structure Fun (K : PySem.W.Frag) (x qual : Str) (st : Stmt) (f : Addr) (fd : FuncData) : Prop where
 ex : ∃ (oc : Value) (od : Option Addr) (kV doc pm : Value) (an : Option Addr) (cdv ct : Value) (osl : Array (Option Value)),
  fd = PySem.W.fnOf x qual (defArgs st) (defBody st) (defScope st) .none kV doc pm an cdv ct /\ K.lookup f = some ⟨oc, od, .func fd, osl⟩ /\ PySem.W.codeIn K cdv qual = true
 kp : PySem.W.keepIn K (.ref f) = true
section
variable {P : Program} {w : World} {K : PySem.W.Frag} {mg : Str -> Option Value} {base : Heap}
theorem Fun.ok {x qual : Str} {st : Stmt} {f : Addr} {fd : FuncData} {N ps : List Str} {k : Nat} {sp : Sp} (F : Fun K x qual st f fd) (S : FnScope N ps (defScope st)) (len : ∀ vs H Q E, sp vs H Q E -> vs.length = ps.length)
  (hbody : ∀ (cdv : Value) (A : Around) (outer : List Env) (s : Shared) (H : Hp) (vs : List V) (Q : VK) (E : XK), Room k (A.deeper (envOfC qual (defScope st) s.heap.objs.size f cdv)) -> sp vs H Q E ->
   ∃ t, PSs (cxOf CX0 P w K mg base N qual (defScope st) f cdv A outer s H E).nox (defBody st) t /\ t { nx := fun _ H' => Q .non H', rt := Q } (start N vs) H) : FnOk P w K mg base CX0 (k + 1) f fd ps sp := by
 obtain ⟨oc, od, kV, doc, pm, an, cdv, ct, osl, rfl, lk, hcd⟩ := F.ex
 refine fn_of lk hcd S len fun A outer s H vs Q E hr hsp => ?_
 obtain ⟨t, h, q⟩ := hbody cdv A outer s H vs Q E hr hsp
 exact ⟨t, h.nox, q⟩
theorem Fun.binds {x qual : Str} {st : Stmt} {f : Addr} {fd : FuncData} {ps : List Str} (F : Fun K x qual st f fd)
  (h : ∀ (kV doc pm : Value) (an : Option Addr) (cdv ct : Value) (us : List Value), us.length = ps.length -> bindArgs (PySem.W.fnOf x qual (defArgs st) (defBody st) (defScope st) .none kV doc pm an cdv ct) ⟨us, []⟩ = pure (ps.zip us)) : Binds K fd ps [] := by
 obtain ⟨oc, od, kV, doc, pm, an, cdv, ct, osl, rfl, lk, hcd⟩ := F.ex
 exact .all (h kV doc pm an cdv ct)
theorem fun_mk {x qual : Str} {st : Stmt} {f : Addr} {oc : Value} {od an : Option Addr} {osl : Array (Option Value)} {kV doc pm cdv ct : Value} (l : K.lookup f = some ⟨oc, od, .func (PySem.W.fnOf x qual (defArgs st) (defBody st) (defScope st) .none kV doc pm an cdv ct), osl⟩)
  (c : PySem.W.codeIn K cdv qual = true) (k : PySem.W.keepIn K (.ref f) = true) : Fun K x qual st f (PySem.W.fnOf x qual (defArgs st) (defBody st) (defScope st) .none kV doc pm an cdv ct) := ⟨⟨oc, od, kV, doc, pm, an, cdv, ct, osl, rfl, l, c⟩, k⟩
end
section
variable {X : Cx}
end
def Same (H H' : Hp) : Prop := ∀ b o, H b = some o -> H' b = some o
theorem Same.refl (H : Hp) : Same H H := fun _ _ h => h
theorem Same.trans {H H1 H2 : Hp} (a : Same H H1) (b : Same H1 H2) : Same H H2 := fun c o h => b c o (a c o h)
theorem Same.free {H H' : Hp} (e : Same H H') {l : Addr} (h : H' l = Option.none) : H l = Option.none := by
 cases q : H l with
 | none => rfl
 | some o =>
  rw [e l o q] at h
  cases h
end L2
set_option maxHeartbeats 4000000
namespace L2
open PySem PySem.Spec PyProof.Rows
section
variable {κ : Type} [DecidableEq κ]
def valV (kvs : List (κ × V)) (k : κ) : Option V := (kvs.find? fun kv => decide (kv.1 = k)).map (·.2)
def putK (kvs : List (κ × V)) (k : κ) (v : V) : List (κ × V) :=
 if (kvs.any fun kv => decide (kv.1 = k)) = true then kvs.map (fun kv => if kv.1 = k then (kv.1, v) else kv) else kvs ++ [(k, v)]
def dropK (kvs : List (κ × V)) (k : κ) : List (κ × V) := kvs.filter fun kv => decide (kv.1 ≠ k)
theorem valV_pos {p : κ × V} {r : List (κ × V)} {k : κ} (e : p.1 = k) : valV (p :: r) k = some p.2 := by simp [valV, List.find?_cons, e]
theorem valV_neg {p : κ × V} {r : List (κ × V)} {k : κ} (e : ¬ p.1 = k) : valV (p :: r) k = valV r k := by simp [valV, List.find?_cons, e]
theorem length_putK (kvs : List (κ × V)) (k : κ) (v : V) : (putK kvs k v).length <= kvs.length + 1 := by
 unfold putK
 split
 ·rw [List.length_map]; omega
 ·rw [List.length_append, List.length_cons, List.length_nil]; omega
theorem RelO.isSome_eq {o : Option V} {u : Option Value} (r : RelO o u) : o.isSome = u.isSome := by
 cases o with
 | none => cases u with
  | none => rfl
  | some _ => exact (show False from r).elim
 | some _ => cases u with
  | none => exact (show False from r).elim
  | some _ => rfl
theorem RelO.getD {o : Option V} {u : Option Value} {d : V} {d' : Value} (r : RelO o u) (rd : RelV d d') : RelV (o.getD d) (u.getD d') := by
 cases o with
 | none => cases u with
  | none => exact rd
  | some _ => exact (show False from r).elim
 | some _ => cases u with
  | none => exact (show False from r).elim
  | some _ => exact r
theorem KV.val {kvs : List (κ × V)} {vs : List (κ × Value)} (r : KV kvs vs) (k : κ) : RelO (valV kvs k) (valueAt vs k) := by
 unfold KV at r
 induction r with
 | nil => exact True.intro
 | @cons p q ps qs h t ih =>
  obtain ⟨h1, h2⟩ := h
  by_cases e : p.1 = k
  ·have e' : q.1 = k := h1.symm.trans e
   have b : valueAt (q :: qs) k = some q.2 := by simp [valueAt, List.find?_cons, e']
   rw [valV_pos e, b]; exact h2
  ·have e' : ¬ q.1 = k := fun z => e (h1.trans z)
   have b : valueAt (q :: qs) k = valueAt qs k := by simp [valueAt, List.find?_cons, e']
   rw [valV_neg e, b]; exact ih
theorem KV.any {kvs : List (κ × V)} {vs : List (κ × Value)} (r : KV kvs vs) (k : κ) : (kvs.any fun kv => decide (kv.1 = k)) = vs.any fun kv => decide (kv.1 = k) := by
 unfold KV at r
 induction r with
 | nil => rfl
 | cons h t ih => rw [List.any_cons, List.any_cons, ih, h.1]
theorem KV.repl {kvs : List (κ × V)} {vs : List (κ × Value)} (r : KV kvs vs) (k : κ) {y : V} {u : Value} (ry : RelV y u) :
  KV (kvs.map fun kv => if kv.1 = k then (kv.1, y) else kv) (vs.map fun kv => if kv.1 = k then (kv.1, u) else kv) := by
 unfold KV at r ⊢
 induction r with
 | nil => exact .nil
 | @cons p q ps qs h t ih =>
  rw [List.map_cons, List.map_cons]
  refine .cons ?_ ih
  obtain ⟨h1, h2⟩ := h
  by_cases e : p.1 = k
  ·rw [if_pos e, if_pos (h1.symm.trans e)]; exact ⟨h1, ry⟩
  ·rw [if_neg e, if_neg (fun z => e (h1.trans z))]; exact ⟨h1, h2⟩
theorem KV.put {kvs : List (κ × V)} {vs : List (κ × Value)} (r : KV kvs vs) (k : κ) {y : V} {u : Value} (ry : RelV y u) : KV (putK kvs k y) (stored vs k u) := by
 unfold putK stored
 rw [r.any k]
 by_cases e : (vs.any fun kv => decide (kv.1 = k)) = true
 ·rw [if_pos e, if_pos e]; exact r.repl k ry
 ·rw [if_neg e, if_neg e]; exact Paired.snoc r ⟨rfl, ry⟩
theorem KV.drop {kvs : List (κ × V)} {vs : List (κ × Value)} (r : KV kvs vs) (k : κ) : KV (dropK kvs k) (without vs k) := by
 unfold KV at r ⊢
 unfold dropK without
 induction r with
 | nil => exact .nil
 | @cons p q ps qs h t ih =>
  obtain ⟨h1, h2⟩ := h
  rw [List.filter_cons, List.filter_cons]
  by_cases e : p.1 = k
  ·have a : ¬ decide (p.1 ≠ k) = true := by simp [e]
   have b : ¬ decide (q.1 ≠ k) = true := by simp [h1.symm.trans e]
   rw [if_neg a, if_neg b]; exact ih
  ·have e' : ¬ q.1 = k := fun z => e (h1.trans z)
   have a : decide (p.1 ≠ k) = true := by simp [e]
   have b : decide (q.1 ≠ k) = true := by simp [e']
   rw [if_pos a, if_pos b]; exact .cons ⟨h1, h2⟩ ih
theorem KV.length {kvs : List (κ × V)} {vs : List (κ × Value)} (r : KV kvs vs) : kvs.length = vs.length := Paired.length r
theorem dropK_le (kvs : List (κ × V)) (k : κ) : (dropK kvs k).length <= kvs.length := List.length_filter_le _ _
end
theorem kV_is {P : Program} {w : World} {k : Key} {u : Value} (r : RelV (kV k) u) : (mixKind P w).is k u = true := by
 cases k with
 | inl i => obtain ⟨t, e⟩ := (show ∃ t, u = Value.int i t from r); subst e; exact mixKind_int P w i t
 | inr x => obtain ⟨t, e⟩ := (show ∃ t, u = Value.str x t from r); subst e; exact mixKind_str P w x t
theorem items_are {P : Program} {w : World} : ∀ {ks : List Key} {us : List Value}, Vals (ks.map kV) us -> ItemsAre (mixKind P w) ks us
 | [], _, r => by rw [List.map_nil] at r; cases r; exact .nil
 | k :: ks, _, r => by
  rw [List.map_cons] at r
  cases r with
  | cons h t => exact .cons (kV_is h) (items_are t)
abbrev KT (H : Hp) : List (List Key × V) -> List (List Key × Addr × Value) -> Prop := Paired fun p q => p.1 = q.1 /\ H q.2.1 = some (.tup (p.1.map kV)) /\ RelV p.2 q.2.2
theorem KT.val {H : Hp} {kvs : List (List Key × V)} {xs : List (List Key × Addr × Value)} (r : KT H kvs xs) (k : List Key) : RelO (valV kvs k) ((atKey xs k).map (·.2)) := by
 induction r with
 | nil => exact True.intro
 | @cons p q ps qs h t ih =>
  obtain ⟨h1, _, h2⟩ := h
  by_cases e : p.1 = k
  ·have e' : q.1 = k := h1.symm.trans e
   have b : atKey (q :: qs) k = some q.2 := by simp [atKey, List.find?_cons, e']
   rw [valV_pos e, b]; exact h2
  ·have e' : ¬ q.1 = k := fun z => e (h1.trans z)
   have b : atKey (q :: qs) k = atKey qs k := by simp [atKey, List.find?_cons, e']
   rw [valV_neg e, b]; exact ih
theorem KT.keeps {H H' : Hp} {kvs : List (List Key × V)} {xs : List (List Key × Addr × Value)} (r : KT H kvs xs) (ht : ∀ b ys, H b = some (.tup ys) -> H' b = some (.tup ys)) : KT H' kvs xs :=
 Paired.mapP r fun _ _ z => ⟨z.1, ht _ _ z.2.1, z.2.2⟩
section
variable {P : Program} {w : World} {H : Hp} {h : Heap} {a : Addr}
theorem rd_of {u : HO} (ok : HOk P w H h) (e : Rd H a u) : ObjOk P w H h a u := e.ok ok
theorem dk_rd {kvs : List (Key × V)} (ok : HOk P w H h) (e : Rd H a (.dK kvs)) : kvs.length <= sizeLine /\ (a == sysModules) = false /\ ∃ vs, KV kvs vs /\ h.DictOf (mixKind P w) a vs :=
 show ObjOk P w H h a (.dK kvs) from rd_of ok e
theorem dk_of {kvs : List (Key × V)} (ok : HOk P w H h) (e : H a = some (.dK kvs)) : kvs.length <= sizeLine /\ (a == sysModules) = false /\ ∃ vs, KV kvs vs /\ h.DictOf (mixKind P w) a vs := dk_rd ok (.inl e)
theorem key_of {ks : List Key} (ok : HOk P w H h) (e : H a = some (.tup (ks.map kV))) : (tupleKind (mixKind P w)).is h ks a := by
 obtain ⟨_, its, r, o, h1, h2, ⟨n, h3⟩, _⟩ := (show ObjOk P w H h a (.tup (ks.map kV)) from ok a _ e)
 exact ⟨o, its.toArray, n, h1, h2, h3, by simpa using items_are r⟩
theorem dt_rd {kvs : List (List Key × V)} (ok : HOk P w H h) (e : Rd H a (.dT kvs)) : kvs.length <= sizeLine /\ (a == sysModules) = false /\
  ∃ xs, KT H kvs xs /\ h.DictOfH (tupleKind (mixKind P w)) a xs := by
 obtain ⟨z, y, xs, r, o, es, ep, h1, h2, h3, h4, h5⟩ := (show ObjOk P w H h a (.dT kvs) from rd_of ok e)
 refine ⟨z, y, xs, r, o, es, ep, h1, h2, h3, h4, fun x hx => ?_, h5⟩
 have all : ∀ {l : List (List Key × V)} {m : List (List Key × Addr × Value)}, KT H l m -> ∀ x ∈ m, (tupleKind (mixKind P w)).is h x.1 x.2.1 := by
  intro l m q
  induction q with
  | nil => intro x hx; exact nomatch hx
  | @cons p q ps qs hq t ih =>
   intro x hx
   rcases List.mem_cons.mp hx with e | hx
   ·subst e
    exact key_of ok (by rw [<- hq.1]; exact hq.2.1)
   ·exact ih x hx
 exact all r x hx
end
def DGet (H : Hp) (a : Addr) (y : V) (r : Option V) : Prop :=
 (∃ kvs k, Rd H a (.dK kvs) /\ y = kV k /\ r = valV kvs k) \/ ∃ kvs k b, Rd H a (.dT kvs) /\ y = .ref b /\ H b = some (.tup (k.map kV)) /\ r = valV kvs k
def DPut (H : Hp) (a : Addr) (y v : V) (H' : Hp) : Prop :=
 (∃ kvs k, H a = some (.dK kvs) /\ y = kV k /\ kvs.length < sizeLine /\ H' = upd H a (.dK (putK kvs k v))) \/
 ∃ kvs k b, H a = some (.dT kvs) /\ y = .ref b /\ H b = some (.tup (k.map kV)) /\ kvs.length < sizeLine /\ H' = upd H a (.dT (putK kvs k v))
theorem DGet.k {H : Hp} {a : Addr} {kvs : List (Key × V)} {k : Key} (e : H a = some (.dK kvs)) : DGet H a (kV k) (valV kvs k) := .inl ⟨kvs, k, .inl e, rfl, rfl⟩
theorem DGet.t {H : Hp} {a b : Addr} {kvs : List (List Key × V)} {k : List Key} (e : H a = some (.dT kvs)) (eb : H b = some (.tup (k.map kV))) : DGet H a (.ref b) (valV kvs k) := .inr ⟨kvs, k, b, .inl e, rfl, eb, rfl⟩
theorem DPut.k {H : Hp} {a : Addr} {kvs : List (Key × V)} {k : Key} {v : V} (e : H a = some (.dK kvs)) (hl : kvs.length < sizeLine) : DPut H a (kV k) v (upd H a (.dK (putK kvs k v))) := .inl ⟨kvs, k, e, rfl, hl, rfl⟩
theorem DPut.t {H : Hp} {a b : Addr} {kvs : List (List Key × V)} {k : List Key} {v : V} (e : H a = some (.dT kvs)) (eb : H b = some (.tup (k.map kV))) (hl : kvs.length < sizeLine) :
  DPut H a (.ref b) v (upd H a (.dT (putK kvs k v))) := .inr ⟨kvs, k, b, e, rfl, eb, hl, rfl⟩
section
variable {X : Cx} {pins : List (Addr × Obj)} {σ : St} {H : Hp} {s : Shared} {a : Addr} {y v : V} {u r : Value} {o : Option V} {A : Around} {E : Value -> Shared -> Prop}
theorem d_getItem {Q : Value -> Shared -> Prop} (hu : A.units + 1 < cLine) (I : Inv X pins σ H s) (g : DGet H a y (some v)) (ry : RelV y u) (h : ∀ w' s', Inv X pins σ H s' -> RelV v w' -> Q w' s') :
  wpAny (model X.prog X.w) A (getItem (.ref a) u) Q E s := by
 rcases g with ⟨kvs, k, e, ey, l⟩ | ⟨kvs, k, b, e, ey, eb, l⟩
 ·subst ey
  obtain ⟨z, hd, vs, rel, dd⟩ := dk_rd I.hok e
  obtain ⟨w', hw, rw'⟩ := RelO.some_of (v := v) (o := valueAt vs k) (by rw [l]; exact rel.val k)
  exact wpAny_getItem_of (kV_is ry) dd.mapOf hw (h w' _ (I.tok _) rw')
 ·subst ey
  cases (show u = Value.ref b from ry)
  obtain ⟨z, hd, xs, rel, dd⟩ := dt_rd I.hok e
  obtain ⟨w', hw, rw'⟩ := RelO.some_of (v := v) (o := (atKey xs k).map (·.2)) (by rw [l]; exact rel.val k)
  obtain ⟨p, hp, hp2⟩ := Option.map_eq_some_iff.mp hw
  refine wpAny_getItem_heap (tupleKind_room_in1 hu) (key_of I.hok eb) dd hp ?_
  rw [hp2]
  exact h w' _ (I.tok _) rw'
theorem d_in {Q : Value -> Shared -> Prop} (hu : A.units + 1 < cLine) (I : Inv X pins σ H s) (g : DGet H a y o) (ry : RelV y u) (h : ∀ s', Inv X pins σ H s' -> Q (.bool o.isSome) s') :
  wpAny (model X.prog X.w) A (compareOp .In u (.ref a)) Q E s := by
 rcases g with ⟨kvs, k, e, ey, l⟩ | ⟨kvs, k, b, e, ey, eb, l⟩
 ·subst ey
  obtain ⟨z, hd, vs, rel, dd⟩ := dk_rd I.hok e
  refine wpAny_in_of (kV_is ry) hd dd.mapOf ?_
  rw [<- (rel.val k).isSome_eq, <- l]
  exact h _ (I.tok _)
 ·subst ey
  cases (show u = Value.ref b from ry)
  obtain ⟨z, hd, xs, rel, dd⟩ := dt_rd I.hok e
  refine wpAny_in_heap (tupleKind_room_in1 hu) (key_of I.hok eb) hd dd ?_
  have q := (rel.val k).isSome_eq
  rw [Option.isSome_map] at q
  rw [<- q, <- l]
  exact h _ (I.tok _)
theorem d_notIn {Q : Value -> Shared -> Prop} (hu : A.units + 1 < cLine) (I : Inv X pins σ H s) (g : DGet H a y o) (ry : RelV y u) (h : ∀ s', Inv X pins σ H s' -> Q (.bool (!o.isSome)) s') :
  wpAny (model X.prog X.w) A (compareOp .NotIn u (.ref a)) Q E s := by
 rcases g with ⟨kvs, k, e, ey, l⟩ | ⟨kvs, k, b, e, ey, eb, l⟩
 ·subst ey
  obtain ⟨z, hd, vs, rel, dd⟩ := dk_rd I.hok e
  refine wpAny_notIn_of (kV_is ry) hd dd.mapOf ?_
  rw [<- (rel.val k).isSome_eq, <- l]
  exact h _ (I.tok _)
 ·subst ey
  cases (show u = Value.ref b from ry)
  obtain ⟨z, hd, xs, rel, dd⟩ := dt_rd I.hok e
  refine wpAny_notIn_heap (tupleKind_room_in1 hu) (key_of I.hok eb) hd dd ?_
  have q := (rel.val k).isSome_eq
  rw [Option.isSome_map] at q
  rw [<- q, <- l]
  exact h _ (I.tok _)
theorem d_write {h' : Heap} {t' : Nat} {ob : HO} (I : Inv X pins σ H s) (mu : Mut (H a)) (hs : Heap.SameBut a s.heap h') (he : ∃ q, h'.get? a = some q) (new : ObjOk X.prog X.w (upd H a ob) h' a ob) :
  Inv X pins σ (upd H a ob) { s with heap := h', toks := t' } :=
 I.write (x := a) (e := a) mu (.inl rfl) (fun b q hb z => (hs.2 b hb).trans z) he new
theorem dk_new {P : Program} {w : World} {H' : Hp} {h' : Heap} {kvs : List (Key × V)} {vs : List (Key × Value)} (z : kvs.length <= sizeLine) (hd : (a == sysModules) = false) (rel : KV kvs vs) (dd : h'.DictOf (mixKind P w) a vs) :
  ObjOk P w H' h' a (.dK kvs) := ⟨z, hd, vs, rel, dd⟩
end
section
variable {X : Cx} {pins : List (Addr × Obj)} {σ : St} {H : Hp} {s : Shared} {a : Addr} {kvs : List (Key × V)} {k : Key} {u : Value} {A : Around} {E : Value -> Shared -> Prop}
theorem d_pop {v : V} {more : List Value} {Q : Value -> Shared -> Prop} (I : Inv X pins σ H s) (e : H a = some (.dK kvs)) (ry : RelV (kV k) u) (l : valV kvs k = some v) (hm : more = [] \/ ∃ x, more = [x])
  (h : ∀ w' s', Inv X pins σ (upd H a (.dK (dropK kvs k))) s' -> RelV v w' -> Q w' s') : wpAny (model X.prog X.w) A (call (.builtin "dict.pop") (.ref a :: u :: more)) Q E s := by
 obtain ⟨z, hd, vs, rel, dd⟩ := dk_of I.hok e
 obtain ⟨w', hw, rw'⟩ := RelO.some_of (v := v) (o := valueAt vs k) (by rw [<- l]; exact rel.val k)
 have hp : (keyPart u).isSome = true := by
  cases k with
  | inl i => obtain ⟨t, q⟩ := (show ∃ t, u = Value.int i t from ry); subst q; rfl
  | inr x => obtain ⟨t, q⟩ := (show ∃ t, u = Value.str x t from ry); subst q; rfl
 have ha : argsOk "dict.pop" ⟨.ref a :: u :: more, []⟩ := by
  rcases hm with q | ⟨x, q⟩
  ·subst q; exact PySem.F.args_dict_pop_2 _ _
  ·subst q; exact PySem.F.args_dict_pop_3 _ _ _
 refine call_meetsIn PySem.F.slot_dict_pop dd.typeIs PySem.F.entry_dict_pop ha (meets_dict_pop_there (mixKind X.prog X.w) a (kV_is ry) more hm hp)
  ⟨vs, w', dd, by rw [<- rel.length]; exact z, hw, fun h' dd' hs => h w' _ ?_ rw'⟩
 have he : ∃ q, h'.get? a = some q := let ⟨q, _, _, hq, _⟩ := dd'; ⟨q, hq⟩
 exact d_write I (by rw [e]; exact True.intro) hs he (dk_new (Nat.le_trans (dropK_le kvs k) z) hd (rel.drop k) dd')
end
theorem dict_typeIs {X : Cx} {pins : List (Addr × Obj)} {σ : St} {H : Hp} {s : Shared} {a : Addr} {y : V} {o : Option V} (I : Inv X pins σ H s) (g : DGet H a y o) : s.TypeIs (.ref a) "dict" := by
 rcases g with ⟨kvs, k, e, _, _⟩ | ⟨kvs, k, b, e, _, _, _⟩
 ·obtain ⟨_, _, vs, _, dd⟩ := dk_rd I.hok e
  exact dd.typeIs
 ·obtain ⟨_, _, xs, _, dd⟩ := dt_rd I.hok e
  exact dd.typeIs
section
variable {X : Cx} {o i e value : Expr} {pos pos' tpos : Pos} {td ty tv : TE}
end
section
variable {X : Cx} {pos : Pos}
end
structure M1 (X : Cx) (o : Expr) (m : Str) (apos : Pos) (e : Expr) (cpos : Pos) : Prop where
 base : attributeBase o m X.env (eval o X.env) = eval o X.env
 few : ((backTo cpos (starEach [e] X.env)).all (fun x => !x.1) && (backToKw cpos (keywordEach [] X.env)).all (fun x => x.1.isSome)
  && decide (([e] : List Expr).length + ([] : List Keyword).length + (if ([] : List Keyword).isEmpty then 0 else 1) < 30)) = true
 line : (apos.endLine == cpos.line) = true
 trees : backTo cpos (starEach [e] X.env) = [(false, eval e X.env)]
def IsD (H : Hp) (a : Addr) : Prop := (∃ kvs, Rd H a (.dK kvs)) \/ ∃ kvs, Rd H a (.dT kvs)
theorem isD_at {X : Cx} {pins : List (Addr × Obj)} {σ : St} {H : Hp} {s : Shared} {a : Addr} (I : Inv X pins σ H s) (d : IsD H a) :
  s.TypeIs (.ref a) "dict" /\ (∀ b, Value.ref a = .ref b -> ∃ ob, s.heap.get? b = some ob /\ ob.dict = none) /\ (a == sysModules) = false := by
 rcases d with ⟨kvs, e⟩ | ⟨kvs, e⟩
 ·obtain ⟨_, hd, vs, _, dd⟩ := dk_rd I.hok e
  refine ⟨dd.typeIs, fun b q => ?_, hd⟩
  cases q
  obtain ⟨ob, _, _, h1, h2, _⟩ := dd
  exact ⟨ob, h1, h2.2.1⟩
 ·obtain ⟨_, hd, xs, _, dd⟩ := dt_rd I.hok e
  refine ⟨dd.typeIs, fun b q => ?_, hd⟩
  cases q
  obtain ⟨ob, _, _, h1, h2, _⟩ := dd
  exact ⟨ob, h1, h2.2.1⟩
section
variable {X : Cx} {pins : List (Addr × Obj)} {σ : St} {H : Hp} {s : Shared} {a : Addr} {y d : V} {u r : Value} {o : Option V} {A : Around} {E : Value -> Shared -> Prop}
end
def tDPop1 (td ty : TE) : TE := fun σ H Q => td σ H fun x H1 => ∃ a, x = .ref a /\ IsD H1 a /\ ty σ H1 fun y H2 => ∃ kvs k v, H2 a = some (.dK kvs) /\ y = kV k /\ valV kvs k = some v /\ Q v (upd H2 a (.dK (dropK kvs k)))
section
variable {X : Cx} {o e f : Expr} {apos cpos : Pos} {td ty tx : TE}
theorem pe_dpop1 (ho : PE X o td) (he : PE X e ty) (m : M1 X o "pop" apos e cpos) : PE X (.Call (.Attribute o "pop" apos) [e] [] cpos) (tDPop1 td ty) := by
 intro pins s σ H Q I h
 refine wpAny_Call_method m.base m.few m.line PySem.F.plainAttrs_dict PySem.F.slot_dict_pop PySem.F.type_dict_pop (thn (ho pins s σ H _ I h) fun u s1 ⟨x, H1, I1, rx, a, ex, d, q1⟩ => ?_)
 subst ex
 obtain rfl : u = Value.ref a := rx
 obtain ⟨t1, t2, _⟩ := isD_at I1 d
 refine ⟨t1, t2, ?_⟩
 rw [m.trees]
 refine Calls.callWith_builtin rfl (Calls.evalArgs_plain (Calls.spliced_cons (thn (he pins s1 σ H1 _ I1 q1) fun iv s2 ⟨y, H2, I2, ry, kvs, k, v, ea, ey, l, q2⟩ => Calls.spliced_nil ?_)))
 subst ey
 exact d_pop I2 ea ry l (.inl rfl) fun w' s3 I3 rw' => ⟨v, _, I3, rw', q2⟩
end
section
variable {X : Cx} {pins : List (Addr × Obj)} {σ : St} {H : Hp} {s : Shared} {a : Addr} {kvs : List (Key × V)} {A : Around} {E : Value -> Shared -> Prop}
end
section
variable {X : Cx} {pins : List (Addr × Obj)} {σ : St} {H : Hp} {s : Shared} {a : Addr} {y : V} {u : Value} {A : Around} {E : Value -> Shared -> Prop}
end
end L2
namespace L2
open PySem PySem.Spec PyProof.Rows
theorem gap_no {a b : Nat} (z : a = b + 1) (h : a < b) : False := by omega
structure CompSc (N N' : List Str) (ixs : List (Option Nat)) (S sc : Scope) : Prop where
 kind : sc.kind = .function
 nocell : ∀ y ∈ sc.names, y.2 ≠ .cell
 loc : ∀ y ∈ sc.names, y.2 = .local -> sc.names.lookup y.1 = some .local
 free : ∀ y ∈ sc.names, y.2 = .free -> S.names.lookup y.1 = some .cell \/ S.names.lookup y.1 = some .free
 nd : N'.Nodup
 len : ixs.length = N'.length
 cap : ((ixs.zip N').all fun p => match p.1 with
  | none => true
  | some i => decide (N[i]? = some p.2) && decide (sc.names.lookup p.2 = some NameKind.free)) = true
def pick (ixs : List (Option Nat)) (σ : St) : St := ixs.map fun o => o.bind fun i => (σ[i]?).bind id
theorem CompSc.at {N N' : List Str} {ixs : List (Option Nat)} {S sc : Scope} (h : CompSc N N' ixs S sc) {j i : Nat} {x : Str} (e1 : N'[j]? = some x) (e2 : ixs[j]? = some (some i)) :
  N[i]? = some x /\ sc.names.lookup x = some .free := by
 have hm : (some i, x) ∈ ixs.zip N' := by
  refine List.mem_of_getElem? (i := j) ?_
  rw [List.getElem?_zip_eq_some]
  exact ⟨e2, e1⟩
 have q := List.all_eq_true.mp h.cap _ hm
 simp only [Bool.and_eq_true, decide_eq_true_eq] at q
 exact q
theorem pick_at {ixs : List (Option Nat)} {σ : St} {j : Nat} {v : V} (e : (pick ixs σ)[j]? = some (some v)) : ∃ i, ixs[j]? = some (some i) /\ σ[i]? = some (some v) := by
 unfold pick at e
 rw [List.getElem?_map] at e
 cases h : ixs[j]? with
 | none => rw [h] at e; cases e
 | some o =>
  rw [h] at e
  cases o with
  | none => cases e
  | some i =>
   refine ⟨i, rfl, ?_⟩
   have e' : (σ[i]?).bind id = some v := Option.some.inj e
   cases q : σ[i]? with
   | none => rw [q] at e'; cases e'
   | some w => rw [q] at e'; exact congrArg some e'
theorem closure_all {env : Env} : ∀ (names : List (Str × NameKind)) (acc : List (Str × Addr)), (∀ y ∈ names, y.2 = .free -> ∃ c, env.cells.lookup y.1 = some c) ->
  (∀ x c, acc.lookup x = some c -> env.cells.lookup x = some c) ->
  ∃ cl, (∀ x c, cl.lookup x = some c -> env.cells.lookup x = some c) /\ (∀ y ∈ names, y.2 = .free -> ∃ c, cl.lookup y.1 = some c) /\ (∀ x c, acc.lookup x = some c -> ∃ d, cl.lookup x = some d) /\
   (forIn names acc fun (x : Str × NameKind) (r : List (Str × Addr)) => (if (x.2 == NameKind.free) = true then (do let a <- cellOf env x.1; pure (ForInStep.yield ((x.1, a) :: r))) else pure (ForInStep.yield r) : Sem (ForInStep (List (Str × Addr))))) = (pure cl : Sem (List (Str × Addr)))
 | [], acc, _, ha => ⟨acc, ha, fun _ h => (nomatch h), fun x c h => ⟨c, h⟩, rfl⟩
 | (n, k) :: r, acc, h, ha => by
  by_cases hk : k = .free
  ·subst hk
   obtain ⟨c, hc⟩ := h (n, .free) List.mem_cons_self rfl
   obtain ⟨cl, h1, h2, h3, h4⟩ := closure_all r ((n, c) :: acc) (fun y hy => h y (List.mem_cons_of_mem _ hy)) (fun x d hd => by
    rw [List.lookup_cons] at hd
    cases q : x == n with
    | true =>
     rw [q] at hd
     have e1 : x = n := by simpa using q
     have e2 : c = d := Option.some.inj hd
     rw [e1, <- e2]; exact hc
    | false => rw [q] at hd; exact ha x d hd)
   refine ⟨cl, h1, fun y hy hf => ?_, fun x d hd => ?_, ?_⟩
   ·rcases List.mem_cons.mp hy with e | hy
    ·subst e
     exact h3 n c (by simp [List.lookup_cons])
    ·exact h2 y hy hf
   ·cases q : x == n with
    | true =>
     have e1 : x = n := by simpa using q
     subst e1
     exact h3 x c (by simp [List.lookup_cons])
    | false => exact h3 x d (by rw [List.lookup_cons, q]; exact hd)
   ·rw [<- h4, List.forIn_cons]
    have e : cellOf env n = pure c := by unfold cellOf; rw [hc]
    show ((if (NameKind.free == NameKind.free) = true then (do let a <- cellOf env n; pure (ForInStep.yield ((n, a) :: acc))) else pure (ForInStep.yield acc) : Sem _) >>= _) = _
    rw [if_pos (by decide), e]
    rfl
  ·obtain ⟨cl, h1, h2, h3, h4⟩ := closure_all r acc (fun y hy => h y (List.mem_cons_of_mem _ hy)) ha
   refine ⟨cl, h1, fun y hy hf => ?_, h3, ?_⟩
   ·rcases List.mem_cons.mp hy with e | hy
    ·subst e; exact absurd hf hk
    ·exact h2 y hy hf
   ·rw [<- h4, List.forIn_cons]
    have e : (k == NameKind.free) = false := by simpa using hk
    show ((if (k == NameKind.free) = true then (do let a <- cellOf env n; pure (ForInStep.yield ((n, a) :: acc))) else pure (ForInStep.yield acc) : Sem _) >>= _) = _
    rw [if_neg (by rw [e]; exact Bool.false_ne_true)]
    rfl
theorem closure_ok {sc : Scope} {env : Env} (h : ∀ y ∈ sc.names, y.2 = .free -> ∃ c, env.cells.lookup y.1 = some c) :
  ∃ cl, closureFor sc env = pure cl /\ (∀ x c, cl.lookup x = some c -> env.cells.lookup x = some c) /\ (∀ y ∈ sc.names, y.2 = .free -> ∃ c, cl.lookup y.1 = some c) := by
 obtain ⟨cl, h1, h2, _, h4⟩ := closure_all (env := env) sc.names [] h (fun x c e => by simp at e)
 refine ⟨cl, ?_, h1, h2⟩
 unfold closureFor
 exact (congrArg (fun m : Sem (List (Str × Addr)) => m >>= fun r => pure r) h4).trans rfl
theorem relabel_lookup {env : Env} {x : Str} : ∀ {names : List (Str × NameKind)} {k : NameKind}, names.lookup x = some k ->
  (names.map fun (n, k) => if (k == NameKind.free && env.scope.kind == .function && env.kindOf n == some .cell) then (n, NameKind.cell) else (n, k)).lookup x
   = some (if (k == NameKind.free && env.scope.kind == .function && env.kindOf x == some .cell) then NameKind.cell else k)
 | [], _, h => by simp at h
 | (n, k0) :: r, k, h => by
  rw [List.lookup_cons] at h
  rw [List.map_cons]
  cases q : x == n with
  | true =>
   have e1 : x = n := by simpa using q
   subst e1
   rw [q] at h
   have e2 : k0 = k := Option.some.inj h
   subst e2
   dsimp only
   by_cases hc : (k0 == NameKind.free && env.scope.kind == .function && env.kindOf x == some .cell) = true
   ·rw [if_pos hc, if_pos hc, List.lookup_cons, q]
   ·rw [if_neg hc, if_neg hc, List.lookup_cons, q]
  | false =>
   rw [q] at h
   have ih := relabel_lookup (env := env) h
   dsimp only
   by_cases hc : (k0 == NameKind.free && env.scope.kind == .function && env.kindOf n == some .cell) = true
   ·rw [if_pos hc, List.lookup_cons, q]; exact ih
   ·rw [if_neg hc, List.lookup_cons, q]; exact ih
theorem relabel_none {env : Env} {x : Str} : ∀ {names : List (Str × NameKind)}, names.lookup x = none ->
  (names.map fun (n, k) => if (k == NameKind.free && env.scope.kind == .function && env.kindOf n == some .cell) then (n, NameKind.cell) else (n, k)).lookup x = none
 | [], _ => rfl
 | (n, k0) :: r, h => by
  rw [List.lookup_cons] at h
  rw [List.map_cons]
  cases q : x == n with
  | true => rw [q] at h; cases h
  | false =>
   rw [q] at h
   have ih := relabel_none (env := env) h
   dsimp only
   by_cases hc : (k0 == NameKind.free && env.scope.kind == .function && env.kindOf n == some .cell) = true
   ·rw [if_pos hc, List.lookup_cons, q]; exact ih
   ·rw [if_neg hc, List.lookup_cons, q]; exact ih
def blk (X : Cx) (N' : List Str) (sc : Scope) (cl : List (Str × Addr)) (C : Addr) (s2 : Shared) (H2 : Hp) (fp : List Addr) : Cx :=
 { X with N := N', s₀ := s2, H₀ := H2, env := compEnvC sc cl C X.env, outer := X.stack, ex := fp, fn := fun _ => false, pn := [] }
theorem blk_start {X : Cx} {pins : List (Addr × Obj)} {σ : St} {H2 : Hp} {s2 : Shared} {N' : List Str} {ixs : List (Option Nat)} {S sc : Scope} {cl : List (Str × Addr)} {fp : List Addr} {h1 : Heap} {tk n0 : Nat}
  (I : Inv X pins σ H2 s2) (hS : X.env.scope = S) (SC : CompSc X.N N' ixs S sc) (hcl1 : ∀ x c, cl.lookup x = some c -> X.env.cells.lookup x = some c) (hcl2 : ∀ y ∈ sc.names, y.2 = .free -> ∃ c, cl.lookup y.1 = some c)
  (hf : ∀ b ∈ fp, FpOk X pins H2 b) (hfl : ∀ b ∈ fp, b < s2.heap.objs.size) (hns : h1.Ns (s2.heap.objs.size + 1) fun _ => none)
  (keep : ∀ b o, s2.heap.get? b = some o -> h1.get? b = some o) (ha : h1.get? s2.heap.objs.size = some { cls := .type "list", data := .seq ([] : List Value).toArray n0 }) :
  Inv (blk X N' sc cl (s2.heap.objs.size + 1) s2 H2 fp) [] (pick ixs σ) (upd H2 s2.heap.objs.size (.lst [])) { s2 with heap := h1, toks := tk } := by
 have kfree : ∀ {x : Str} {k : NameKind}, (relabel sc X.env).names.lookup x = some k -> k = .cell \/ k = .free -> (x, NameKind.free) ∈ sc.names := fun {x k} e hk => by
  cases q : sc.names.lookup x with
  | none =>
   have z := relabel_none (env := X.env) q
   have z' : (relabel sc X.env).names.lookup x = none := z
   rw [e] at z'; cases z'
  | some k0 =>
   have z := relabel_lookup (env := X.env) q
   have z' : (relabel sc X.env).names.lookup x = _ := z
   rw [e] at z'
   have m := PySem.mem_of_lookup q
   have hz := Option.some.inj z'
   by_cases hc : (k0 == NameKind.free && X.env.scope.kind == .function && X.env.kindOf x == some .cell) = true
   ·have h0 : k0 = .free := by
     simp only [Bool.and_eq_true, beq_iff_eq] at hc
     exact hc.1.1
    rw [<- h0]; exact m
   ·rw [if_neg hc] at hz
    subst hz
    rcases hk with hk | hk
    ·exact absurd hk (SC.nocell _ m)
    ·rw [<- hk]; exact m
 have fr : H2 s2.heap.objs.size = none := I.hok.fresh (Nat.le_refl _)
 have frC : H2 (s2.heap.objs.size + 1) = none := I.hok.fresh (Nat.le_succ _)
 have cl_lt : ∀ x c, X.env.cells.lookup x = some c -> c < s2.heap.objs.size := fun x c e => by
  obtain ⟨v, q⟩ := I.cell x c e
  exact q.lt
 have ok : (blk X N' sc cl (s2.heap.objs.size + 1) s2 H2 fp).Ok := {
  mod := I.ok.mod
  kind := SC.kind
  glob := I.ok.glob
  blt := I.ok.blt
  above := Nat.le_succ _
  inj := fun x y c e1 e2 => I.ok.inj x y c (hcl1 x c e1) (hcl1 y c e2)
  has := fun x hx => by
   rcases hx with hx | hx
   ·exact hcl2 _ (kfree hx (.inl rfl)) rfl
   ·exact hcl2 _ (kfree hx (.inr rfl)) rfl
  cab := fun x c h => absurd (show false = true from h) Bool.false_ne_true
  hd := I.ok.hd
  frames := I.ok.frames
  stk := .inl rfl
  exf := fun b hb => ⟨Nat.ne_of_lt (Nat.lt_succ_of_lt (hfl b hb)), fun x c e => (hf b hb).2.2.2.2.1 x c (hcl1 x c e)⟩
  bs := I.bs
  bsz := Nat.le_trans I.ok.bsz I.sz
  noex := fun b o e hb => by
   rcases (hf b hb).2.2.2.1 with z | z
   ·exact I.ok.noex b o e z
   ·exact absurd (Nat.lt_of_lt_of_le (Heap.lt_size e) (Nat.le_trans I.ok.bsz z)) (Nat.lt_irrefl _)
  exfs := fun b hb hz => by
   rcases List.mem_cons.mp (I.stkSub b hz) with z | z
   ·exact (hf b hb).2.1 z
   ·exact (hf b hb).2.2.1 z
  funs := I.stack
  frf := I.stkFree }
 refine ⟨ok, rfl, I.bare, Un.laid keep (Nat.le_refl _) fr, ⟨_, hns, fun j x v e1 e2 e3 => ?_⟩, fun x c e => ?_, ?_, fun x c e => ?_, fun p hp => absurd (show p ∈ ([] : List (Addr × Obj)) from hp) (by simp), ?_, ?_⟩
 ·obtain ⟨i, ei, ev⟩ := pick_at e2
  obtain ⟨eN, ef⟩ := SC.at e1 ei
  have hm := PySem.mem_of_lookup ef
  have hvis : X.env.scope.names.lookup x = some .cell \/ X.env.scope.names.lookup x = some .free := by rw [hS]; exact SC.free _ hm rfl
  obtain ⟨m, hn, hl⟩ := I.loc
  obtain ⟨u, r, l⟩ := hl i x v eN ev (.inr hvis)
  refine ⟨u, r, ?_⟩
  rcases l with ⟨hk, _⟩ | ⟨_, c, ec, o, ho, hd⟩
  ·have hk' : X.env.scope.names.lookup x = some .local := hk
   rcases hvis with z | z
   ·rw [hk'] at z; cases z
   ·rw [hk'] at z; cases z
  ·obtain ⟨c', ec'⟩ := hcl2 _ hm rfl
   have e5 := hcl1 _ _ ec'
   rw [ec] at e5
   have e6 : c = c' := Option.some.inj e5
   subst e6
   refine .inr ⟨?_, c, ec', o, keep _ _ ho, hd⟩
   have z := relabel_lookup (env := X.env) ef
   have z' : (relabel sc X.env).names.lookup x = _ := z
   by_cases hc : (NameKind.free == NameKind.free && X.env.scope.kind == .function && X.env.kindOf x == some .cell) = true
   ·rw [if_pos hc] at z'; exact .inl z'
   ·rw [if_neg hc] at z'; exact .inr z'
 ·obtain ⟨v, o, ho, hd⟩ := I.cell x c (hcl1 x c e)
  exact ⟨v, o, keep _ _ ho, hd⟩
 ·show upd H2 s2.heap.objs.size _ (s2.heap.objs.size + 1) = none
  rw [upd_ne (Nat.ne_of_gt (Nat.lt_succ_self _))]
  exact frC
 ·show upd H2 s2.heap.objs.size _ c = none
  rw [upd_ne (Nat.ne_of_lt (cl_lt x c (hcl1 x c e)))]
  exact I.freeC x c (hcl1 x c e)
 ·exact I.hok.laid keep (Nat.le_refl _) ⟨Nat.zero_le _, [], n0, .nil, ha⟩
 ·show (pick ixs σ).length = N'.length
  unfold pick
  rw [List.length_map]
  exact SC.len
theorem blk_end {X : Cx} {pins : List (Addr × Obj)} {σ σ' : St} {H2 H' : Hp} {s2 s' : Shared} {N' : List Str} {sc : Scope} {cl : List (Str × Addr)} {fp : List Addr} {C : Addr}
  (I : Inv X pins σ H2 s2) (hf : ∀ b ∈ fp, FpOk X pins H2 b) (J : Inv (blk X N' sc cl C s2 H2 fp) [] σ' H' s') : Inv X pins σ H' s' :=
 I.call' (ch := fp) J.os J.base J.hok J.bare fun b hb => ⟨(hf b hb).2.2.2.1, (hf b hb).2.1, (hf b hb).2.2.2.2.1, (hf b hb).2.2.2.2.2⟩
theorem comp_loop {prog : Program} {w : World} {A : Around} {R : Result -> Shared -> Prop} {s : Shared} {elt target iter : Expr} {ifs : List Expr} {scope : Scope} {pos : Pos} {it acc : Value} {env : Env} (I : Nat -> Shared -> Prop)
  (turn : ∀ n s, I n s -> wpAny (model prog w) A (pyNext it) (fun r s₁ => match r with
   | none => R (.ok .next) s₁
   | some v => wpAny (model prog w) A (letOwnedTupleGo target it v) (fun _ t₁ => wpAny (model prog w) A (assign target env v) (fun _ s₂ =>
     wpAny (model prog w) A (forIn ifs true fun c r => if r = true then do let ok <- isTrue c env (eval c env); pure (ForInStep.yield ok) else pure (ForInStep.yield r)) (fun ok s₃ =>
      if ok = true then wpAny (model prog w) A (eval elt env) (fun x s₄ =>
       wpAny (model prog w) A (call (.builtin "list.append") [acc, x]) (fun _ s₅ => ∃ m, m < n /\ I m s₅) (fun _ _ => False) s₄) (fun _ _ => False) s₃
      else ∃ m, m < n /\ I m s₃) (fun _ _ => False) s₂) (fun _ _ => False) t₁) (fun _ _ => False) s₁) (fun _ _ => False) s)
  (n : Nat) (h : I n s) : codeAny (model prog w) A (.compLoop (.ListComp elt [⟨target, iter, ifs, 0⟩] scope pos) 0 it acc env) R s := by
 refine codeAny_loop rfl I (fun n s hI => ?_) n h
 show wpAny _ A ((compTurn (.ListComp elt [⟨target, iter, ifs, 0⟩] scope pos) 0 it acc env).onRaise (fun x => do noteFrame x env; theTreesLotGoes x)) _ _ s
 refine wpAny_noted (wpAny_noRaise ?_)
 rw [compTurn_list]
 refine wpAny_bind (wpAny_standAt (wpAny_bind (thn (turn n s hI) fun r s₁ h₁ => ?_)))
 cases r with
 | none => exact wpAny_pure h₁
 | some v =>
  refine wpAny_bind (thn h₁ fun _ t₁ h₂ => wpAny_bind (thn h₂ fun _ s₂ h₃ => wpAny_bind (thn h₃ fun ok s₃ h₄ => ?_)))
  cases ok with
  | false => exact wpAny_pure ⟨rfl, h₄⟩
  | true => exact wpAny_bind (wpAny_bind (thn h₄ fun x s₄ h₅ => wpAny_bind (thn h₅ fun _ s₅ h₆ => wpAny_pure (wpAny_pure ⟨rfl, h₆⟩))))
def PIf (X : Cx) (ifs : List Expr) (t : TT) : Prop :=
 ∀ (pins : List (Addr × Obj)) (s : Shared) (σ : St) (H : Hp) (Q : Bool -> Hp -> Prop), Inv X pins σ H s -> t σ H Q ->
  wpAny (model X.prog X.w) X.A (forIn ifs true fun c r => if r = true then do let ok <- isTrue c X.env (eval c X.env); pure (ForInStep.yield ok) else pure (ForInStep.yield r)) (TP X pins σ Q) X.xe s
def tYes : TT := fun _ H Q => Q true H
theorem pif_nil {X : Cx} : PIf X [] tYes := fun _ _ _ H _ I h => wpAny_tests_nil ⟨H, I, h⟩
theorem pif_one {X : Cx} {c : Expr} {t : TT} (h : PT X c t) : PIf X [c] t := fun pins s σ H Q I hw => wpAny_tests_one (h pins s σ H Q I hw)
def CompW (J : It) (g : TG) (tt : TT) (te : TE) (acc : Addr) (Fin : Hp -> Prop) (W : Nat -> Nat -> List V -> St -> Hp -> Prop) : Prop :=
 ∀ i m ys σ H, W i m ys σ H -> (J.stop i H /\ H acc = some (.lst ys) /\ Fin H) \/
  (J.go i H /\ ∀ x H', J.yld i H x H' -> g x σ H' fun σ2 H3 => tt σ2 H3 fun b H4 =>
   if b = true then te σ2 H4 fun y H5 => H5 acc = some (.lst ys) /\ ys.length < sizeLine /\ ∃ m', m' < m /\ W (i + 1) m' (ys ++ [y]) σ2 (upd H5 acc (.lst (ys ++ [y])))
   else ∃ m', m' < m /\ W (i + 1) m' ys σ2 H4)
def tComp (ixs : List (Option Nat)) (wi : TI) (g : TG) (tt : TT) (te : TE) : TE := fun σ H Q => wi σ H fun J H2 => ∀ acc, H2 acc = none ->
 ∃ W : Nat -> Nat -> List V -> St -> Hp -> Prop, (∃ m, W 0 m [] (pick ixs σ) (upd H2 acc (.lst []))) /\ CompW J g tt te acc (Q (.ref acc)) W
section
variable {X : Cx} {tg iter elt : Expr} {ifs : List Expr} {sc S : Scope} {N' : List Str} {ixs : List (Option Nat)} {pos : Pos} {wi : TI} {g : TG} {tt : TT} {te : TE}
theorem comp_run {pins : List (Addr × Obj)} {σ : St} {H2 : Hp} {s2 : Shared} {it : Addr} {fp : List Addr} {tn : Nat -> Heap -> Prop} {J : It} {cl : List (Str × Addr)} {R : Value -> Addr -> Result -> Shared -> Prop} {Fin : Hp -> Prop} {W : Nat -> Nat -> List V -> St -> Hp -> Prop} {m0 : Nat}
  (hxe : X.xe = fun _ _ => False) (hc : X.calm = true) (hS : X.env.scope = S) (SC : CompSc X.N N' ixs S sc) (hcl1 : ∀ x c, cl.lookup x = some c -> X.env.cells.lookup x = some c) (hcl2 : ∀ y ∈ sc.names, y.2 = .free -> ∃ c, cl.lookup y.1 = some c)
  (hg : ∀ cl C s H fp, PG (blk X N' sc cl C s H fp) tg g) (ht : ∀ cl C s H fp, PIf (blk X N' sc cl C s H fp) ifs tt) (he : ∀ cl C s H fp, PE (blk X N' sc cl C s H fp) elt te)
  (I : Inv X pins σ H2 s2) (T : Turn X.prog X.w X.K tg J fp it tn) (st : tn 0 s2.heap) (hf : ∀ b ∈ fp, FpOk X pins H2 b)
  (w0 : W 0 m0 [] (pick ixs σ) (upd H2 s2.heap.objs.size (.lst []))) (hW : CompW J g tt te s2.heap.objs.size Fin W)
  (hR : ∀ H' s' m, Inv X pins σ H' s' -> s'.heap.Ns (s2.heap.objs.size + 1) m -> H' (s2.heap.objs.size + 1) = none -> Fin H' -> R (.ref s2.heap.objs.size) (s2.heap.objs.size + 1) (.ok .next) s') :
  wpAny (model X.prog X.w) X.A (newList []) (fun acc s₃ => wpAny (model X.prog X.w) X.A (newFunctionEnv sc X.env.globals cl [] X.env.qual none .none (some X.env)) (fun cenv s₄ =>
   codeAny (model X.prog X.w) X.A (.compStart (.ListComp elt [⟨tg, iter, ifs, 0⟩] sc pos) 0 (.ref it) acc { cenv with scope := relabel sc X.env }) (R acc cenv.locals) s₄) X.xe s₃) X.xe s2 := by
 refine wpAny_newObj_type (wpAny_newFunctionEnv SC.nocell (by intro y hy; simp at hy) (fun h₁ hns₁ hsb₁ => ?_) SC.kind)
 dsimp only at hns₁ hsb₁ ⊢
 have eC : (s2.heap.push { cls := .type "list", dict := none, data := .seq ([] : List Value).toArray }).objs.size = s2.heap.objs.size + 1 := by rw [Heap.size_push]
 rw [eC] at hns₁ hsb₁ ⊢
 have old : ∀ b o, s2.heap.get? b = some o -> h₁.get? b = some o := fun b o e => hsb₁.extBut b o (Nat.ne_of_lt (Nat.lt_succ_of_lt (Heap.lt_size e))) (Heap.get?_push_of_some _ (Heap.get?_push_of_some _ e))
 have hacc : h₁.get? s2.heap.objs.size = some { cls := .type "list", data := .seq ([] : List Value).toArray } := hsb₁.extBut _ _ (Nat.ne_of_lt (Nat.lt_succ_self _)) (Heap.get?_push_of_some _ (Heap.get?_push_size _ rfl))
 have hfl : ∀ b ∈ fp, b < s2.heap.objs.size := fun b hb => by
  obtain ⟨o, e, _⟩ := T.obj _ _ st b hb
  exact Heap.lt_size e
 have I1 := blk_start (tk := s2.toks + ([] : List (Str × Value)).length) I hS SC hcl1 hcl2 hf hfl hns₁ old hacc
 have st1 : tn 0 h₁ := T.keep _ _ _ st fun b _ o e => old b o e
 generalize hY : blk X N' sc cl (s2.heap.objs.size + 1) s2 H2 fp = Y at I1
 have hfY : ∀ {H' : Hp}, (∀ b ∈ fp, H' b = none) -> ∀ b ∈ fp, FpOk Y [] H' b := fun {H'} hn b hb => by
  subst hY
  refine ⟨hn b hb, Nat.ne_of_lt (Nat.lt_succ_of_lt (hfl b hb)), fun hz => ?_, .inl hb, fun x c e => (hf b hb).2.2.2.2.1 x c (hcl1 x c e), fun p hp => absurd (show p ∈ ([] : List (Addr × Obj)) from hp) (by simp)⟩
  rcases List.mem_cons.mp (I.stkSub b hz) with z | z
  ·exact (hf b hb).2.1 z
  ·exact (hf b hb).2.2.1 z
 have hg' : PG Y tg g := by subst hY; exact hg _ _ _ _ _
 have ht' : PIf Y ifs tt := by subst hY; exact ht _ _ _ _ _
 have he' : PE Y elt te := by subst hY; exact he _ _ _ _ _
 have hxY : Y.xe = fun _ _ => False := by subst hY; exact hxe
 have hcY : Y.calm = true := by subst hY; exact hc
 have hp0 : ∀ b ∈ fp, upd H2 s2.heap.objs.size (.lst []) b = none := fun b hb => by
  rw [upd_ne (Nat.ne_of_lt (hfl b hb))]
  exact (hf b hb).1
 have loop : ∀ s₃ : Shared, s₃ = { s2 with heap := h₁, toks := s2.toks + ([] : List (Str × Value)).length } ->
   codeAny (model X.prog X.w) X.A (.compLoop (.ListComp elt [⟨tg, iter, ifs, 0⟩] sc pos) 0 (.ref it) (.ref s2.heap.objs.size) Y.env) (R (.ref s2.heap.objs.size) (s2.heap.objs.size + 1)) s₃ := by
  rintro s₃ rfl
  have eP : X.prog = Y.prog := by subst hY; rfl
  have eW : X.w = Y.w := by subst hY; rfl
  have eA : X.A = Y.A := by subst hY; rfl
  have eK : X.K = Y.K := by subst hY; rfl
  have eM : model X.prog X.w = model Y.prog Y.w := by rw [eP, eW]
  have back : ∀ {σ' H' s'}, Inv Y [] σ' H' s' -> Inv X pins σ H' s' /\ (∃ m, s'.heap.Ns (s2.heap.objs.size + 1) m) /\ H' (s2.heap.objs.size + 1) = none := fun {σ' H' s'} K => by
   subst hY
   obtain ⟨m, hn, _⟩ := K.loc
   exact ⟨blk_end I hf K, ⟨m, hn⟩, K.free⟩
  clear hY
  refine comp_loop (fun n s' => ∃ i ys σ' H', Inv Y [] σ' H' s' /\ tn i s'.heap /\ (∀ b ∈ fp, H' b = none) /\ W i n ys σ' H') ?_ m0 ⟨0, [], _, _, I1, st1, hp0, w0⟩
  rintro n s3 ⟨i, ys, σ3, H3, I3, st3, fr3, w3⟩
  rcases hW i n ys σ3 H3 w3 with ⟨stop, ha3, fin⟩ | ⟨go, step⟩
  ·have td := T.done Y eP.symm eW.symm eK.symm hcY i [] s3 σ3 H3 (fun _ _ => False) I3 (hfY fr3) st3 stop
   rw [<- eA] at td
   refine thn td fun r s4 ⟨hr, I4⟩ => ?_
   subst hr
   obtain ⟨J4, ⟨m, hn⟩, hC⟩ := back I4
   exact hR H3 s4 m J4 hn hC fin
  ·have td := T.item Y eP.symm eW.symm eK.symm hcY i [] s3 σ3 H3 (fun _ _ => False) I3 (hfY fr3) st3 go
   rw [<- eA] at td
   refine thn td fun r s4 ⟨u, hr, h4⟩ => ?_
   subst hr
   refine thn h4 fun _ s5 ⟨x, H5, I5, r5, y5, st5, fr5⟩ => ?_
   have I5' := I5.pinned (hfY fr5) (T.obj _ _ st5)
   have unx : ∀ {α : Type} {t : Sem α} {Q : α -> Shared -> Prop} {s : Shared}, wpAny (model Y.prog Y.w) Y.A t Q Y.xe s -> wpAny (model X.prog X.w) X.A t Q (fun _ _ => False) s := fun h => by rw [eM, eA, <- hxY]; exact h
   refine thn (unx (hg' _ s5 σ3 H5 x u _ I5' r5 (step x H5 y5))) fun _ s6 ⟨σ6, H6, I6, q6⟩ => ?_
   refine thn (unx (ht' _ s6 σ6 H6 _ I6 q6)) fun b s7 ⟨H7, I7, q7⟩ => ?_
   have keepIt : ∀ {σ' H' s'}, Inv Y ([] ++ pinsAt fp s5.heap) σ' H' s' -> tn (i + 1) s'.heap /\ ∀ b ∈ fp, H' b = none := fun {σ' H' s'} K =>
    ⟨T.keep _ _ _ st5 fun b hb o e => (K.pin (b, o) (List.mem_append_right _ (List.mem_append_right _ (mem_pinsAt hb e)))).1, fun b hb => by
     obtain ⟨o, e, d⟩ := T.obj _ _ st5 b hb
     exact (K.pin (b, o) (List.mem_append_right _ (List.mem_append_right _ (mem_pinsAt hb e)))).2.1⟩
   cases b with
   | false =>
    obtain ⟨m', hm, w7⟩ := q7
    exact ⟨m', hm, i + 1, ys, σ6, H7, I7.unpinned, (keepIt I7).1, (keepIt I7).2, w7⟩
   | true =>
    refine thn (unx (he' _ s7 σ6 H7 _ I7 q7)) fun v s8 ⟨y, H8, I8, r8, q8⟩ => ?_
    obtain ⟨ha8, hz8, m', hm, w8⟩ := q8
    refine thn (unx (mt_append (X := Y) _ s8 σ6 H8 (.ref s2.heap.objs.size) [y] (.ref s2.heap.objs.size) [v] (fun v9 H9 => v9 = .non /\ H9 = upd H8 s2.heap.objs.size (.lst (ys ++ [y]))) I8 rfl (.cons r8 .nil) ⟨_, ys, y, rfl, rfl, ha8, hz8, rfl, rfl⟩)) fun v9 s9 ⟨z9, H9, I9, _, _, e9⟩ => ?_
    subst e9
    exact ⟨m', hm, i + 1, ys ++ [y], σ6, _, I9.unpinned, (keepIt I9).1, (keepIt I9).2, w8⟩
 have eEnv : Y.env = { (newEnv sc (s2.heap.objs.size + 1) X.env.globals cl X.env.qual none .none (some X.env) builtinsNs) with scope := relabel sc X.env } := by subst hY; rfl
 rw [eEnv] at loop
 exact codeAny_compStart_list (loop _ rfl) (T.self X.A 0 _ _ _ st1 (loop _ rfl))
theorem pe_comp (hxe : X.xe = fun _ _ => False) (hc : X.calm = true) (hS : X.env.scope = S) (SC : CompSc X.N N' ixs S sc) (hi : PI X tg iter wi)
  (hg : ∀ cl C s H fp, PG (blk X N' sc cl C s H fp) tg g) (ht : ∀ cl C s H fp, PIf (blk X N' sc cl C s H fp) ifs tt) (he : ∀ cl C s H fp, PE (blk X N' sc cl C s H fp) elt te)
  (hs : ∀ x, foldedSetIterable iter X.env x = pure x := by intro _; rfl) : PE X (.ListComp elt [⟨tg, iter, ifs, 0⟩] sc pos) (tComp ixs wi g tt te) := by
 intro pins s σ H Q I h
 obtain ⟨cl, ecl, hcl1, hcl2⟩ := closure_ok (sc := sc) (env := X.env) fun y hy hf => I.ok.has y.1 (by
  have z := SC.free y hy hf
  rw [<- hS] at z
  exact z)
 rw [eval_ListComp]
 refine wpAny_comprehension_free (use := none) rfl hs ecl SC.kind SC.loc ?_
 refine thn (hi pins s σ H _ I h) fun v s1 h1 => thn h1 fun itv s2 h2 => ?_
 obtain ⟨it, fp, tn, J, H2, e, I2, T, st2, f2, hw⟩ := h2
 subst e
 obtain ⟨W, ⟨m0, w0⟩, hW⟩ := hw _ (I2.hok.fresh (Nat.le_refl _))
 refine comp_run (R := fun acc C => compPost (model X.prog X.w) X.A X.xe none (EP X pins σ Q) acc C) hxe hc hS SC hcl1 hcl2 hg ht he I2 T st2 f2 w0 hW fun H' s' m J' hn hC fin => ?_
 refine ⟨m, hn, fun h' hs' => ?_⟩
 have hlt := J'.lt
 refine ⟨.ref s2.heap.objs.size, H', J'.turned (it := s2.heap.objs.size + 1) (t' := s'.toks) (fun b o hb e => hs'.extBut b o hb e) hC (Nat.ne_of_gt (Nat.lt_succ_of_lt I2.lt)) (.inr (Nat.le_succ_of_le I2.sz)) (fun x c e z => ?_) (fun p hp z => ?_), rfl, fin⟩
 ·obtain ⟨v', q⟩ := I2.cell x c e
  exact gap_no z q.lt
 ·exact gap_no z (Heap.lt_size (I2.pin p hp).1)
theorem ps_setComp {y : Str} {i : Nat} {py spos : Pos} (hxe : X.xe = fun _ _ => False) (hc : X.calm = true) (hS : X.env.scope = S) (SC : CompSc X.N N' ixs S sc) (hi : PI X tg iter wi)
  (hg : ∀ cl C s H fp, PG (blk X N' sc cl C s H fp) tg g) (ht : ∀ cl C s H fp, PIf (blk X N' sc cl C s H fp) ifs tt) (he : ∀ cl C s H fp, PE (blk X N' sc cl C s H fp) elt te)
  (hN : X.N.Nodup) (hiN : X.N[i]? = some y) (hy : X.env.scope.names.lookup y = some .local) (hsw : swapsWith (.ListComp elt [⟨tg, iter, ifs, 0⟩] sc pos) (some (.Name y py)) spos.line X.env = pure true)
  (hs : ∀ x, foldedSetIterable iter X.env x = pure x := by intro _; rfl) : PS X (.Assign [.Name y py] (.ListComp elt [⟨tg, iter, ifs, 0⟩] sc pos) spos) (tAsg (tComp ixs wi g tt te) (gName i)) := by
 intro pins s σ H D I h
 obtain ⟨cl, ecl, hcl1, hcl2⟩ := closure_ok (sc := sc) (env := X.env) fun y hy hf => I.ok.has y.1 (by
  have z := SC.free y hy hf
  rw [<- hS] at z
  exact z)
 rw [exec_Assign_Name_used _ _ _ _ hsw]
 refine wpAny_bind (wpAny_standAt (wpAny_bind ?_))
 show wpAny _ _ (do let _ <- comprehension (.ListComp elt [⟨tg, iter, ifs, 0⟩] sc pos) sc X.env _ (newList []) false (eval iter X.env) (some (assign (.Name y py) X.env))) _ _ s
 refine wpAny_bind (thn (wpAny_comprehension_free (use := some (assign (.Name y py) X.env)) (Q := fun _ s' => SP X pins D .next s') rfl hs ecl SC.kind SC.loc ?_) fun _ s' hq => wpAny_pure (wpAny_pure hq))
 refine thn (hi pins s σ H _ I h) fun v s1 h1 => thn h1 fun itv s2 h2 => ?_
 obtain ⟨it, fp, tn, J, H2, e, I2, T, st2, f2, hw⟩ := h2
 subst e
 obtain ⟨W, ⟨m0, w0⟩, hW⟩ := hw _ (I2.hok.fresh (Nat.le_refl _))
 refine comp_run (R := fun acc C => compPost (model X.prog X.w) X.A X.xe (some (assign (.Name y py) X.env)) (fun _ s' => SP X pins D .next s') acc C) hxe hc hS SC hcl1 hcl2 hg ht he I2 T st2 f2 w0 hW fun H' s' m J' hn hC fin => ?_
 show wpAny _ _ (assign (.Name y py) X.env (.ref s2.heap.objs.size)) _ _ s'
 refine wpAny_assign_Name (store_ok2 (v := .ref s2.heap.objs.size) J' hN hiN (.inl hy) rfl (fun s'' J2 hch => ?_) (.inr hy))
 obtain ⟨a, hsb, ha⟩ := hch
 have clt : ∀ x c, X.env.cells.lookup x = some c -> c < s2.heap.objs.size := fun x c e => by
  obtain ⟨v', q⟩ := I2.cell x c e
  exact q.lt
 have hlt := I2.lt
 have hne : s2.heap.objs.size + 1 ≠ a := by
  rcases ha with z | z
  ·rw [z]; exact Nat.ne_of_gt (Nat.lt_succ_of_lt hlt)
  ·exact Nat.ne_of_gt (Nat.lt_succ_of_lt (clt _ _ z))
 refine ⟨m, hn.sameBut hsb hne, fun h' hs' => ⟨_, H', J2.turned (it := s2.heap.objs.size + 1) (t' := s''.toks) (fun b o hb e => hs'.extBut b o hb e) hC (Nat.ne_of_gt (Nat.lt_succ_of_lt hlt)) (.inr (Nat.le_succ_of_le I2.sz)) (fun x c e z => ?_) (fun p hp z => ?_), fin⟩⟩
 ·exact gap_no z (clt x c e)
 ·exact gap_no z (Heap.lt_size (I2.pin p hp).1)
end
end L2
set_option autoImplicit false
namespace DL
open PySem PySem.Spec PyProof.Rows L2
inductive Cell where
 | l (xs : List PyData)
 | k (kvs : List (PyData × PyData))
 | t (P : Addr) (pos : Pos) (q : Str)
abbrev Cells := List Cell
inductive W where
 | d (x : PyData)
 | c (i : Nat)
 | v (u : V)
abbrev DSt := List (Option W)
abbrev DK := W -> Cells -> Prop
abbrev DTE := DSt -> Cells -> DK -> Prop
abbrev DTT := DSt -> Cells -> (Bool -> Cells -> Prop) -> Prop
abbrev DTA := DSt -> Cells -> (List W -> Cells -> Prop) -> Prop
abbrev DTF := DSt -> Cells -> (List PyData -> Cells -> Prop) -> Prop
def KT (K : PySem.W.Frag) (a : Addr) (xs : List V) : Prop :=
 ∃ (o : Obj) (its : Array Value) (n : Nat), K.lookup a = some o /\ o.cls = .type "tuple" /\ o.dict = none /\ o.data = .seq its n /\ its.size <= sizeLine /\ Vals xs its.toList
def KL (K : PySem.W.Frag) (a : Addr) (xs : List V) : Prop :=
 ∃ (o : Obj) (its : Array Value) (n : Nat), K.lookup a = some o /\ o.cls = .type "list" /\ o.dict = none /\ o.data = .seq its n /\ its.size <= sizeLine /\ Vals xs its.toList
def TupAt (K : PySem.W.Frag) (A : List Addr) (H : Hp) (a : Addr) (xs : List V) : Prop := (a ∉ A /\ Rd H a (.tup xs)) \/ KT K a xs
def LstAt (K : PySem.W.Frag) (A : List Addr) (H : Hp) (a : Addr) (xs : List V) : Prop := (a ∉ A /\ Rd H a (.lst xs)) \/ KL K a xs
theorem TupAt.sq {K : PySem.W.Frag} {A : List Addr} {H : Hp} {a : Addr} {xs : List V} (h : TupAt K A H a xs) : SqT K H a xs := h.elim (fun z => .inl z.2) fun ⟨o, its, n, h1, h2, _, h4⟩ => .inr ⟨o, its, n, h1, h2, h4⟩
theorem LstAt.sq {K : PySem.W.Frag} {A : List Addr} {H : Hp} {a : Addr} {xs : List V} (h : LstAt K A H a xs) : SqL K H a xs := h.elim (fun z => .inl z.2) .inr
def keyD : PyData -> Option Key
 | .int i => some (.inl i)
 | .str x => if PyData.strOk x = true then some (.inr x) else none
 | _ => none
mutual
def Rep (K : PySem.W.Frag) (A : List Addr) (H : Hp) : PyData -> V -> Prop
 | .none, v => v = .non
 | .bool b, v => v = .bl b
 | .int i, v => v = .int i
 | .str x, v => v = .str x /\ PyData.strOk x = true
 | .list xs, v => ∃ a vs, v = .ref a /\ LstAt K A H a vs /\ Reps K A H xs vs
 | .tuple xs, v => ∃ a vs, v = .ref a /\ TupAt K A H a vs /\ Reps K A H xs vs
 | .dict kvs, v => ∃ a r, v = .ref a /\ (a ∉ A /\ Rd H a (.dK r)) /\ RepKs K A H kvs r
def Reps (K : PySem.W.Frag) (A : List Addr) (H : Hp) : List PyData -> List V -> Prop
 | [], vs => vs = []
 | x :: xs, vs => ∃ v r, vs = v :: r /\ Rep K A H x v /\ Reps K A H xs r
def RepKs (K : PySem.W.Frag) (A : List Addr) (H : Hp) : List (PyData × PyData) -> List (Key × V) -> Prop
 | [], r => r = []
 | p :: kvs, r => ∃ q r', r = q :: r' /\ RepP K A H p q /\ RepKs K A H kvs r'
def RepP (K : PySem.W.Frag) (A : List Addr) (H : Hp) : PyData × PyData -> Key × V -> Prop
 | (k, x), q => keyD k = some q.1 /\ Rep K A H x q.2
end
theorem Reps.length {K : PySem.W.Frag} {A : List Addr} {H : Hp} : ∀ {xs : List PyData} {vs : List V}, Reps K A H xs vs -> vs.length = xs.length
 | [], _, h => by rw [Reps] at h; subst h; rfl
 | _ :: xs, _, h => by
  rw [Reps] at h
  obtain ⟨v, r, rfl, _, h⟩ := h
  rw [List.length_cons, List.length_cons, Reps.length h]
theorem Reps.get {K : PySem.W.Frag} {A : List Addr} {H : Hp} : ∀ {xs : List PyData} {vs : List V} {i : Nat} {x : PyData}, Reps K A H xs vs -> xs[i]? = some x -> ∃ v, vs[i]? = some v /\ Rep K A H x v
 | [], _, _, _, _, e => by simp at e
 | y :: xs, _, 0, x, h, e => by
  rw [Reps] at h
  obtain ⟨v, r, rfl, hv, _⟩ := h
  simp at e; subst e
  exact ⟨v, rfl, hv⟩
 | y :: xs, _, i + 1, x, h, e => by
  rw [Reps] at h
  obtain ⟨v, r, rfl, _, h⟩ := h
  obtain ⟨w, e1, e2⟩ := Reps.get (i := i) h (by simpa using e)
  exact ⟨w, by simpa using e1, e2⟩
theorem Reps.append {K : PySem.W.Frag} {A : List Addr} {H : Hp} {ys : List PyData} {ws : List V} (h2 : Reps K A H ys ws) : ∀ {xs : List PyData} {vs : List V}, Reps K A H xs vs -> Reps K A H (xs ++ ys) (vs ++ ws)
 | [], _, h => by rw [Reps] at h; subst h; exact h2
 | x :: xs, _, h => by
  rw [Reps] at h
  obtain ⟨v, r, rfl, hv, h⟩ := h
  rw [List.cons_append, Reps]
  exact ⟨v, r ++ ws, rfl, hv, Reps.append h2 h⟩
theorem Reps.one {K : PySem.W.Frag} {A : List Addr} {H : Hp} {x : PyData} {v : V} (h : Rep K A H x v) : Reps K A H [x] [v] := by
 rw [Reps]; exact ⟨v, [], rfl, h, by rw [Reps]⟩
theorem Reps.nil {K : PySem.W.Frag} {A : List Addr} {H : Hp} : Reps K A H [] [] := by rw [Reps]
theorem Reps.cons {K : PySem.W.Frag} {A : List Addr} {H : Hp} {x : PyData} {xs : List PyData} {v : V} {vs : List V} (h : Rep K A H x v) (hs : Reps K A H xs vs) : Reps K A H (x :: xs) (v :: vs) := by
 rw [Reps]; exact ⟨v, vs, rfl, h, hs⟩
theorem Reps.drop {K : PySem.W.Frag} {A : List Addr} {H : Hp} : ∀ {xs : List PyData} {vs : List V} (n : Nat), Reps K A H xs vs -> Reps K A H (xs.drop n) (vs.drop n)
 | _, _, 0, h => h
 | [], _, n + 1, h => by rw [Reps] at h; subst h; rw [List.drop_nil, List.drop_nil]; exact .nil
 | x :: xs, _, n + 1, h => by
  rw [Reps] at h
  obtain ⟨v, r, rfl, _, h⟩ := h
  exact Reps.drop n h
theorem Reps.take {K : PySem.W.Frag} {A : List Addr} {H : Hp} : ∀ {xs : List PyData} {vs : List V} (n : Nat), Reps K A H xs vs -> Reps K A H (xs.take n) (vs.take n)
 | _, _, 0, h => .nil
 | [], _, n + 1, h => by rw [Reps] at h; subst h; rw [List.take_nil, List.take_nil]; exact .nil
 | x :: xs, _, n + 1, h => by
  rw [Reps] at h
  obtain ⟨v, r, rfl, hv, h⟩ := h
  rw [List.take_succ_cons, List.take_succ_cons]
  exact .cons hv (Reps.take n h)
theorem Reps.set {K : PySem.W.Frag} {A : List Addr} {H : Hp} {x : PyData} {v : V} (hx : Rep K A H x v) : ∀ {xs : List PyData} {vs : List V} (i : Nat), Reps K A H xs vs -> Reps K A H (xs.set i x) (vs.set i v)
 | [], _, i, h => by rw [Reps] at h; subst h; exact .nil
 | y :: xs, _, 0, h => by
  rw [Reps] at h
  obtain ⟨w, r, rfl, _, h⟩ := h
  exact .cons hx h
 | y :: xs, _, i + 1, h => by
  rw [Reps] at h
  obtain ⟨w, r, rfl, hw, h⟩ := h
  exact .cons hw (Reps.set hx i h)
mutual
theorem Rep.anti {K : PySem.W.Frag} {A B : List Addr} {H : Hp} (hs : ∀ a ∈ B, a ∈ A) : ∀ {d : PyData} {v : V}, Rep K A H d v -> Rep K B H d v
 | .none, _, h => by rw [Rep] at h ⊢; exact h
 | .bool _, _, h => by rw [Rep] at h ⊢; exact h
 | .int _, _, h => by rw [Rep] at h ⊢; exact h
 | .str _, _, h => by rw [Rep] at h ⊢; exact h
 | .list xs, _, h => by
  rw [Rep] at h ⊢
  obtain ⟨a, vs, e, h1, h2⟩ := h
  exact ⟨a, vs, e, h1.elim (fun z => .inl ⟨fun w => z.1 (hs _ w), z.2⟩) .inr, Reps.anti hs h2⟩
 | .tuple xs, _, h => by
  rw [Rep] at h ⊢
  obtain ⟨a, vs, e, h1, h2⟩ := h
  exact ⟨a, vs, e, h1.elim (fun z => .inl ⟨fun w => z.1 (hs _ w), z.2⟩) .inr, Reps.anti hs h2⟩
 | .dict kvs, _, h => by
  rw [Rep] at h ⊢
  obtain ⟨a, r, e, h1, h2⟩ := h
  exact ⟨a, r, e, ⟨fun w => h1.1 (hs _ w), h1.2⟩, RepKs.anti hs h2⟩
theorem Reps.anti {K : PySem.W.Frag} {A B : List Addr} {H : Hp} (hs : ∀ a ∈ B, a ∈ A) : ∀ {ds : List PyData} {vs : List V}, Reps K A H ds vs -> Reps K B H ds vs
 | [], _, h => by rw [Reps] at h ⊢; exact h
 | x :: xs, _, h => by
  rw [Reps] at h ⊢
  obtain ⟨v, r, e, h1, h2⟩ := h
  exact ⟨v, r, e, Rep.anti hs h1, Reps.anti hs h2⟩
theorem RepKs.anti {K : PySem.W.Frag} {A B : List Addr} {H : Hp} (hs : ∀ a ∈ B, a ∈ A) : ∀ {ds : List (PyData × PyData)} {vs : List (Key × V)}, RepKs K A H ds vs -> RepKs K B H ds vs
 | [], _, h => by rw [RepKs] at h ⊢; exact h
 | p :: xs, _, h => by
  rw [RepKs] at h ⊢
  obtain ⟨v, r, e, h1, h2⟩ := h
  exact ⟨v, r, e, RepP.anti hs h1, RepKs.anti hs h2⟩
theorem RepP.anti {K : PySem.W.Frag} {A B : List Addr} {H : Hp} (hs : ∀ a ∈ B, a ∈ A) : ∀ {p : PyData × PyData} {q : Key × V}, RepP K A H p q -> RepP K B H p q
 | (k, x), q, h => by
  rw [RepP] at h ⊢
  exact ⟨h.1, Rep.anti hs h.2⟩
end
mutual
theorem Rep.go {K : PySem.W.Frag} {A B : List Addr} {H H' : Hp} (hs : ∀ a o, a ∉ A -> H a = some o -> a ∉ B /\ H' a = some o) : ∀ {d : PyData} {v : V}, Rep K A H d v -> Rep K B H' d v
 | .none, _, h => by rw [Rep] at h ⊢; exact h
 | .bool _, _, h => by rw [Rep] at h ⊢; exact h
 | .int _, _, h => by rw [Rep] at h ⊢; exact h
 | .str _, _, h => by rw [Rep] at h ⊢; exact h
 | .list xs, _, h => by
  rw [Rep] at h ⊢
  obtain ⟨a, vs, e, h1, h2⟩ := h
  refine ⟨a, vs, e, ?_, Reps.go hs h2⟩
  rcases h1 with ⟨ha, h1 | ⟨o, h1⟩⟩ | h1
  ·exact .inl ⟨(hs a _ ha h1).1, .inl (hs a _ ha h1).2⟩
  ·exact .inl ⟨(hs a _ ha h1).1, .inr ⟨o, (hs a _ ha h1).2⟩⟩
  ·exact .inr h1
 | .tuple xs, _, h => by
  rw [Rep] at h ⊢
  obtain ⟨a, vs, e, h1, h2⟩ := h
  refine ⟨a, vs, e, ?_, Reps.go hs h2⟩
  rcases h1 with ⟨ha, h1 | ⟨o, h1⟩⟩ | h1
  ·exact .inl ⟨(hs a _ ha h1).1, .inl (hs a _ ha h1).2⟩
  ·exact .inl ⟨(hs a _ ha h1).1, .inr ⟨o, (hs a _ ha h1).2⟩⟩
  ·exact .inr h1
 | .dict kvs, _, h => by
  rw [Rep] at h ⊢
  obtain ⟨a, r, e, ⟨ha, h1⟩, h2⟩ := h
  refine ⟨a, r, e, ?_, RepKs.go hs h2⟩
  rcases h1 with h1 | ⟨o, h1⟩
  ·exact ⟨(hs a _ ha h1).1, .inl (hs a _ ha h1).2⟩
  ·exact ⟨(hs a _ ha h1).1, .inr ⟨o, (hs a _ ha h1).2⟩⟩
theorem Reps.go {K : PySem.W.Frag} {A B : List Addr} {H H' : Hp} (hs : ∀ a o, a ∉ A -> H a = some o -> a ∉ B /\ H' a = some o) : ∀ {ds : List PyData} {vs : List V}, Reps K A H ds vs -> Reps K B H' ds vs
 | [], _, h => by rw [Reps] at h ⊢; exact h
 | x :: xs, _, h => by
  rw [Reps] at h ⊢
  obtain ⟨v, r, e, h1, h2⟩ := h
  exact ⟨v, r, e, Rep.go hs h1, Reps.go hs h2⟩
theorem RepKs.go {K : PySem.W.Frag} {A B : List Addr} {H H' : Hp} (hs : ∀ a o, a ∉ A -> H a = some o -> a ∉ B /\ H' a = some o) : ∀ {ds : List (PyData × PyData)} {vs : List (Key × V)}, RepKs K A H ds vs -> RepKs K B H' ds vs
 | [], _, h => by rw [RepKs] at h ⊢; exact h
 | p :: xs, _, h => by
  rw [RepKs] at h ⊢
  obtain ⟨v, r, e, h1, h2⟩ := h
  exact ⟨v, r, e, RepP.go hs h1, RepKs.go hs h2⟩
theorem RepP.go {K : PySem.W.Frag} {A B : List Addr} {H H' : Hp} (hs : ∀ a o, a ∉ A -> H a = some o -> a ∉ B /\ H' a = some o) : ∀ {p : PyData × PyData} {q : Key × V}, RepP K A H p q -> RepP K B H' p q
 | (k, x), q, h => by
  rw [RepP] at h ⊢
  exact ⟨h.1, Rep.go hs h.2⟩
end
def TbOk (A : List Addr) (H : Hp) (P : Addr) (pos : Pos) (q : Str) : Prop := ∃ ps, H P = some (.tbl ps) /\ TriplesOk ps.toList /\ (codeAmong pos ps.toList = none \/ ∃ c, codeAmong pos ps.toList = some (.ref c) /\ c ∉ A /\ H c = some (.ext fun h => h.CodeRec (.ref c) q))
theorem TbOk.go {A A' : List Addr} {H H' : Hp} {P : Addr} {pos : Pos} {q : Str} (k : TbOk A H P pos q) (e : H' P = H P) (hs : ∀ a o, a ∉ A -> H a = some o -> a ∉ A' /\ H' a = some o) : TbOk A' H' P pos q := by
 obtain ⟨ps, h1, h2, h3⟩ := k
 refine ⟨ps, by rw [e]; exact h1, h2, h3.imp id fun ⟨c, e1, e2, e3⟩ => ⟨c, e1, hs c _ e2 e3⟩⟩
def CellOk (K : PySem.W.Frag) (A : List Addr) (H : Hp) (a : Addr) : Cell -> Prop
 | .l xs => ∃ vs, H a = some (.lst vs) /\ Reps K A H xs vs
 | .k kvs => ∃ r, H a = some (.dK r) /\ RepKs K A H kvs r
 | .t P pos q => a = P /\ TbOk A H P pos q
structure HeapRep (K : PySem.W.Frag) (A μ : List Addr) (h : Cells) (H : Hp) : Prop where
 len : μ.length = h.length
 nd : μ.Nodup
 sub : ∀ a ∈ μ, a ∈ A
 trk : ∀ a ∈ A, ∃ o, H a = some o
 cel : ∀ (i : Nat) (a : Addr) (c : Cell), μ[i]? = some a -> h[i]? = some c -> CellOk K A H a c
theorem HeapRep.val {K : PySem.W.Frag} {A μ : List Addr} {h : Cells} {H : Hp} (R : HeapRep K A μ h H) (i : Nat) (a : Addr) (xs : List PyData) (e1 : μ[i]? = some a) (e2 : h[i]? = some (Cell.l xs)) : ∃ vs, H a = some (.lst vs) /\ Reps K A H xs vs := R.cel i a _ e1 e2
theorem HeapRep.vad {K : PySem.W.Frag} {A μ : List Addr} {h : Cells} {H : Hp} (R : HeapRep K A μ h H) (i : Nat) (a : Addr) (kvs : List (PyData × PyData)) (e1 : μ[i]? = some a) (e2 : h[i]? = some (Cell.k kvs)) : ∃ r, H a = some (.dK r) /\ RepKs K A H kvs r := R.cel i a _ e1 e2
def RepW (K : PySem.W.Frag) (A μ : List Addr) (H : Hp) : W -> V -> Prop
 | .d x, v => Rep K A H x v
 | .c i, v => ∃ a, μ[i]? = some a /\ v = .ref a
 | .v u, v => v = u
structure EnvRep (K : PySem.W.Frag) (A μ : List Addr) (H : Hp) (δ : DSt) (σ : L2.St) : Prop where
 len : δ.length = σ.length
 val : ∀ (i : Nat) (w : W), δ[i]? = some (some w) -> ∃ v, σ[i]? = some (some v) /\ RepW K A μ H w v
structure Ext (A A' μ μ' : List Addr) (H H' : Hp) : Prop where
 sub : ∀ a ∈ A, a ∈ A'
 new : ∀ a ∈ A', a ∈ A \/ H a = none
 pre : ∃ ν, μ' = μ ++ ν /\ ∀ a ∈ ν, H a = none
 keep : ∀ a o, a ∉ μ -> H a = some o -> H' a = some o
 trk : ∀ a o, H a = some o -> ∃ o', H' a = some o'
section
variable {K : PySem.W.Frag} {A A' A1 A2 μ μ' μ1 μ2 : List Addr} {H H' H1 H2 : Hp} {h h' : Cells}
theorem Ext.refl : Ext A A μ μ H H := ⟨fun _ z => z, fun _ z => .inl z, ⟨[], by simp, fun _ z => (nomatch z)⟩, fun _ _ _ z => z, fun _ o z => ⟨o, z⟩⟩
theorem Ext.back (x : Ext A A' μ μ' H H') {a : Addr} (e : H' a = none) : H a = none := by
 cases q : H a with
 | none => rfl
 | some o => obtain ⟨o', z⟩ := x.trk a o q; rw [e] at z; cases z
theorem Ext.trans (x : Ext A A1 μ μ1 H H1) (y : Ext A1 A2 μ1 μ2 H1 H2) : Ext A A2 μ μ2 H H2 := by
 obtain ⟨ν, e1, n1⟩ := x.pre
 obtain ⟨ν', e2, n2⟩ := y.pre
 refine ⟨fun a z => y.sub a (x.sub a z), fun a z => ?_, ⟨ν ++ ν', by rw [e2, e1, List.append_assoc], fun a z => ?_⟩, fun a o ha q => y.keep a o (fun z => ?_) (x.keep a o ha q), fun a o q => ?_⟩
 ·rcases y.new a z with z | z
  ·exact x.new a z
  ·exact .inr (x.back z)
 ·rcases List.mem_append.mp z with z | z
  ·exact n1 a z
  ·exact x.back (n2 a z)
 ·rw [e1] at z
  rcases List.mem_append.mp z with z | z
  ·exact ha z
  ·rw [n1 a z] at q; cases q
 ·obtain ⟨o1, q1⟩ := x.trk a o q
  exact y.trk a o1 q1
theorem Ext.go (x : Ext A A' μ μ' H H') (hs : ∀ a ∈ μ, a ∈ A) : ∀ a o, a ∉ A -> H a = some o -> a ∉ A' /\ H' a = some o := fun a o ha q => by
 refine ⟨fun z => ?_, x.keep a o (fun z => ha (hs a z)) q⟩
 rcases x.new a z with z | z
 ·exact ha z
 ·rw [z] at q; cases q
theorem Rep.ext (x : Ext A A' μ μ' H H') (hs : ∀ a ∈ μ, a ∈ A) {d : PyData} {v : V} (r : Rep K A H d v) : Rep K A' H' d v := r.go (x.go hs)
theorem Reps.ext (x : Ext A A' μ μ' H H') (hs : ∀ a ∈ μ, a ∈ A) {d : List PyData} {v : List V} (r : Reps K A H d v) : Reps K A' H' d v := r.go (x.go hs)
theorem RepKs.ext (x : Ext A A' μ μ' H H') (hs : ∀ a ∈ μ, a ∈ A) {d : List (PyData × PyData)} {v : List (Key × V)} (r : RepKs K A H d v) : RepKs K A' H' d v := r.go (x.go hs)
theorem CellOk.some {a : Addr} {c : Cell} (k : CellOk K A H a c) : ∃ o, H a = some o := by
 cases c with
 | l xs => obtain ⟨vs, q, _⟩ := k; exact ⟨_, q⟩
 | k kvs => obtain ⟨vs, q, _⟩ := k; exact ⟨_, q⟩
 | t P pos q => obtain ⟨rfl, vs, q, _⟩ := k; exact ⟨_, q⟩
theorem CellOk.ext (x : Ext A A' μ μ' H H') (hs : ∀ a ∈ μ, a ∈ A) {a : Addr} {c : Cell} (k : CellOk K A H a c) (e : H' a = H a) : CellOk K A' H' a c := by
 cases c with
 | l xs => obtain ⟨vs, q, r⟩ := k; exact ⟨vs, by rw [e]; exact q, r.ext x hs⟩
 | k kvs => obtain ⟨vs, q, r⟩ := k; exact ⟨vs, by rw [e]; exact q, r.ext x hs⟩
 | t P pos q => obtain ⟨rfl, q⟩ := k; exact ⟨rfl, q.go e (x.go hs)⟩
theorem CellOk.anti {a : Addr} {c : Cell} (hs : ∀ a ∈ A', a ∈ A) (k : CellOk K A H a c) : CellOk K A' H a c := by
 cases c with
 | l xs => obtain ⟨vs, q, r⟩ := k; exact ⟨vs, q, r.anti hs⟩
 | k kvs => obtain ⟨vs, q, r⟩ := k; exact ⟨vs, q, r.anti hs⟩
 | t P pos q => obtain ⟨rfl, q⟩ := k; exact ⟨rfl, q.go rfl fun a o n e => ⟨fun z => n (hs a z), e⟩⟩
theorem RepW.ext (x : Ext A A' μ μ' H H') (hs : ∀ a ∈ μ, a ∈ A) {w : W} {v : V} (r : RepW K A μ H w v) : RepW K A' μ' H' w v := by
 cases w with
 | d y => exact Rep.ext x hs r
 | v u => exact r
 | c i =>
  obtain ⟨a, e, z⟩ := r
  obtain ⟨ν, e1, _⟩ := x.pre
  refine ⟨a, ?_, z⟩
  rw [e1, List.getElem?_append_left (List.getElem?_eq_some_iff.mp e).1]
  exact e
theorem EnvRep.ext (x : Ext A A' μ μ' H H') (hs : ∀ a ∈ μ, a ∈ A) {δ : DSt} {σ : L2.St} (r : EnvRep K A μ H δ σ) : EnvRep K A' μ' H' δ σ :=
 ⟨r.len, fun i w e => by
  obtain ⟨v, e1, r1⟩ := r.val i w e
  exact ⟨v, e1, r1.ext x hs⟩⟩
theorem EnvRep.set {δ : DSt} {σ : L2.St} {w : W} {v : V} (r : EnvRep K A μ H δ σ) (i : Nat) (rw' : RepW K A μ H w v) : EnvRep K A μ H (δ.set i (some w)) (σ.set i (some v)) := by
 refine ⟨by rw [List.length_set, List.length_set]; exact r.len, fun j u e => ?_⟩
 by_cases hj : i = j
 ·subst hj
  have hi : i < δ.length := by
   have := (List.getElem?_eq_some_iff.mp e).1
   rwa [List.length_set] at this
  rw [List.getElem?_set_self hi] at e
  cases e
  exact ⟨v, List.getElem?_set_self (by rw [<- r.len]; exact hi), rw'⟩
 ·rw [List.getElem?_set_ne hj] at e ⊢
  exact r.val j u e
theorem ext_fresh {p : Addr} {o : HO} (hp : H p = none) : Ext A A μ μ H (upd H p o) :=
 ⟨fun _ z => z, fun _ z => .inl z, ⟨[], by simp, fun _ z => (nomatch z)⟩, fun a o' _ q => by rw [upd_ne (ne_of_none q hp)]; exact q, fun a o' q => ⟨o', by rw [upd_ne (ne_of_none q hp)]; exact q⟩⟩
theorem HeapRep.fresh {p : Addr} {o : HO} (R : HeapRep K A μ h H) (hp : H p = none) : HeapRep K A μ h (upd H p o) :=
 ⟨R.len, R.nd, R.sub, fun a z => by
  obtain ⟨o', q⟩ := R.trk a z
  exact ⟨o', by rw [upd_ne (ne_of_none q hp)]; exact q⟩, fun i a c e1 e2 => by
  have k := R.cel i a c e1 e2
  obtain ⟨o', q⟩ := k.some
  exact k.ext (ext_fresh (μ := μ) hp) R.sub (upd_ne (ne_of_none q hp))⟩
theorem HeapRep.notA {p : Addr} (R : HeapRep K A μ h H) (hp : H p = none) : p ∉ A := fun z => by
 obtain ⟨o, q⟩ := R.trk p z
 rw [hp] at q; cases q
theorem rep_tuple {p : Addr} {xs : List PyData} {vs : List V} (R : HeapRep K A μ h H) (hp : H p = none) (r : Reps K A H xs vs) : Rep K A (upd H p (.tup vs)) (.tuple xs) (.ref p) := by
 rw [Rep]
 exact ⟨p, vs, rfl, .inl ⟨R.notA hp, .inl upd_same⟩, r.ext (ext_fresh (μ := μ) hp) R.sub⟩
theorem ext_cell {p : Addr} {o : HO} (hp : H p = none) : Ext A (p :: A) μ (μ ++ [p]) H (upd H p o) :=
 ⟨fun _ z => List.mem_cons_of_mem _ z, fun a z => (List.mem_cons.mp z).elim (fun e => .inr (by rw [e]; exact hp)) .inl, ⟨[p], rfl, fun a z => by rw [List.mem_singleton.mp z]; exact hp⟩,
  fun a o' _ q => by rw [upd_ne (ne_of_none q hp)]; exact q, fun a o' q => ⟨o', by rw [upd_ne (ne_of_none q hp)]; exact q⟩⟩
theorem heap_cellC {p : Addr} {o : HO} {c : Cell} (R : HeapRep K A μ h H) (hp : H p = none) (hc : CellOk K (p :: A) (upd H p o) p c) : HeapRep K (p :: A) (μ ++ [p]) (h ++ [c]) (upd H p o) := by
 have nA := R.notA hp
 have X : Ext A (p :: A) μ (μ ++ [p]) H (upd H p o) := ext_cell hp
 refine ⟨by rw [List.length_append, List.length_append, R.len]; rfl, ?_, fun a z => ?_, fun a z => ?_, fun i a ys e1 e2 => ?_⟩
 ·rw [List.nodup_append]
  refine ⟨R.nd, (by simp), fun a ha b hb => ?_⟩
  rw [List.mem_singleton.mp hb]
  rintro rfl
  exact nA (R.sub _ ha)
 ·rcases List.mem_append.mp z with z | z
  ·exact List.mem_cons_of_mem _ (R.sub a z)
  ·rw [List.mem_singleton.mp z]; exact List.mem_cons_self
 ·rcases List.mem_cons.mp z with e | z
  ·subst e; exact ⟨_, upd_same⟩
  ·obtain ⟨o', q⟩ := R.trk a z
   exact ⟨o', by rw [upd_ne (ne_of_none q hp)]; exact q⟩
 ·by_cases hi : i < μ.length
  ·rw [List.getElem?_append_left hi] at e1
   rw [List.getElem?_append_left (by rw [<- R.len]; exact hi)] at e2
   have k := R.cel i a ys e1 e2
   obtain ⟨o', q⟩ := k.some
   exact k.ext X R.sub (upd_ne (ne_of_none q hp))
  ·have hle : μ.length <= i := Nat.le_of_not_lt hi
   rw [List.getElem?_append_right hle] at e1
   rw [List.getElem?_append_right (by rw [<- R.len]; exact hle), <- R.len] at e2
   have hz : i - μ.length = 0 := by
    have := (List.getElem?_eq_some_iff.mp e1).1
    simp at this
    omega
   rw [hz] at e1 e2
   simp at e1 e2
   subst e1 e2
   exact hc
theorem heap_cell {p : Addr} {xs : List PyData} {vs : List V} (R : HeapRep K A μ h H) (hp : H p = none) (r : Reps K A H xs vs) : HeapRep K (p :: A) (μ ++ [p]) (h ++ [(Cell.l xs)]) (upd H p (.lst vs)) :=
 heap_cellC R hp ⟨vs, upd_same, r.ext (ext_cell (μ := μ) hp) R.sub⟩
theorem heap_cellK {p : Addr} {xs : List (PyData × PyData)} {vs : List (Key × V)} (R : HeapRep K A μ h H) (hp : H p = none) (r : RepKs K A H xs vs) : HeapRep K (p :: A) (μ ++ [p]) (h ++ [(Cell.k xs)]) (upd H p (.dK vs)) :=
 heap_cellC R hp ⟨vs, upd_same, r.ext (ext_cell (μ := μ) hp) R.sub⟩
theorem Rep.upd {p : Addr} {o : HO} (hp : p ∈ A) {d : PyData} {v : V} (r : Rep K A H d v) : Rep K A (L2.upd H p o) d v := r.go fun a o' ha q => ⟨ha, by rw [upd_ne (fun e => ha (by rw [e]; exact hp))]; exact q⟩
theorem Reps.upd {p : Addr} {o : HO} (hp : p ∈ A) {d : List PyData} {v : List V} (r : Reps K A H d v) : Reps K A (L2.upd H p o) d v := r.go fun a o' ha q => ⟨ha, by rw [upd_ne (fun e => ha (by rw [e]; exact hp))]; exact q⟩
theorem RepKs.upd {p : Addr} {o : HO} (hp : p ∈ A) {d : List (PyData × PyData)} {v : List (Key × V)} (r : RepKs K A H d v) : RepKs K A (L2.upd H p o) d v := r.go fun a o' ha q => ⟨ha, by rw [upd_ne (fun e => ha (by rw [e]; exact hp))]; exact q⟩
theorem CellOk.upd {p a : Addr} {o : HO} {c : Cell} (hp : p ∈ A) (ne : a ≠ p) (k : CellOk K A H a c) : CellOk K A (L2.upd H p o) a c := by
 cases c with
 | l xs => obtain ⟨vs, q, r⟩ := k; exact ⟨vs, by rw [upd_ne ne]; exact q, r.upd hp⟩
 | k kvs => obtain ⟨vs, q, r⟩ := k; exact ⟨vs, by rw [upd_ne ne]; exact q, r.upd hp⟩
 | t P pos q => obtain ⟨rfl, q⟩ := k; exact ⟨rfl, q.go (upd_ne ne) fun b o hb e => ⟨hb, by rw [upd_ne (fun z => hb (by rw [z]; exact hp))]; exact e⟩⟩
theorem ext_write {p : Addr} {o o0 : HO} (hp : p ∈ μ) (h0 : H p = some o0) : Ext A A μ μ H (upd H p o) :=
 ⟨fun _ z => z, fun _ z => .inl z, ⟨[], by simp, fun _ z => (nomatch z)⟩, fun a o' ha q => by rw [upd_ne (fun e => ha (by rw [e]; exact hp))]; exact q, fun a o' q => by
  by_cases e : a = p
  ·subst e; exact ⟨_, upd_same⟩
  ·exact ⟨o', by rw [upd_ne e]; exact q⟩⟩
theorem heap_writeC {p : Addr} {i : Nat} {o : HO} {c : Cell} (R : HeapRep K A μ h H) (hp : μ[i]? = some p) (hc : CellOk K A (upd H p o) p c) : HeapRep K A μ (h.set i c) (upd H p o) := by
 have hm : p ∈ μ := List.mem_of_getElem? hp
 have hA := R.sub p hm
 refine ⟨by rw [List.length_set]; exact R.len, R.nd, R.sub, fun a z => ?_, fun j a ys e1 e2 => ?_⟩
 ·by_cases e : a = p
  ·subst e; exact ⟨_, upd_same⟩
  ·obtain ⟨o', q⟩ := R.trk a z
   exact ⟨o', by rw [upd_ne e]; exact q⟩
 ·by_cases hj : i = j
  ·subst hj
   rw [hp] at e1; cases e1
   have hi : i < h.length := by rw [<- R.len]; exact (List.getElem?_eq_some_iff.mp hp).1
   rw [List.getElem?_set_self hi] at e2
   cases e2
   exact hc
  ·rw [List.getElem?_set_ne hj] at e2
   have ne : a ≠ p := fun e => by
    subst e
    have h1 := List.getElem?_eq_some_iff.mp e1
    have h2 := List.getElem?_eq_some_iff.mp hp
    exact hj ((List.getElem_inj R.nd).mp (h2.2.trans h1.2.symm))
   exact (R.cel j a ys e1 e2).upd hA ne
theorem heap_write {p : Addr} {i : Nat} {xs : List PyData} {vs : List V} (R : HeapRep K A μ h H) (hp : μ[i]? = some p) (r : Reps K A H xs vs) : HeapRep K A μ (h.set i (Cell.l xs)) (upd H p (.lst vs)) :=
 heap_writeC R hp ⟨vs, upd_same, r.upd (R.sub p (List.mem_of_getElem? hp))⟩
theorem heap_writeK {p : Addr} {i : Nat} {xs : List (PyData × PyData)} {vs : List (Key × V)} (R : HeapRep K A μ h H) (hp : μ[i]? = some p) (r : RepKs K A H xs vs) : HeapRep K A μ (h.set i (Cell.k xs)) (upd H p (.dK vs)) :=
 heap_writeC R hp ⟨vs, upd_same, r.upd (R.sub p (List.mem_of_getElem? hp))⟩
theorem heap_aside {p : Addr} {o : HO} (R : HeapRep K A μ h H) (hA : p ∈ A) (hn : p ∉ μ) : HeapRep K A μ h (upd H p o) := by
 refine ⟨R.len, R.nd, R.sub, fun a z => ?_, fun j a ys e1 e2 => ?_⟩
 ·by_cases e : a = p
  ·subst e; exact ⟨_, upd_same⟩
  ·obtain ⟨o', q⟩ := R.trk a z
   exact ⟨o', by rw [upd_ne e]; exact q⟩
 ·exact (R.cel j a ys e1 e2).upd hA fun e => hn (by rw [<- e]; exact List.mem_of_getElem? e1)
theorem heap_freeze {p : Addr} {xs : List PyData} (R : HeapRep K A (μ ++ [p]) (h ++ [(Cell.l xs)]) H) : HeapRep K (A.filter fun a => decide (a ≠ p)) μ h H /\ Rep K (A.filter fun a => decide (a ≠ p)) H (.list xs) (.ref p) := by
 have hl : μ.length = h.length := by
  have := R.len
  simpa using this
 have an : ∀ a ∈ A.filter (fun a => decide (a ≠ p)), a ∈ A := fun a z => (List.mem_filter.mp z).1
 refine ⟨⟨hl, (List.nodup_append.mp R.nd).1, fun a z => ?_, fun a z => R.trk a (an a z), fun i a ys e1 e2 => ?_⟩, ?_⟩
 ·refine List.mem_filter.mpr ⟨R.sub a (List.mem_append_left _ z), ?_⟩
  have := (List.nodup_append.mp R.nd).2.2 a z p List.mem_cons_self
  simpa using this
 ·exact (R.cel i a ys (by rw [List.getElem?_append_left (List.getElem?_eq_some_iff.mp e1).1]; exact e1) (by rw [List.getElem?_append_left (List.getElem?_eq_some_iff.mp e2).1]; exact e2)).anti an
 ·obtain ⟨vs, q, r⟩ := R.val μ.length p xs (by simp) (by rw [hl]; simp)
  rw [Rep]
  exact ⟨p, vs, rfl, .inl ⟨fun z => by simpa using (List.mem_filter.mp z).2, .inl q⟩, r.anti an⟩
theorem ext_freeze {p : Addr} (R : HeapRep K A μ h H) (hp : H p = none) (x : Ext A A' μ (μ' ++ [p]) H H') (hm : ∃ ν, μ' = μ ++ ν) : Ext A (A'.filter fun a => decide (a ≠ p)) μ μ' H H' := by
 obtain ⟨ν, e, n⟩ := x.pre
 obtain ⟨ν', e'⟩ := hm
 refine ⟨fun a z => List.mem_filter.mpr ⟨x.sub a z, ?_⟩, fun a z => x.new a (List.mem_filter.mp z).1, ⟨ν', e', fun a z => n a ?_⟩, x.keep, x.trk⟩
 ·have : a ≠ p := fun q => R.notA hp (by rw [<- q]; exact z)
  simpa using this
 ·rw [e', List.append_assoc] at e
  rw [<- List.append_cancel_left e]
  exact List.mem_append_left _ z
end
def Ab (K : PySem.W.Frag) (A μ : List Addr) (δ : DSt) (h : Cells) (σ : L2.St) (H : Hp) : Prop := HeapRep K A μ h H /\ EnvRep K A μ H δ σ
def up (K : PySem.W.Frag) (t : DTE) : TE := fun σ H Q => ∃ (δ : DSt) (h : Cells) (A μ : List Addr) (k : DK), Ab K A μ δ h σ H /\ t δ h k /\
 ∀ w h' v H' A' μ', k w h' -> Ext A A' μ μ' H H' -> HeapRep K A' μ' h' H' -> RepW K A' μ' H' w v -> Q v H'
def upT (K : PySem.W.Frag) (t : DTT) : TT := fun σ H Q => ∃ (δ : DSt) (h : Cells) (A μ : List Addr) (k : Bool -> Cells -> Prop), Ab K A μ δ h σ H /\ t δ h k /\
 ∀ b h' H' A' μ', k b h' -> Ext A A' μ μ' H H' -> HeapRep K A' μ' h' H' -> Q b H'
def RepWs (K : PySem.W.Frag) (A μ : List Addr) (H : Hp) : List W -> List V -> Prop
 | [], vs => vs = []
 | w :: ws, vs => ∃ v r, vs = v :: r /\ RepW K A μ H w v /\ RepWs K A μ H ws r
def upA (K : PySem.W.Frag) (t : DTA) : TA := fun σ H Q => ∃ (δ : DSt) (h : Cells) (A μ : List Addr) (k : List W -> Cells -> Prop), Ab K A μ δ h σ H /\ t δ h k /\
 ∀ ws h' vs H' A' μ', k ws h' -> Ext A A' μ μ' H H' -> HeapRep K A' μ' h' H' -> RepWs K A' μ' H' ws vs -> Q vs H'
def upF (K : PySem.W.Frag) (t : DTF) : TE := fun σ H Q => ∃ (δ : DSt) (h : Cells) (A μ : List Addr) (k : List PyData -> Cells -> Prop), Ab K A μ δ h σ H /\ t δ h k /\
 ∀ xs h' a H' A' μ', k xs h' -> Ext A A' μ (μ' ++ [a]) H H' -> (∃ ν, μ' = μ ++ ν) -> H a = none -> HeapRep K A' (μ' ++ [a]) (h' ++ [(Cell.l xs)]) H' -> Q (.ref a) H'
def DE (X : Cx) (e : Expr) (t : DTE) : Prop := PE X e (up X.K t)
def DT (X : Cx) (e : Expr) (t : DTT) : Prop := PT X e (upT X.K t)
def DW (X : Cx) (e : Expr) (t : DTT) : Prop := PW X e (upT X.K t)
def DA (X : Cx) (es : List Expr) (t : DTA) : Prop := PA X es (upA X.K t)
def DF (X : Cx) (e : Expr) (t : DTF) : Prop := PE X e (upF X.K t)
theorem pe_mono {X : Cx} {e : Expr} {t t' : TE} (h : PE X e t) (m : ∀ σ H Q, t' σ H Q -> t σ H Q) : PE X e t' := fun pins s σ H Q I q => h pins s σ H Q I (m σ H Q q)
theorem pt_mono {X : Cx} {e : Expr} {t t' : TT} (h : PT X e t) (m : ∀ σ H Q, t' σ H Q -> t σ H Q) : PT X e t' := fun pins s σ H Q I q => h pins s σ H Q I (m σ H Q q)
theorem pw_mono {X : Cx} {e : Expr} {t t' : TT} (h : PW X e t) (m : ∀ σ H Q, t' σ H Q -> t σ H Q) : PW X e t' := fun wh pins s σ H Q I q => h wh pins s σ H Q I (m σ H Q q)
theorem pa_mono {X : Cx} {e : List Expr} {t t' : TA} (h : PA X e t) (m : ∀ σ H Q, t' σ H Q -> t σ H Q) : PA X e t' := fun pos pins s σ H Q I q => h pos pins s σ H Q I (m σ H Q q)
theorem ps_mono {X : Cx} {e : Stmt} {t t' : TS} (h : PS X e t) (m : ∀ D σ H, t' D σ H -> t D σ H) : PS X e t' := fun pins s σ H D I q => h pins s σ H D I (m D σ H q)
theorem pss_mono {X : Cx} {e : List Stmt} {t t' : TS} (h : PSs X e t) (m : ∀ D σ H, t' D σ H -> t D σ H) : PSs X e t' := fun pins s σ H D I q => h pins s σ H D I (m D σ H q)
section
variable {X : Cx} {a b e : Expr} {es : List Expr} {pos : Pos} {ta tb te : DTE} {tc tA tB : DTT} {t : DTA} {tf tg : DTF}
def dVar (i : Nat) : DTE := fun δ h Q => match δ[i]? with
 | some (some w) => Q w h
 | _ => False
theorem dv (i : Nat) {x : Str} (hN : X.N[i]? = some x := by rfl) (hv : Vis X.env.scope x := by first | exact Or.inl rfl | exact Or.inr (Or.inl rfl) | exact Or.inr (Or.inr rfl)) (hd : (x == ("__debug__" : Str)) = false := by decide)
  (hcd : (x == ("__classdict__" : Str)) = false := by decide) : DE X (.Name x pos) (dVar i) := pe_mono (pe_var hN hv hd hcd) fun σ H Q h => by
 obtain ⟨δ, h, A, μ, k, ⟨R, E⟩, q, c⟩ := h
 unfold dVar at q
 cases e1 : δ[i]? with
 | none => rw [e1] at q; exact q.elim
 | some o =>
  rw [e1] at q
  cases o with
  | none => exact q.elim
  | some w =>
   obtain ⟨v, e2, r⟩ := E.val i w e1
   exact ⟨v, e2, c w h v H A μ q .refl R r⟩
def dC (x : PyData) : DTE := fun _ h Q => Q (.d x) h
theorem up_const {x : PyData} {v : V} (r : ∀ A H, Rep X.K A H x v) (he : PE X e (tC v)) : DE X e (dC x) := pe_mono he fun σ H Q h => by
 obtain ⟨δ, h, A, μ, k, ⟨R, E⟩, q, c⟩ := h
 exact c _ h v H A μ q .refl R (r A H)
theorem de_int {i : Int} {j} : DE X (.Constant (.int i) j pos) (dC (.int i)) := up_const (fun _ _ => by rw [Rep]) pe_int
theorem de_bl {b : Bool} {j} : DE X (.Constant (.bool b) j pos) (dC (.bool b)) := up_const (fun _ _ => by rw [Rep]) pe_bl
theorem de_non {j} : DE X (.Constant .none j pos) (dC .none) := up_const (fun _ _ => by rw [Rep]) pe_non
theorem de_str {x : Str} {j} (hx : PyData.strOk x = true := by decide +kernel) : DE X (.Constant (.str x) j pos) (dC (.str x)) := up_const (fun _ _ => by rw [Rep]; exact ⟨rfl, hx⟩) pe_str
theorem de_glob {x : Str} {v : V} {u : Value} {d : PyData} (hm : X.mg x = some u) (rv : RelV v u) (r : ∀ A H, Rep X.K A H d v) (hg : Gl X x := by rfl) (hd : (x == ("__debug__" : Str)) = false := by decide) : DE X (.Name x pos) (dC d) :=
 up_const r (pe_glob hg hm rv hd)
def dFrz (t : DTF) : DTE := fun δ h Q => t δ h fun xs h1 => Q (.d (.list xs)) h1
def dCel (t : DTF) : DTE := fun δ h Q => t δ h fun xs h1 => Q (.c h1.length) (h1 ++ [(Cell.l xs)])
theorem de_frz (h : DF X e tf) : DE X e (dFrz tf) := pe_mono h fun σ H Q q => by
 obtain ⟨δ, h, A, μ, k, R, q, c⟩ := q
 refine ⟨δ, h, A, μ, _, R, q, fun xs h' p H' A' μ' kk x hm hp R' => ?_⟩
 obtain ⟨R1, r1⟩ := heap_freeze R'
 exact c _ h' _ H' _ μ' kk (ext_freeze R.1 hp x hm) R1 r1
theorem de_cel (h : DF X e tf) : DE X e (dCel tf) := pe_mono h fun σ H Q q => by
 obtain ⟨δ, h, A, μ, k, R, q, c⟩ := q
 refine ⟨δ, h, A, μ, _, R, q, fun xs h' p H' A' μ' kk x hm hp R' => ?_⟩
 have hl : μ'.length = h'.length := by simpa using R'.len
 exact c _ _ _ H' A' (μ' ++ [p]) kk x R' ⟨p, by rw [<- hl]; simp, rfl⟩
def dNil : DTA := fun _ h Q => Q [] h
def dCons (te : DTE) (t : DTA) : DTA := fun δ h Q => te δ h fun w h1 => t δ h1 fun ws h2 => Q (w :: ws) h2
theorem da_nil : DA X [] dNil := pa_mono pa_nil fun σ H Q q => by
 obtain ⟨δ, h, A, μ, k, R, q, c⟩ := q
 exact c [] h [] H A μ q .refl R.1 rfl
theorem da_cons (ha : DE X e te) (hr : DA X es t) (hs : starEach (e :: es) X.env = (false, eval e X.env) :: starEach es X.env := by rfl) : DA X (e :: es) (dCons te t) := pa_mono (pa_cons ha hr hs) fun σ H Q q => by
 obtain ⟨δ, h, A, μ, k, R, q, c⟩ := q
 refine ⟨δ, h, A, μ, _, R, q, fun w h1 v H1 A1 μ1 q1 x1 R1 r1 => ?_⟩
 refine ⟨δ, h1, A1, μ1, _, ⟨R1, R.2.ext x1 R.1.sub⟩, q1, fun ws h2 vs H2 A2 μ2 q2 x2 R2 r2 => ?_⟩
 exact c _ h2 _ H2 A2 μ2 q2 (x1.trans x2) R2 ⟨v, vs, rfl, r1.ext x2 R1.sub, r2⟩
def plains : List W -> Option (List PyData)
 | [] => some []
 | .d x :: r => (plains r).map (x :: ·)
 | .c _ :: _ => none
 | .v _ :: _ => none
theorem plains_reps {K : PySem.W.Frag} {A μ : List Addr} {H : Hp} : ∀ {ws : List W} {xs : List PyData} {vs : List V}, plains ws = some xs -> RepWs K A μ H ws vs -> Reps K A H xs vs
 | [], _, _, e, h => by cases e; subst h; exact .nil
 | .c _ :: _, _, _, e, _ => by cases e
 | .v _ :: _, _, _, e, _ => by cases e
 | .d x :: r, xs, _, e, h => by
  obtain ⟨v, vs, rfl, h1, h2⟩ := h
  unfold plains at e
  cases q : plains r with
  | none => rw [q] at e; cases e
  | some ys =>
   rw [q] at e
   have e' : x :: ys = xs := Option.some.inj e
   subst e'
   exact .cons h1 (plains_reps q h2)
def dTup (t : DTA) : DTE := fun δ h Q => t δ h fun ws h1 => match plains ws with
 | some xs => xs.length <= sizeLine /\ Q (.d (.tuple xs)) h1
 | none => False
def dLst (t : DTA) : DTF := fun δ h Q => t δ h fun ws h1 => match plains ws with
 | some xs => xs.length <= sizeLine /\ Q xs h1
 | none => False
theorem de_tup {k} (h : DA X es t) : DE X (.Tuple es k pos) (dTup t) := pe_mono (pe_tup h) fun σ H Q q => by
 obtain ⟨δ, h, A, μ, k, R, q, c⟩ := q
 refine ⟨δ, h, A, μ, _, R, q, fun ws h1 vs H1 A1 μ1 q1 x1 R1 r1 => ?_⟩
 cases e : plains ws with
 | none => rw [e] at q1; exact q1.elim
 | some xs =>
  rw [e] at q1
  have rr := plains_reps e r1
  refine ⟨by rw [rr.length]; exact q1.1, fun p hp => ?_⟩
  exact c _ h1 _ _ A1 μ1 q1.2 (x1.trans (ext_fresh hp)) (R1.fresh hp) (rep_tuple R1 hp rr)
theorem df_lst (h : DA X es t) : DF X (.List es pos) (dLst t) := pe_mono (pe_lst h) fun σ H Q q => by
 obtain ⟨δ, h, A, μ, k, R, q, c⟩ := q
 refine ⟨δ, h, A, μ, _, R, q, fun ws h1 vs H1 A1 μ1 q1 x1 R1 r1 => ?_⟩
 cases e : plains ws with
 | none => rw [e] at q1; exact q1.elim
 | some xs =>
  rw [e] at q1
  have rr := plains_reps e r1
  refine ⟨by rw [rr.length]; exact q1.1, fun p hp => ?_⟩
  obtain ⟨ν, e1, _⟩ := x1.pre
  exact c xs h1 p _ (p :: A1) μ1 q1.2 (x1.trans (ext_cell hp)) ⟨ν, e1⟩ (x1.back hp) (heap_cell R1 hp rr)
abbrev D2 := W -> W -> Cells -> DK -> Prop
def upR (K : PySem.W.Frag) (r : D2) : R2 := fun x y H Q => ∃ (u w : W) (h : Cells) (A μ : List Addr) (k : DK), HeapRep K A μ h H /\ RepW K A μ H u x /\ RepW K A μ H w y /\ r u w h k /\
 ∀ w h' v H' A' μ', k w h' -> Ext A A' μ μ' H H' -> HeapRep K A' μ' h' H' -> RepW K A' μ' H' w v -> Q v H'
def dOp (r : D2) (ta tb : DTE) : DTE := fun δ h Q => ta δ h fun x h1 => tb δ h1 fun y h2 => r x y h2 Q
theorem up_op {K : PySem.W.Frag} {r : D2} {σ : L2.St} {H : Hp} {Q : VK} (q : up K (dOp r ta tb) σ H Q) : tOp (upR K r) (up K ta) (up K tb) σ H Q := by
 obtain ⟨δ, h, A, μ, k, R, q, c⟩ := q
 refine ⟨δ, h, A, μ, _, R, q, fun u h1 v H1 A1 μ1 q1 x1 R1 r1 => ?_⟩
 refine ⟨δ, h1, A1, μ1, _, ⟨R1, R.2.ext x1 R.1.sub⟩, q1, fun w h2 v2 H2 A2 μ2 q2 x2 R2 r2 => ?_⟩
 exact ⟨u, w, h2, A2, μ2, k, R2, r1.ext x2 R1.sub, r2, q2, fun z h3 v3 H3 A3 μ3 q3 x3 R3 r3 => c z h3 v3 H3 A3 μ3 q3 ((x1.trans x2).trans x3) R3 r3⟩
theorem de_op {op : Operator} {r : D2} (ho : OpR X (binaryOp op) (upR X.K r)) (ha : DE X a ta) (hb : DE X b tb) : DE X (.BinOp a op b pos) (dOp r ta tb) := pe_mono (pe_op ho ha hb) fun _ _ _ q => up_op q
theorem de_cmp {op : CmpOp} {r : D2} (ho : OpR X (compareOp op) (upR X.K r)) (ha : DE X a ta) (hb : DE X b tb) (hm : behindInMarks op b = false := by first | exact nobehind _ (by decide) (by decide) | rfl) : DE X (.Compare a [op] [b] pos) (dOp r ta tb) :=
 pe_mono (pe_cmpR ho ha hb hm) fun _ _ _ q => up_op q
def dB (t : DTE) : DTT := fun δ h Q => t δ h fun w h1 => match w with
 | .d (.bool b) => Q b h1
 | _ => False
theorem up_bool {K : PySem.W.Frag} {σ : L2.St} {H : Hp} {Q : Bool -> Hp -> Prop} {t : DTE} (q : upT K (dB t) σ H Q) : up K t σ H fun x H' => ∃ c, x = .bl c /\ Q c H' := by
 obtain ⟨δ, h, A, μ, k, R, q, c⟩ := q
 refine ⟨δ, h, A, μ, _, R, q, fun w h1 v H1 A1 μ1 q1 x1 R1 r1 => ?_⟩
 cases w with
 | c i => exact q1.elim
 | v u => exact q1.elim
 | d x =>
  cases x with
  | bool b =>
   have e : v = .bl b := by
    have z : Rep K A1 H1 (.bool b) v := r1
    rw [Rep] at z; exact z
   exact ⟨b, e, c b h1 H1 A1 μ1 q1 x1 R1⟩
  | _ => exact q1.elim
theorem dt_val (h : DE X e te) (he : ∀ whole, isTrue e X.env whole = (do let v <- whole; standAt e.pos; holding [v] (truthy v)) := by intro _; rfl) : DT X e (dB te) := pt_mono (pt_val h he) fun _ _ _ q => up_bool q
theorem dt_cmp {op : CmpOp} {r : D2} (ho : OpR X (compareOp op) (upR X.K r)) (ha : DE X a ta) (hb : DE X b tb) (hm : behindInMarks op b = false := by first | exact nobehind _ (by decide) (by decide) | rfl) : DT X (.Compare a [op] [b] pos) (dB (dOp r ta tb)) :=
 pt_mono (pt_cmpR ho ha hb hm) fun σ H Q q => by
  obtain ⟨δ, h, A, μ, k, R, q1, c⟩ := up_bool q
  exact up_op ⟨δ, h, A, μ, k, R, q1, c⟩
def dNot (t : DTT) : DTT := fun δ h Q => t δ h fun b h1 => Q (!b) h1
def dAnd (t u : DTT) : DTT := fun δ h Q => t δ h fun b h1 => if b = true then u δ h1 Q else Q false h1
def dOr (t u : DTT) : DTT := fun δ h Q => t δ h fun b h1 => if b = true then Q true h1 else u δ h1 Q
theorem dt_not (h : DT X e tc) : DT X (.UnaryOp .Not e pos) (dNot tc) := pt_mono (pt_not h) fun σ H Q q => by
 obtain ⟨δ, h, A, μ, k, R, q, c⟩ := q
 exact ⟨δ, h, A, μ, _, R, q, fun b h' H' A' μ' k' => c (!b) h' H' A' μ' k'⟩
theorem DW.dt (h : DW X e tc) : DT X e tc := h _
theorem dw_and1 (h : DT X a tc) : DW X (.BoolOp .And [a] pos) tc := pw_and1 h
theorem dw_or1 (h : DT X a tc) : DW X (.BoolOp .Or [a] pos) tc := pw_or1 h
theorem dw_and (ha : DT X a tA) (hb : DW X (.BoolOp .And (b :: es) pos) tB) : DW X (.BoolOp .And (a :: b :: es) pos) (dAnd tA tB) := pw_mono (pw_and ha hb) fun σ H Q q => by
 obtain ⟨δ, h, A, μ, k, R, q, c⟩ := q
 refine ⟨δ, h, A, μ, _, R, q, fun b h1 H1 A1 μ1 q1 x1 R1 => ?_⟩
 cases b with
 | true =>
  rw [if_pos rfl] at q1
  rw [if_pos rfl]
  exact ⟨δ, h1, A1, μ1, k, ⟨R1, R.2.ext x1 R.1.sub⟩, q1, fun b h2 H2 A2 μ2 q2 x2 R2 => c b h2 H2 A2 μ2 q2 (x1.trans x2) R2⟩
 | false =>
  rw [if_neg Bool.false_ne_true] at q1
  rw [if_neg Bool.false_ne_true]
  exact c false h1 H1 A1 μ1 q1 x1 R1
theorem dw_or (ha : DT X a tA) (hb : DW X (.BoolOp .Or (b :: es) pos) tB) : DW X (.BoolOp .Or (a :: b :: es) pos) (dOr tA tB) := pw_mono (pw_or ha hb) fun σ H Q q => by
 obtain ⟨δ, h, A, μ, k, R, q, c⟩ := q
 refine ⟨δ, h, A, μ, _, R, q, fun b h1 H1 A1 μ1 q1 x1 R1 => ?_⟩
 cases b with
 | false =>
  rw [if_neg Bool.false_ne_true] at q1
  rw [if_neg Bool.false_ne_true]
  exact ⟨δ, h1, A1, μ1, k, ⟨R1, R.2.ext x1 R.1.sub⟩, q1, fun b h2 H2 A2 μ2 q2 x2 R2 => c b h2 H2 A2 μ2 q2 (x1.trans x2) R2⟩
 | true =>
  rw [if_pos rfl] at q1
  rw [if_pos rfl]
  exact c true h1 H1 A1 μ1 q1 x1 R1
def dAndV (ta tb : DTE) : DTE := fun δ h Q => ta δ h fun w h1 => match w with
 | .d (.bool b) => if b = true then tb δ h1 Q else Q (.d (.bool false)) h1
 | _ => False
def dOrV (ta tb : DTE) : DTE := fun δ h Q => ta δ h fun w h1 => match w with
 | .d (.bool b) => if b = true then Q (.d (.bool true)) h1 else tb δ h1 Q
 | _ => False
def dNotV (ta : DTE) : DTE := fun δ h Q => ta δ h fun w h1 => match w with
 | .d (.bool b) => Q (.d (.bool (!b))) h1
 | _ => False
theorem repW_bool {K : PySem.W.Frag} {A μ : List Addr} {H : Hp} {b : Bool} {v : V} (r : RepW K A μ H (.d (.bool b)) v) : v = .bl b := by
 have z : Rep K A H (.bool b) v := r
 rw [Rep] at z; exact z
theorem repW_bl {K : PySem.W.Frag} {A μ : List Addr} {H : Hp} {b : Bool} : RepW K A μ H (.d (.bool b)) (.bl b) := by
 show Rep K A H (.bool b) (.bl b)
 rw [Rep]
theorem repW_int {K : PySem.W.Frag} {A μ : List Addr} {H : Hp} {b : Int} {v : V} (r : RepW K A μ H (.d (.int b)) v) : v = .int b := by
 have z : Rep K A H (.int b) v := r
 rw [Rep] at z; exact z
theorem repW_i {K : PySem.W.Frag} {A μ : List Addr} {H : Hp} {b : Int} : RepW K A μ H (.d (.int b)) (.int b) := by
 show Rep K A H (.int b) (.int b)
 rw [Rep]
theorem de_one {op} (h : DE X a te) : DE X (.BoolOp op [a] pos) te := pe_one h
theorem de_and (ha : DE X a ta) (hb : DE X (.BoolOp .And (b :: es) pos) tb) : DE X (.BoolOp .And (a :: b :: es) pos) (dAndV ta tb) := pe_mono (pe_and ha hb) fun σ H Q q => by
 obtain ⟨δ, h, A, μ, k, R, q, c⟩ := q
 refine ⟨δ, h, A, μ, _, R, q, fun w h1 v H1 A1 μ1 q1 x1 R1 r1 => ?_⟩
 cases w with
 | c i => exact q1.elim
 | v u => exact q1.elim
 | d x =>
  cases x with
  | bool b =>
   refine ⟨b, repW_bool r1, ?_⟩
   cases b with
   | true => exact ⟨δ, h1, A1, μ1, k, ⟨R1, R.2.ext x1 R.1.sub⟩, q1, fun w h2 v H2 A2 μ2 q2 x2 R2 r2 => c w h2 v H2 A2 μ2 q2 (x1.trans x2) R2 r2⟩
   | false => exact c _ h1 _ H1 A1 μ1 q1 x1 R1 repW_bl
  | _ => exact q1.elim
theorem de_or (ha : DE X a ta) (hb : DE X (.BoolOp .Or (b :: es) pos) tb) : DE X (.BoolOp .Or (a :: b :: es) pos) (dOrV ta tb) := pe_mono (pe_or ha hb) fun σ H Q q => by
 obtain ⟨δ, h, A, μ, k, R, q, c⟩ := q
 refine ⟨δ, h, A, μ, _, R, q, fun w h1 v H1 A1 μ1 q1 x1 R1 r1 => ?_⟩
 cases w with
 | c i => exact q1.elim
 | v u => exact q1.elim
 | d x =>
  cases x with
  | bool b =>
   refine ⟨b, repW_bool r1, ?_⟩
   cases b with
   | false => exact ⟨δ, h1, A1, μ1, k, ⟨R1, R.2.ext x1 R.1.sub⟩, q1, fun w h2 v H2 A2 μ2 q2 x2 R2 r2 => c w h2 v H2 A2 μ2 q2 (x1.trans x2) R2 r2⟩
   | true => exact c _ h1 _ H1 A1 μ1 q1 x1 R1 repW_bl
  | _ => exact q1.elim
theorem de_not (ha : DE X a ta) : DE X (.UnaryOp .Not a pos) (dNotV ta) := pe_mono (pe_not ha) fun σ H Q q => by
 obtain ⟨δ, h, A, μ, k, R, q, c⟩ := q
 refine ⟨δ, h, A, μ, _, R, q, fun w h1 v H1 A1 μ1 q1 x1 R1 r1 => ?_⟩
 cases w with
 | c i => exact q1.elim
 | v u => exact q1.elim
 | d x =>
  cases x with
  | bool b => exact ⟨b, repW_bool r1, c _ h1 _ H1 A1 μ1 q1 x1 R1 repW_bl⟩
  | _ => exact q1.elim
def dIf (t : DTT) (ta tb : DTE) : DTE := fun δ h Q => t δ h fun b h1 => if b = true then ta δ h1 Q else tb δ h1 Q
theorem de_ifExp {c : Expr} (hc : DT X c tc) (ha : DE X a ta) (hb : DE X b tb) : DE X (.IfExp c a b pos) (dIf tc ta tb) := pe_mono (pe_ifExp hc ha hb) fun σ H Q q => by
 obtain ⟨δ, h, A, μ, k, R, q, c⟩ := q
 refine ⟨δ, h, A, μ, _, R, q, fun b h1 H1 A1 μ1 q1 x1 R1 => ?_⟩
 cases b with
 | true => exact ⟨δ, h1, A1, μ1, k, ⟨R1, R.2.ext x1 R.1.sub⟩, q1, fun w h2 v H2 A2 μ2 q2 x2 R2 r2 => c w h2 v H2 A2 μ2 q2 (x1.trans x2) R2 r2⟩
 | false => exact ⟨δ, h1, A1, μ1, k, ⟨R1, R.2.ext x1 R.1.sub⟩, q1, fun w h2 v H2 A2 μ2 q2 x2 R2 r2 => c w h2 v H2 A2 μ2 q2 (x1.trans x2) R2 r2⟩
end
end DL
namespace DL
open PySem PySem.Spec PyProof.Rows L2
def ref (h : Cells) : W -> Option PyData
 | .d x => some x
 | .c i => match h[i]? with
  | some (.l xs) => some (.list xs)
  | some (.k kvs) => some (.dict kvs)
  | _ => none
 | .v _ => none
mutual
def See (K : PySem.W.Frag) (H : Hp) : PyData -> V -> Prop
 | .none, v => v = .non
 | .bool b, v => v = .bl b
 | .int i, v => v = .int i
 | .str x, v => v = .str x
 | .list xs, v => ∃ a vs, v = .ref a /\ SqL K H a vs /\ Sees K H xs vs
 | .tuple xs, v => ∃ a vs, v = .ref a /\ SqT K H a vs /\ Sees K H xs vs
 | .dict _, _ => True
def Sees (K : PySem.W.Frag) (H : Hp) : List PyData -> List V -> Prop
 | [], vs => vs = []
 | x :: xs, vs => ∃ v r, vs = v :: r /\ See K H x v /\ Sees K H xs r
end
mutual
theorem Rep.see {K : PySem.W.Frag} {A : List Addr} {H : Hp} : ∀ {d : PyData} {v : V}, Rep K A H d v -> See K H d v
 | .none, _, h => by rw [Rep] at h; rw [See]; exact h
 | .bool _, _, h => by rw [Rep] at h; rw [See]; exact h
 | .int _, _, h => by rw [Rep] at h; rw [See]; exact h
 | .str _, _, h => by rw [Rep] at h; rw [See]; exact h.1
 | .list xs, _, h => by
  rw [Rep] at h; rw [See]
  obtain ⟨a, vs, e, h1, h2⟩ := h
  exact ⟨a, vs, e, h1.sq, Reps.sees h2⟩
 | .tuple xs, _, h => by
  rw [Rep] at h; rw [See]
  obtain ⟨a, vs, e, h1, h2⟩ := h
  exact ⟨a, vs, e, h1.sq, Reps.sees h2⟩
 | .dict _, _, _ => by rw [See]; trivial
theorem Reps.sees {K : PySem.W.Frag} {A : List Addr} {H : Hp} : ∀ {d : List PyData} {v : List V}, Reps K A H d v -> Sees K H d v
 | [], _, h => by rw [Reps] at h; rw [Sees]; exact h
 | x :: xs, _, h => by
  rw [Reps] at h; rw [Sees]
  obtain ⟨v, r, e, h1, h2⟩ := h
  exact ⟨v, r, e, Rep.see h1, Reps.sees h2⟩
end
mutual
theorem See.reads {X : Cx} {pins : List (Addr × Obj)} {σ : L2.St} {H : Hp} {s : Shared} (I : Inv X pins σ H s) : ∀ {d : PyData} {v : V} {u : Value}, See X.K H d v -> d.canLay0 = true -> RelV v u -> ∃ as, Reads s.heap u d as
 | .none, _, _, h, _, r => by rw [See] at h; subst h; cases r; exact ⟨_, Reads.none⟩
 | .bool _, _, _, h, _, r => by rw [See] at h; subst h; cases r; exact ⟨_, Reads.bool _⟩
 | .int _, _, _, h, _, r => by rw [See] at h; subst h; obtain ⟨t, rfl⟩ := r; exact ⟨_, Reads.int _ _⟩
 | .str _, _, _, h, _, r => by rw [See] at h; subst h; obtain ⟨t, rfl⟩ := r; exact ⟨_, Reads.str _ _⟩
 | .list xs, _, _, h, c, r => by
  rw [See] at h
  obtain ⟨a, vs, rfl, h1, h2⟩ := h
  cases r
  obtain ⟨its, rv, ⟨o, n, ho, hc, _, hd⟩, _⟩ := I.list h1
  rw [PyData.canLay0] at c
  obtain ⟨as, z⟩ := Sees.reads I h2 c rv
  exact ⟨_, Reads.list ho hc hd (by simpa using z)⟩
 | .tuple xs, _, _, h, c, r => by
  rw [See] at h
  obtain ⟨a, vs, rfl, h1, h2⟩ := h
  cases r
  obtain ⟨its, rv, ⟨o, ho, hc, n, hd⟩, _⟩ := I.tuple h1
  rw [PyData.canLay0] at c
  obtain ⟨as, z⟩ := Sees.reads I h2 c rv
  exact ⟨_, Reads.tuple ho hc hd (by simpa using z)⟩
 | .dict _, _, _, _, c, _ => by rw [PyData.canLay0] at c; cases c
theorem Sees.reads {X : Cx} {pins : List (Addr × Obj)} {σ : L2.St} {H : Hp} {s : Shared} (I : Inv X pins σ H s) : ∀ {d : List PyData} {v : List V} {u : List Value}, Sees X.K H d v -> PyData.canLayAll0 d = true -> Vals v u -> ∃ as, ReadsAll s.heap u d as
 | [], _, _, h, _, r => by rw [Sees] at h; subst h; cases r; exact ⟨_, ReadsAll.nil⟩
 | x :: xs, _, _, h, c, r => by
  rw [Sees] at h
  obtain ⟨v, rr, rfl, h1, h2⟩ := h
  rw [PyData.canLayAll0, Bool.and_eq_true] at c
  cases r with
  | cons r1 r2 =>
   obtain ⟨as, z1⟩ := See.reads I h1 c.1 r1
   obtain ⟨bs, z2⟩ := Sees.reads I h2 c.2 r2
   exact ⟨_, ReadsAll.cons z1 z2⟩
end
theorem ref_see {K : PySem.W.Frag} {A μ : List Addr} {H : Hp} {h : Cells} {w : W} {v : V} {d : PyData} (R : HeapRep K A μ h H) (r : RepW K A μ H w v) (e : ref h w = some d) : See K H d v := by
 cases w with
 | d x => cases e; exact Rep.see r
 | v u => cases e
 | c i =>
  obtain ⟨a, e1, rfl⟩ := r
  dsimp only [DL.ref] at e
  cases q : h[i]? with
  | none => rw [q] at e; cases e
  | some cc =>
   cases cc with
   | t _ _ _ => rw [q] at e; cases e
   | l xs =>
    rw [q] at e
    cases e
    obtain ⟨vs, z1, z2⟩ := R.val i a xs e1 q
    rw [See]
    exact ⟨a, vs, rfl, .inl (.inl z1), z2.sees⟩
   | k kvs =>
    rw [q] at e
    cases e
    rw [See]; trivial
theorem ref_list {K : PySem.W.Frag} {A μ : List Addr} {H : Hp} {h : Cells} {w : W} {v : V} {xs : List PyData} (R : HeapRep K A μ h H) (r : RepW K A μ H w v) (e : ref h w = some (.list xs)) : ∃ a vs, v = .ref a /\ SqL K H a vs /\ Reps K A H xs vs := by
 cases w with
 | d x =>
  cases e
  have z : Rep K A H (.list xs) v := r
  rw [Rep] at z
  obtain ⟨a, vs, e, h1, h2⟩ := z
  exact ⟨a, vs, e, h1.sq, h2⟩
 | v u => cases e
 | c i =>
  obtain ⟨a, e1, rfl⟩ := r
  dsimp only [DL.ref] at e
  cases q : h[i]? with
  | none => rw [q] at e; cases e
  | some cc =>
   cases cc with
   | t _ _ _ => rw [q] at e; cases e
   | l ys =>
    rw [q] at e
    cases e
    obtain ⟨vs, z1, z2⟩ := R.val i a xs e1 q
    exact ⟨a, vs, rfl, .inl (.inl z1), z2⟩
   | k kvs => rw [q] at e; cases e
theorem ref_tuple {K : PySem.W.Frag} {A μ : List Addr} {H : Hp} {h : Cells} {w : W} {v : V} {xs : List PyData} (r : RepW K A μ H w v) (e : ref h w = some (.tuple xs)) : ∃ a vs, v = .ref a /\ TupAt K A H a vs /\ Reps K A H xs vs := by
 cases w with
 | d x =>
  cases e
  have z : Rep K A H (.tuple xs) v := r
  rw [Rep] at z
  exact z
 | v u => cases e
 | c i =>
  dsimp only [DL.ref] at e
  cases q : h[i]? with
  | none => rw [q] at e; cases e
  | some cc =>
   cases cc with
   | t _ _ _ => rw [q] at e; cases e
   | l ys => rw [q] at e; cases e
   | k ys => rw [q] at e; cases e
def dAdd : D2
 | .d (.int i), .d (.int j), h, Q => Q (.d (.int (i + j))) h
 | .d (.tuple xs), .d (.tuple ys), h, Q => xs.length + ys.length <= sizeLine /\ Q (.d (.tuple (xs ++ ys))) h
 | _, _, _, _ => False
def dSub : D2
 | .d (.int i), .d (.int j), h, Q => Q (.d (.int (i - j))) h
 | _, _, _, _ => False
def dMul : D2
 | .d (.int i), .d (.int j), h, Q => CMul i j /\ Q (.d (.int (i * j))) h
 | _, _, _, _ => False
def dMod : D2
 | .d (.int i), .d (.int j), h, Q => 0 < j /\ Q (.d (.int (i % j))) h
 | _, _, _, _ => False
def dPow : D2
 | .d (.int i), .d (.int j), h, Q => CPow i j /\ Q (.d (.int (i ^ j.toNat))) h
 | _, _, _, _ => False
def dCmpI (p : Int -> Int -> Bool) : D2
 | .d (.int i), .d (.int j), h, Q => Q (.d (.bool (p i j))) h
 | _, _, _, _ => False
def dEq : D2 := fun x y h Q => match ref h x, ref h y with
 | some a, some b => SeqAt.shaped a = true /\ SeqAt.shaped b = true /\ Q (.d (.bool (PyData.eqv a b))) h
 | _, _ => False
def dNe : D2 := fun x y h Q => match ref h x, ref h y with
 | some a, some b => SeqAt.shaped a = true /\ SeqAt.shaped b = true /\ Q (.d (.bool (!PyData.eqv a b))) h
 | _, _ => False
section
variable {X : Cx}
theorem int_op {op : Value -> Value -> Sem Value} {f : Int -> Int -> PyData} {g : Int -> Int -> V} {C : Int -> Int -> Prop} {r : D2} (ho : OpR X op (rI C g)) (hf : ∀ i j A H, Rep X.K A H (f i j) (g i j))
  (hr : ∀ u w h k, r u w h k -> ∃ i j, u = .d (.int i) /\ w = .d (.int j) /\ C i j /\ k (.d (f i j)) h) : OpR X op (upR X.K r) := by
 intro pins s σ H x y v u Q I rx ry h
 obtain ⟨a, b, h, A, μ, k, R, ra, rb, q, c⟩ := h
 obtain ⟨i, j, rfl, rfl, hc, q⟩ := hr _ _ _ _ q
 have ea := repW_int ra
 have eb := repW_int rb
 subst ea eb
 exact ho pins s σ H _ _ v u Q I rx ry ⟨i, j, rfl, rfl, hc, c _ _ _ _ _ _ q .refl R (hf i j A H)⟩
theorem OpR.i0 {op : Value -> Value -> Sem Value} {g : Int -> Int -> V} (ho : OpR X op (rI0 g)) : OpR X op (rI (fun _ _ => True) g) := fun pins s σ H x y v u Q I rx ry ⟨i, j, e1, e2, _, q⟩ => ho pins s σ H x y v u Q I rx ry ⟨i, j, e1, e2, q⟩
theorem repI {K : PySem.W.Frag} {A : List Addr} {H : Hp} {i : Int} : Rep K A H (.int i) (.int i) := by rw [Rep]
theorem repB {K : PySem.W.Frag} {A : List Addr} {H : Hp} {i : Bool} : Rep K A H (.bool i) (.bl i) := by rw [Rep]
theorem op_catT0 : OpR X (binaryOp .Add) (fun x y H Q => ∃ a b ys, x = .ref a /\ y = .ref b /\ SqT X.K H a [] /\ SqT X.K H b ys /\ Q (.ref b) H) := by
 intro pins s σ H x y v u Q I rx ry h
 obtain ⟨a, b, ys, rfl, rfl, ha, hb, q⟩ := h
 cases rx
 cases ry
 obtain ⟨its, r1, p1, _⟩ := I.tuple ha
 obtain ⟨its2, r2, p2, _⟩ := I.tuple hb
 have e0 : its = [] := by cases r1; rfl
 subst e0
 obtain ⟨⟨cls, dd, data, sl⟩, ho, hc, n, hd⟩ := id p1
 obtain ⟨⟨cls2, dd2, data2, sl2⟩, ho2, hc2, n2, hd2⟩ := id p2
 simp only at hc hd hc2 hd2
 subst hc hd hc2 hd2
 exact concat_meets ⟨_, ho, rfl⟩ ⟨_, ho2, rfl⟩ noFill_tuple_add seq_tuple_add PySem.F.slot_tuple_add PySem.F.entry_tuple_add (PySem.F.args_tuple_add_2 _ _) (tuple_addW0 a b _ _ n n2 dd dd2 sl sl2 rfl) ⟨ho, ho2, ⟨.ref b, H, I, rfl, q⟩⟩
theorem op_dAdd : OpR X (binaryOp .Add) (upR X.K dAdd) := by
 intro pins s σ H x y v u Q I rx ry h
 obtain ⟨a, b, h, A, μ, k, R, ra, rb, q, c⟩ := h
 unfold dAdd at q
 split at q
 ·have ea := repW_int ra
  have eb := repW_int rb
  subst ea eb
  exact op_add pins s σ H _ _ v u Q I rx ry ⟨_, _, rfl, rfl, c _ _ _ _ _ _ q .refl R repW_i⟩
 ·rename_i xs ys
  obtain ⟨pa, va, rfl, ta, sa⟩ := ref_tuple (h := h) ra rfl
  obtain ⟨pb, vb, rfl, tb, sb⟩ := ref_tuple (h := h) rb rfl
  have la := sa.length
  have lb := sb.length
  have all : Reps X.K A H (xs ++ ys) (va ++ vb) := sb.append sa
  by_cases e1 : va = []
  ·subst e1
   have ex : xs = [] := List.eq_nil_of_length_eq_zero la.symm
   subst ex
   refine op_catT0 pins s σ H _ _ v u Q I rx ry ⟨pa, pb, vb, rfl, rfl, ta.sq, tb.sq, c _ _ _ _ _ _ q.2 .refl R rb⟩
  ·refine op_catT pins s σ H _ _ v u Q I rx ry ⟨pa, pb, va, vb, rfl, rfl, ta.sq, tb.sq, e1, by rw [la, lb]; exact q.1, fun z => ?_, fun _ p hp => ?_⟩
   ·subst z
    have ey : ys = [] := List.eq_nil_of_length_eq_zero lb.symm
    subst ey
    have q2 := q.2
    rw [List.append_nil] at q2
    exact c _ _ _ _ _ _ q2 .refl R ra
   ·exact c _ _ _ _ _ _ q.2 (ext_fresh hp) (R.fresh hp) (rep_tuple R hp all)
 ·exact q.elim
theorem op_dSub : OpR X (binaryOp .Sub) (upR X.K dSub) := int_op (f := fun i j => .int (i - j)) (OpR.i0 op_sub) (fun _ _ _ _ => repI) fun u w h k q => by
 unfold dSub at q
 split at q
 ·exact ⟨_, _, rfl, rfl, trivial, q⟩
 ·exact q.elim
theorem op_dMul : OpR X (binaryOp .Mult) (upR X.K dMul) := int_op (f := fun i j => .int (i * j)) op_mul (fun _ _ _ _ => repI) fun u w h k q => by
 unfold dMul at q
 split at q
 ·exact ⟨_, _, rfl, rfl, q.1, q.2⟩
 ·exact q.elim
theorem op_dMod : OpR X (binaryOp .Mod) (upR X.K dMod) := int_op (f := fun i j => .int (i % j)) op_mod (fun _ _ _ _ => repI) fun u w h k q => by
 unfold dMod at q
 split at q
 ·exact ⟨_, _, rfl, rfl, q.1, q.2⟩
 ·exact q.elim
theorem op_dPow : OpR X (binaryOp .Pow) (upR X.K dPow) := int_op (f := fun i j => .int (i ^ j.toNat)) op_pow (fun _ _ _ _ => repI) fun u w h k q => by
 unfold dPow at q
 split at q
 ·exact ⟨_, _, rfl, rfl, q.1, q.2⟩
 ·exact q.elim
theorem cmpI_of {p : Int -> Int -> Bool} (u w : W) (h : Cells) (k : DK) (q : dCmpI p u w h k) : ∃ i j, u = .d (.int i) /\ w = .d (.int j) /\ True /\ k (.d (.bool (p i j))) h := by
 unfold dCmpI at q
 split at q
 ·exact ⟨_, _, rfl, rfl, trivial, q⟩
 ·exact q.elim
abbrev dLt := dCmpI fun i j => decide (i < j)
abbrev dLe := dCmpI fun i j => decide (i <= j)
abbrev dGt := dCmpI fun i j => decide (j < i)
abbrev dGe := dCmpI fun i j => decide (j <= i)
theorem op_dLt : OpR X (compareOp .Lt) (upR X.K dLt) := int_op (f := fun i j => .bool (decide (i < j))) (OpR.i0 op_lt) (fun _ _ _ _ => repB) cmpI_of
theorem op_dLe : OpR X (compareOp .LtE) (upR X.K dLe) := int_op (f := fun i j => .bool (decide (i <= j))) (OpR.i0 op_le) (fun _ _ _ _ => repB) cmpI_of
theorem op_dGt : OpR X (compareOp .Gt) (upR X.K dGt) := int_op (f := fun i j => .bool (decide (j < i))) (OpR.i0 op_gt) (fun _ _ _ _ => repB) cmpI_of
theorem op_dGe : OpR X (compareOp .GtE) (upR X.K dGe) := int_op (f := fun i j => .bool (decide (j <= i))) (OpR.i0 op_ge) (fun _ _ _ _ => repB) cmpI_of
theorem op_dEq {n : Nat} (hr : Room n X.A) : OpR X (compareOp .Eq) (upR X.K dEq) := by
 intro pins s σ H x y v u Q I rx ry h
 obtain ⟨a, b, h, A, μ, k, R, ra, rb, q, c⟩ := h
 unfold dEq at q
 split at q
 ·rename_i da db ea eb
  obtain ⟨as, z1⟩ := (ref_see R ra ea).reads I (SeqAt.canLay_of_shaped q.1) rx
  obtain ⟨bs, z2⟩ := (ref_see R rb eb).reads I (SeqAt.canLay_of_shaped q.2.1) ry
  exact eq_dataH z1 z2 q.1 q.2.1 hr.units ⟨.bl _, H, I, rfl, c _ _ _ _ _ _ q.2.2 .refl R repW_bl⟩
 ·exact q.elim
theorem op_dNe {n : Nat} (hr : Room n X.A) : OpR X (compareOp .NotEq) (upR X.K dNe) := by
 intro pins s σ H x y v u Q I rx ry h
 obtain ⟨a, b, h, A, μ, k, R, ra, rb, q, c⟩ := h
 unfold dNe at q
 split at q
 ·rename_i da db ea eb
  obtain ⟨as, z1⟩ := (ref_see R ra ea).reads I (SeqAt.canLay_of_shaped q.1) rx
  obtain ⟨bs, z2⟩ := (ref_see R rb eb).reads I (SeqAt.canLay_of_shaped q.2.1) ry
  exact ne_dataH z1 z2 q.1 q.2.1 hr.units ⟨.bl _, H, I, rfl, c _ _ _ _ _ _ q.2.2 .refl R repW_bl⟩
 ·exact q.elim
def isSame : PyData -> PyData -> Option Bool
 | .none, .none => some true
 | .bool a, .bool b => some (a == b)
 | .none, .bool _ => some false
 | .bool _, .none => some false
 | .int _, .none => some false
 | .int _, .bool _ => some false
 | .str _, .none => some false
 | .str _, .bool _ => some false
 | .list _, .none => some false
 | .list _, .bool _ => some false
 | .tuple _, .none => some false
 | .tuple _, .bool _ => some false
 | _, _ => none
def dIs (neg : Bool) : D2
 | .d a, .d b, h, Q => match isSame a b with
  | some k => Q (.d (.bool (if neg then !k else k))) h
  | none => False
 | _, _, _, _ => False
theorem isSame_val {K : PySem.W.Frag} {A : List Addr} {H : Hp} {a b : PyData} {x y : V} {v u : Value} {k : Bool} (ra : Rep K A H a x) (rb : Rep K A H b y) (rx : RelV x v) (ry : RelV y u) (e : isSame a b = some k) : plainIs v u = true /\ (v == u) = k := by
 cases b with
 | none =>
  rw [Rep] at rb
  subst rb
  cases ry
  cases a with
  | none => rw [Rep] at ra; subst ra; cases rx; cases e; exact ⟨rfl, rfl⟩
  | bool c => rw [Rep] at ra; subst ra; cases rx; cases e; exact ⟨rfl, rfl⟩
  | int c => rw [Rep] at ra; subst ra; obtain ⟨t, rfl⟩ := rx; cases e; exact ⟨rfl, rfl⟩
  | str c => rw [Rep] at ra; obtain ⟨ra, _⟩ := ra; subst ra; obtain ⟨t, rfl⟩ := rx; cases e; exact ⟨rfl, rfl⟩
  | list c => rw [Rep] at ra; obtain ⟨p, vs, rfl, _⟩ := ra; cases rx; cases e; exact ⟨rfl, rfl⟩
  | tuple c => rw [Rep] at ra; obtain ⟨p, vs, rfl, _⟩ := ra; cases rx; cases e; exact ⟨rfl, rfl⟩
  | dict c => cases e
 | bool b =>
  rw [Rep] at rb
  subst rb
  cases ry
  cases a with
  | none => rw [Rep] at ra; subst ra; cases rx; cases e; exact ⟨rfl, rfl⟩
  | bool c => rw [Rep] at ra; subst ra; cases rx; cases e; cases b <;> cases c <;> exact ⟨rfl, rfl⟩
  | int c => rw [Rep] at ra; subst ra; obtain ⟨t, rfl⟩ := rx; cases e; exact ⟨rfl, rfl⟩
  | str c => rw [Rep] at ra; obtain ⟨ra, _⟩ := ra; subst ra; obtain ⟨t, rfl⟩ := rx; cases e; exact ⟨rfl, rfl⟩
  | list c => rw [Rep] at ra; obtain ⟨p, vs, rfl, _⟩ := ra; cases rx; cases e; exact ⟨rfl, rfl⟩
  | tuple c => rw [Rep] at ra; obtain ⟨p, vs, rfl, _⟩ := ra; cases rx; cases e; exact ⟨rfl, rfl⟩
  | dict c => cases e
 | _ => cases a <;> cases e
theorem op_dIs : OpR X (compareOp .Is) (upR X.K (dIs false)) := by
 intro pins s σ H x y v u Q I rx ry h
 obtain ⟨a, b, h, A, μ, k, R, ra, rb, q, c⟩ := h
 unfold dIs at q
 split at q
 ·split at q
  ·rename_i e
   obtain ⟨h1, h2⟩ := isSame_val ra rb rx ry e
   exact wpAny_is_plain h1 ⟨.bl _, H, I, by rw [h2]; rfl, c _ _ _ _ _ _ q .refl R repW_bl⟩
  ·exact q.elim
 ·exact q.elim
theorem op_dIsNot : OpR X (compareOp .IsNot) (upR X.K (dIs true)) := by
 intro pins s σ H x y v u Q I rx ry h
 obtain ⟨a, b, h, A, μ, k, R, ra, rb, q, c⟩ := h
 unfold dIs at q
 split at q
 ·split at q
  ·rename_i e
   obtain ⟨h1, h2⟩ := isSame_val ra rb rx ry e
   exact wpAny_isNot_plain h1 ⟨.bl _, H, I, by rw [h2]; rfl, c _ _ _ _ _ _ q .refl R repW_bl⟩
  ·exact q.elim
 ·exact q.elim
def dIx : D2 := fun x y h Q => match ref h x, y with
 | some (.list xs), .d (.int i) => match atI xs i with
  | some v => Q (.d v) h
  | none => False
 | some (.tuple xs), .d (.int i) => match atI xs i with
  | some v => Q (.d v) h
  | none => False
 | _, _ => False
theorem atI_reps {K : PySem.W.Frag} {A : List Addr} {H : Hp} {xs : List PyData} {vs : List V} {i : Int} {x : PyData} (r : Reps K A H xs vs) (e : atI xs i = some x) : ∃ v, atI vs i = some v /\ Rep K A H x v := by
 unfold atI at e ⊢
 rw [r.length]
 cases q : ixN xs.length i with
 | none => rw [q] at e; cases e
 | some j =>
  rw [q] at e
  obtain ⟨v, e1, e2⟩ := r.get (i := j) e
  exact ⟨v, e1, e2⟩
theorem ix_d : IxR X (upR X.K dIx) := by
 intro value slice pins s σ H x y v u Q I rx ry h hs
 obtain ⟨a, b, h, A, μ, k, R, ra, rb, q, c⟩ := h
 unfold dIx at q
 split at q
 ·rename_i xs i ea
  obtain ⟨p, vs, rfl, sq, rr⟩ := ref_list R ra ea
  have eb := repW_int rb
  subst eb
  split at q
  ·rename_i z ez
   obtain ⟨z', e1, e2⟩ := atI_reps rr ez
   exact ix_list value slice pins s σ H _ _ v u Q I rx ry ⟨p, vs, i, z', rfl, rfl, sq, e1, c _ _ _ _ _ _ q .refl R e2⟩ hs
  ·exact q.elim
 ·rename_i xs i ea
  obtain ⟨p, vs, rfl, sq, rr⟩ := ref_tuple ra ea
  have eb := repW_int rb
  subst eb
  split at q
  ·rename_i z ez
   obtain ⟨z', e1, e2⟩ := atI_reps rr ez
   exact ix_tup value slice pins s σ H _ _ v u Q I rx ry ⟨p, vs, i, z', rfl, rfl, sq.sq, e1, c _ _ _ _ _ _ q .refl R e2⟩ hs
  ·exact q.elim
 ·exact q.elim
theorem de_ix {a b : Expr} {pos : Pos} {ta tb : DTE} (ha : DE X a ta) (hb : DE X b tb) (hs : PlainIx b := by intro _ _; rfl) : DE X (.Subscript a b pos) (dOp dIx ta tb) := pe_mono (pe_ix ix_d ha hb hs) fun _ _ _ q => up_op q
abbrev DTO := DSt -> Cells -> (Option Int -> Cells -> Prop) -> Prop
def upO (K : PySem.W.Frag) (t : DTO) : TO := fun σ H Q => ∃ (δ : DSt) (h : Cells) (A μ : List Addr) (k : Option Int -> Cells -> Prop), Ab K A μ δ h σ H /\ t δ h k /\
 ∀ b h' H' A' μ', k b h' -> Ext A A' μ μ' H H' -> HeapRep K A' μ' h' H' -> Q b H'
def DO (X : Cx) (e : Option Expr) (t : DTO) : Prop := PO X e (upO X.K t)
theorem po_mono {X : Cx} {e : Option Expr} {t t' : TO} (h : PO X e t) (m : ∀ σ H Q, t' σ H Q -> t σ H Q) : PO X e t' := fun pins s σ H Q I q => h pins s σ H Q I (m σ H Q q)
def dNoPart : DTO := fun _ h Q => Q none h
def dPart (t : DTE) : DTO := fun δ h Q => t δ h fun w h1 => match w with
 | .d (.int i) => Q (some i) h1
 | _ => False
theorem do_none : DO X none dNoPart := po_mono po_none fun σ H Q q => by
 obtain ⟨δ, h, A, μ, k, R, q, c⟩ := q
 exact c none h H A μ q .refl R.1
theorem do_some {e : Expr} {te : DTE} (he : DE X e te) : DO X (some e) (dPart te) := po_mono (po_some he) fun σ H Q q => by
 obtain ⟨δ, h, A, μ, k, R, q, c⟩ := q
 refine ⟨δ, h, A, μ, _, R, q, fun w h1 v H1 A1 μ1 q1 x1 R1 r1 => ?_⟩
 cases w with
 | c i => exact q1.elim
 | v u => exact q1.elim
 | d x =>
  cases x with
  | int i => exact ⟨i, repW_int r1, c _ h1 H1 A1 μ1 q1 x1 R1⟩
  | _ => exact q1.elim
def cut (xs : List PyData) (lo hi : Option Int) : List PyData := (xs.drop (HT.sIx xs.length 0 lo)).take (HT.sIx xs.length xs.length hi - HT.sIx xs.length 0 lo)
def dSl3 (te : DTE) (tl th : DTO) (r : W -> Option Int -> Option Int -> Cells -> Prop) : DSt -> Cells -> Prop := fun δ h => te δ h fun x h1 => tl δ h1 fun lo h2 => th δ h2 fun hi h3 => r x lo hi h3
def dSlT (te : DTE) (tl th : DTO) : DTE := fun δ h Q => dSl3 te tl th (fun x lo hi h3 => match x with
 | .d (.tuple xs) => Q (.d (.tuple (cut xs lo hi))) h3
 | _ => False) δ h
def dSlL (te : DTE) (tl th : DTO) : DTF := fun δ h Q => dSl3 te tl th (fun x lo hi h3 => match ref h3 x with
 | some (.list xs) => Q (cut xs lo hi) h3
 | _ => False) δ h
theorem cut_reps {K : PySem.W.Frag} {A : List Addr} {H : Hp} {xs : List PyData} {vs : List V} (r : Reps K A H xs vs) (lo hi : Option Int) : Reps K A H (cut xs lo hi) (cutV vs lo hi) := by
 unfold cut cutV
 rw [r.length]
 exact (r.drop _).take _
theorem whole_get {prog : Program} {w : World} {A : Around} {E : Value -> Shared -> Prop} {s : Shared} {t sl : Addr} {items : Array Value} {vl vu : Value} {lo hi : Option Int} {Q : Value -> Shared -> Prop} (ht : IsTup s.heap t items) (hs : s.heap.IsSliceOf sl vl vu .none) (pl : IsPart vl lo) (pu : IsPart vu hi)
  (hw : HT.sIx items.size 0 lo = 0 /\ HT.sIx items.size items.size hi = items.size) (h : Q (.ref t) s) : wpAny (model prog w) A (getItem (.ref t) (.ref sl)) Q E s := by
 obtain ⟨os, hos, hcs, hds⟩ := id hs
 have hTs : s.TypeIs (.ref sl) "slice" := ⟨os, hos, hcs⟩
 unfold getItem
 try with_reducible refine wpAny_holding ?_
 first | refine wpAny_bind (wpAny_pure ?_) | skip
 refine wpAny_bind (wpAny_sequenceKey ht.typeIs (by decide) ?_)
 refine wpAny_bind (wpAny_callSpecial?_slot (name := Str.ofString "__getitem__") ht.typeIs PyProof.Rows.slot_tuple_getitem
  (wpAny_call_entry PyProof.Rows.slot_tuple_getitem ht.typeIs entry_tuple_getitem ?_ (args_tuple_getitem _ _)))
 show wpAny _ _ (Builtin.Tuple.tupleItemsOf (.ref t) >>= _) _ _ s
 refine wpAny_bind (tupleItemsOf_ ht (wpAny_bind (wpAny_typeOf hTs ?_)))
 rw [if_pos (by decide)]
 refine wpAny_bind (HT.sliceApplied_gen hs pl pu ?_)
 have hy : (((HT.sIx items.size 0 lo : Nat) : Int) == 0 && (1 : Int) == 1 && (HT.sIx items.size items.size hi - HT.sIx items.size 0 lo) == items.size) = true := by
  rw [hw.1, hw.2]
  simp
 show wpAny _ _ (if (((HT.sIx items.size 0 lo : Nat) : Int) == 0 && (1 : Int) == 1 && (HT.sIx items.size items.size hi - HT.sIx items.size 0 lo) == items.size) = true then _ else _) _ _ s
 rw [if_pos hy]
 refine wpAny_bind (wpAny_bind (wpAny_typeOf ht.typeIs (wpAny_pure ?_)))
 rw [if_pos (by decide)]
 exact wpAny_bind (wpAny_rule (wpAny_pure ⟨_, rfl, wpAny_pure h⟩))
def rSlW (K : PySem.W.Frag) : V -> Option Int -> Option Int -> Hp -> VK -> Prop := fun x lo hi H Q => ∃ a xs, x = .ref a /\ SqT K H a xs /\ (HT.sIx xs.length 0 lo = 0 /\ HT.sIx xs.length xs.length hi = xs.length) /\ Q (.ref a) H
theorem sl_tupW : SlR X (rSlW X.K) := by
 intro pins s σ H x v vl vu lo hi sl Q I rx hs pl pu h
 obtain ⟨a, xs, rfl, hx, hw, q⟩ := h
 cases rx
 obtain ⟨its, r, ht, hz⟩ := I.tuple hx
 have hlen : its.toArray.size = xs.length := by rw [List.size_toArray]; exact r.length.symm
 exact ⟨"tuple", _, PyProof.Rows.slot_tuple_getitem.lookup, ht.typeIs, whole_get ht hs pl pu (by rw [hlen]; exact hw) ⟨.ref a, H, I, rfl, q⟩⟩
theorem cut_whole {xs : List PyData} {lo hi : Option Int} (h : HT.sIx xs.length 0 lo = 0 /\ HT.sIx xs.length xs.length hi = xs.length) : cut xs lo hi = xs := by
 unfold cut
 rw [h.1, h.2]
 simp
theorem de_slT {e : Expr} {te : DTE} {lo hi : Option Expr} {tl th : DTO} {p2 pos : Pos} (he : DE X e te) (hl : DO X lo tl) (hh : DO X hi th) : DE X (.Subscript e (.Slice lo hi none p2) pos) (dSlT te tl th) := pe_mono (pe_slice (sl_tup.or sl_tupW) he hl hh) fun σ H Q q => by
 obtain ⟨δ, h, A, μ, k, R, q, c⟩ := q
 refine ⟨δ, h, A, μ, _, R, q, fun w h1 v H1 A1 μ1 q1 x1 R1 r1 => ?_⟩
 refine ⟨δ, h1, A1, μ1, _, ⟨R1, R.2.ext x1 R.1.sub⟩, q1, fun l h2 H2 A2 μ2 q2 x2 R2 => ?_⟩
 refine ⟨δ, h2, A2, μ2, _, ⟨R2, R.2.ext (x1.trans x2) R.1.sub⟩, q2, fun u h3 H3 A3 μ3 q3 x3 R3 => ?_⟩
 have r3 := r1.ext (x2.trans x3) R1.sub
 dsimp only at q3 ⊢
 split at q3
 ·rename_i xs
  obtain ⟨p, vs, rfl, sq, rr⟩ := ref_tuple (h := h3) r3 rfl
  by_cases hw : HT.sIx xs.length 0 l = 0 /\ HT.sIx xs.length xs.length u = xs.length
  ·rw [cut_whole hw] at q3
   exact .inr ⟨p, vs, rfl, sq.sq, by rw [rr.length]; exact hw, c _ _ _ _ _ _ q3 ((x1.trans x2).trans x3) R3 r3⟩
  ·refine .inl ⟨p, vs, rfl, sq.sq, by rw [rr.length]; exact hw, fun p hp => ?_⟩
   exact c _ _ _ _ _ _ q3 (((x1.trans x2).trans x3).trans (ext_fresh hp)) (R3.fresh hp) (rep_tuple R3 hp (cut_reps rr l u))
 ·exact q3.elim
theorem df_slL {e : Expr} {te : DTE} {lo hi : Option Expr} {tl th : DTO} {p2 pos : Pos} (he : DE X e te) (hl : DO X lo tl) (hh : DO X hi th) : DF X (.Subscript e (.Slice lo hi none p2) pos) (dSlL te tl th) := pe_mono (pe_slice sl_list he hl hh) fun σ H Q q => by
 obtain ⟨δ, h, A, μ, k, R, q, c⟩ := q
 refine ⟨δ, h, A, μ, _, R, q, fun w h1 v H1 A1 μ1 q1 x1 R1 r1 => ?_⟩
 refine ⟨δ, h1, A1, μ1, _, ⟨R1, R.2.ext x1 R.1.sub⟩, q1, fun l h2 H2 A2 μ2 q2 x2 R2 => ?_⟩
 refine ⟨δ, h2, A2, μ2, _, ⟨R2, R.2.ext (x1.trans x2) R.1.sub⟩, q2, fun u h3 H3 A3 μ3 q3 x3 R3 => ?_⟩
 have r3 := r1.ext (x2.trans x3) R1.sub
 dsimp only at q3 ⊢
 split at q3
 ·rename_i xs ex
  obtain ⟨p, vs, rfl, sq, rr⟩ := ref_list R3 r3 ex
  refine ⟨p, vs, rfl, sq, fun p hp => ?_⟩
  have x4 := (x1.trans x2).trans x3
  obtain ⟨ν, e1, _⟩ := x4.pre
  exact c _ _ _ _ _ _ q3 (x4.trans (ext_cell hp)) ⟨ν, e1⟩ (x4.back hp) (heap_cell R3 hp (cut_reps rr l u))
 ·exact q3.elim
end
end DL
namespace DL
open PySem PySem.Spec PyProof.Rows L2
abbrev DC := List W -> Cells -> DK -> Prop
def upC (K : PySem.W.Frag) (r : DC) : List V -> Hp -> VK -> Prop := fun vs H Q => ∃ (ws : List W) (h : Cells) (A μ : List Addr) (k : DK), HeapRep K A μ h H /\ RepWs K A μ H ws vs /\ r ws h k /\
 ∀ w h' v H' A' μ', k w h' -> Ext A A' μ μ' H H' -> HeapRep K A' μ' h' H' -> RepW K A' μ' H' w v -> Q v H'
def dCB (r : DC) (t : DTA) : DTE := fun δ h Q => t δ h fun ws h1 => r ws h1 Q
theorem up_cb {K : PySem.W.Frag} {r : DC} {t : DTA} {σ : L2.St} {H : Hp} {Q : VK} (q : up K (dCB r t) σ H Q) : tCB (upC K r) (upA K t) σ H Q := by
 obtain ⟨δ, h, A, μ, k, R, q, c⟩ := q
 refine ⟨δ, h, A, μ, _, R, q, fun ws h1 vs H1 A1 μ1 q1 x1 R1 r1 => ?_⟩
 exact ⟨ws, h1, A1, μ1, k, R1, r1, q1, fun w h2 v H2 A2 μ2 q2 x2 R2 r2 => c w h2 v H2 A2 μ2 q2 (x1.trans x2) R2 r2⟩
theorem repWs1 {K : PySem.W.Frag} {A μ : List Addr} {H : Hp} {w : W} {vs : List V} (r : RepWs K A μ H [w] vs) : ∃ v, vs = [v] /\ RepW K A μ H w v := by
 obtain ⟨v, r, rfl, h1, h2⟩ := r
 have e : r = [] := h2
 subst e
 exact ⟨v, rfl, h1⟩
section
variable {X : Cx} {x : Str} {p pos : Pos} {e : Expr} {es : List Expr} {t : DTA} {id T : String} {r : DC}
theorem de_callB (hc : CallR X (.builtin id) (upC X.K r)) (hm : X.mg x = none) (ha : DA X (e :: es) t) (hv : bootBuiltins x = some (.builtin id) := by rfl) (hg : Gl X x := by rfl) (hn : x ≠ "__name__" := by decide) (hdb : (x == ("__debug__" : Str)) = false := by decide)
  (he : starEach (e :: es) X.env = (false, eval e X.env) :: starEach es X.env := by rfl) (hpl : (backTo pos (starEach es X.env)).any (·.1) = false := by rfl) : DE X (.Call (.Name x p) (e :: es) [] pos) (dCB r t) :=
 pe_mono (pe_callB hc hg hm hv ha hn hdb he hpl) fun _ _ _ q => up_cb q
theorem de_callTy (hc : CallR X (.type T) (upC X.K r)) (hm : X.mg x = none) (ha : DA X (e :: es) t) (hv : bootBuiltins x = some (.type T) := by rfl) (hg : Gl X x := by rfl) (hn : x ≠ "__name__" := by decide) (hdb : (x == ("__debug__" : Str)) = false := by decide)
  (he : starEach (e :: es) X.env = (false, eval e X.env) :: starEach es X.env := by rfl) (hpl : (backTo pos (starEach es X.env)).any (·.1) = false := by rfl) : DE X (.Call (.Name x p) (e :: es) [] pos) (dCB r t) :=
 pe_mono (pe_callTy hc hg hm hv ha hn hdb he hpl) fun _ _ _ q => up_cb q
def dLen : DC
 | [w], h, Q => match ref h w with
  | some (.list xs) => Q (.d (.int xs.length)) h
  | some (.tuple xs) => Q (.d (.int xs.length)) h
  | _ => False
 | _, _, _ => False
theorem call_dLen : CallR X (.builtin "len") (upC X.K dLen) := by
 intro pins s σ H xs us Q I r h
 obtain ⟨ws, h, A, μ, k, R, rw', q, c⟩ := h
 unfold dLen at q
 split at q
 ·rename_i w h0 k0
  obtain ⟨v, rfl, rv⟩ := repWs1 rw'
  split at q
  ·rename_i ys ey
   obtain ⟨p, vs, rfl, sq, rr⟩ := ref_list R rv ey
   exact call_len_seq pins s σ H _ us Q I r ⟨p, vs, rfl, .inl sq, by rw [rr.length]; exact c _ _ _ _ _ _ q .refl R repW_i⟩
  ·rename_i ys ey
   obtain ⟨p, vs, rfl, sq, rr⟩ := ref_tuple rv ey
   exact call_len_seq pins s σ H _ us Q I r ⟨p, vs, rfl, .inr sq.sq, by rw [rr.length]; exact c _ _ _ _ _ _ q .refl R repW_i⟩
  ·exact q.elim
 ·exact q.elim
def dTuple : DC
 | [w], h, Q => match ref h w with
  | some (.list xs) => Q (.d (.tuple xs)) h
  | some (.tuple xs) => Q (.d (.tuple xs)) h
  | _ => False
 | _, _, _ => False
theorem call_dTuple : CallR X (.type "tuple") (upC X.K dTuple) := by
 intro pins s σ H xs us Q I r h
 obtain ⟨ws, h, A, μ, k, R, rw', q, c⟩ := h
 unfold dTuple at q
 split at q
 ·rename_i w h0 k0
  obtain ⟨v, rfl, rv⟩ := repWs1 rw'
  split at q
  ·rename_i ys ey
   obtain ⟨p, vs, rfl, sq, rr⟩ := ref_list R rv ey
   exact call_tuple_of pins s σ H _ us Q I r ⟨p, vs, rfl, .inl ⟨sq, fun l hl => c _ _ _ _ _ _ q (ext_fresh hl) (R.fresh hl) (rep_tuple R hl rr)⟩⟩
  ·rename_i ys ey
   obtain ⟨p, vs, rfl, sq, rr⟩ := ref_tuple rv ey
   refine call_tuple_of pins s σ H _ us Q I r ⟨p, vs, rfl, .inr ⟨sq.sq, c _ _ _ _ _ _ q .refl R ?_⟩⟩
   show Rep X.K A H (.tuple ys) (.ref p)
   rw [Rep]
   exact ⟨p, vs, rfl, sq, rr⟩
  ·exact q.elim
 ·exact q.elim
def dListF (t : DTA) : DTF := fun δ h Q => t δ h fun ws h1 => match ws with
 | [w] => (match ref h1 w with
  | some (.list xs) => Q xs h1
  | some (.tuple xs) => Q xs h1
  | _ => False)
 | _ => False
theorem df_list (hm : X.mg "list" = none) (ha : DA X (e :: es) t) (hg : Gl X "list" := by rfl)
  (he : starEach (e :: es) X.env = (false, eval e X.env) :: starEach es X.env := by rfl) (hpl : (backTo pos (starEach es X.env)).any (·.1) = false := by rfl) : DF X (.Call (.Name "list" p) (e :: es) [] pos) (dListF t) :=
 pe_mono (pe_callTy call_list_of hg hm rfl ha (by decide) (by decide) he hpl) fun σ H Q q => by
  obtain ⟨δ, h, A, μ, k, R, q, c⟩ := q
  refine ⟨δ, h, A, μ, _, R, q, fun ws h1 vs H1 A1 μ1 q1 x1 R1 r1 => ?_⟩
  obtain ⟨ν, e1, _⟩ := x1.pre
  split at q1
  ·rename_i w
   obtain ⟨v, rfl, rv⟩ := repWs1 r1
   split at q1
   ·rename_i ys ey
    obtain ⟨p, vs, rfl, sq, rr⟩ := ref_list R1 rv ey
    exact ⟨p, vs, rfl, .inl sq, fun l hl => c _ _ _ _ _ _ q1 (x1.trans (ext_cell hl)) ⟨ν, e1⟩ (x1.back hl) (heap_cell R1 hl rr)⟩
   ·rename_i ys ey
    obtain ⟨p, vs, rfl, sq, rr⟩ := ref_tuple rv ey
    exact ⟨p, vs, rfl, .inr sq.sq, fun l hl => c _ _ _ _ _ _ q1 (x1.trans (ext_cell hl)) ⟨ν, e1⟩ (x1.back hl) (heap_cell R1 hl rr)⟩
   ·exact q1.elim
  ·exact q1.elim
end
abbrev DSp := List W -> Cells -> (PyData -> Cells -> Prop) -> Prop
def upSp (K : PySem.W.Frag) (d : DSp) : Sp := fun vs H Q _ => ∃ (ws : List W) (h : Cells) (A μ : List Addr) (k : PyData -> Cells -> Prop), HeapRep K A μ h H /\ RepWs K A μ H ws vs /\ d ws h k /\
 ∀ z h' v H' A', k z h' -> Ext A A' μ μ H H' -> HeapRep K A' μ h' H' -> Rep K A' H' z v -> Q v H'
def dCall (d : DSp) (t : DTA) : DTE := fun δ h Q => t δ h fun ws h1 => d ws h1 fun z h2 => Q (.d z) h2
theorem up_call {K : PySem.W.Frag} {d : DSp} {t : DTA} {σ : L2.St} {H : Hp} {Q : VK} (q : up K (dCall d t) σ H Q) : tCall (upSp K d) [] E0 (upA K t) σ H Q := by
 obtain ⟨δ, h, A, μ, k, R, q, c⟩ := q
 refine ⟨δ, h, A, μ, _, R, q, fun ws h1 vs H1 A1 μ1 q1 x1 R1 r1 => ?_⟩
 show upSp K d (vs ++ []) H1 Q E0
 rw [List.append_nil]
 exact ⟨ws, h1, A1, μ1, _, R1, r1, q1, fun z h2 v H2 A2 q2 x2 R2 r2 => c _ h2 v H2 A2 μ1 q2 (x1.trans x2) R2 r2⟩
structure DFn (P : Program) (w : World) (K : PySem.W.Frag) (mg : Str -> Option Value) (base : Heap) (k : Nat) (x : Str) (d : DSp) : Prop where
 ok : ∃ (f : Addr) (fd : FuncData) (ps : List Str), FnOk P w K mg base CX0 k f fd ps (upSp K d) /\ mg x = some (.ref f) /\ PySem.W.keepIn K (.ref f) = true /\ Binds K fd ps []
theorem DFn.imp {P : Program} {w : World} {K : PySem.W.Frag} {mg : Str -> Option Value} {base : Heap} {k : Nat} {x : Str} {d d' : DSp} (F : DFn P w K mg base k x d) (h : ∀ ws h k, d' ws h k -> d ws h k) : DFn P w K mg base k x d' := by
 obtain ⟨f, fd, ps, h1, h2⟩ := F.ok
 exact ⟨f, fd, ps, h1.imp fun vs H Q E ⟨ws, h0, A, μ, k, R, r, q, c⟩ => ⟨ws, h0, A, μ, k, R, r, h _ _ _ q, c⟩, h2⟩
section
variable {X : Cx} {x : Str} {p pos : Pos} {e : Expr} {es : List Expr} {t : DTA} {d : DSp} {k : Nat}
theorem de_call (F : DFn X.prog X.w X.K X.mg X.base k x d) (hr : Room k X.A) (ha : DA X (e :: es) t) (hg : Gl X x := by rfl) (hdb : (x == ("__debug__" : Str)) = false := by decide)
  (he : starEach (e :: es) X.env = (false, eval e X.env) :: starEach es X.env := by rfl) (hpl : (backTo pos (starEach es X.env)).any (·.1) = false := by rfl) : DE X (.Call (.Name x p) (e :: es) [] pos) (dCall d t) := by
 obtain ⟨f, fd, ps, h1, h2, h3, h4⟩ := F.ok
 exact pe_mono (pe_call h1 hr hg h2 h3 h4 .nil pass0 ha hdb he hpl) fun _ _ _ q => up_call q
end
structure DEnds where
 nx : DSt -> Cells -> Prop
 rt : DK
 bk : DSt -> Cells -> Prop := fun _ _ => False
 ct : DSt -> Cells -> Prop := fun _ _ => False
abbrev DTS := DEnds -> DSt -> Cells -> Prop
structure Lnk (K : PySem.W.Frag) (A μ : List Addr) (H : Hp) (E : DEnds) (D : Ends) : Prop where
 nx : ∀ δ' h' σ' H' A' μ', E.nx δ' h' -> Ext A A' μ μ' H H' -> Ab K A' μ' δ' h' σ' H' -> D.nx σ' H'
 bk : ∀ δ' h' σ' H' A' μ', E.bk δ' h' -> Ext A A' μ μ' H H' -> Ab K A' μ' δ' h' σ' H' -> D.bk σ' H'
 ct : ∀ δ' h' σ' H' A' μ', E.ct δ' h' -> Ext A A' μ μ' H H' -> Ab K A' μ' δ' h' σ' H' -> D.ct σ' H'
 rt : ∀ w h' v H' A' μ', E.rt w h' -> Ext A A' μ μ' H H' -> HeapRep K A' μ' h' H' -> RepW K A' μ' H' w v -> D.rt v H'
theorem Lnk.ext {K : PySem.W.Frag} {A A1 μ μ1 : List Addr} {H H1 : Hp} {E : DEnds} {D : Ends} (L : Lnk K A μ H E D) (x : Ext A A1 μ μ1 H H1) : Lnk K A1 μ1 H1 E D :=
 ⟨fun δ h σ H' A' μ' q y => L.nx δ h σ H' A' μ' q (x.trans y), fun δ h σ H' A' μ' q y => L.bk δ h σ H' A' μ' q (x.trans y), fun δ h σ H' A' μ' q y => L.ct δ h σ H' A' μ' q (x.trans y), fun w h v H' A' μ' q y => L.rt w h v H' A' μ' q (x.trans y)⟩
def upS (K : PySem.W.Frag) (t : DTS) : TS := fun D σ H => ∃ (δ : DSt) (h : Cells) (A μ : List Addr) (E : DEnds), Ab K A μ δ h σ H /\ t E δ h /\ Lnk K A μ H E D
def DS (X : Cx) (st : Stmt) (t : DTS) : Prop := PS X st (upS X.K t)
def DSs (X : Cx) (st : List Stmt) (t : DTS) : Prop := PSs X st (upS X.K t)
def dNext : DTS := fun E δ h => E.nx δ h
def dSeq (t u : DTS) : DTS := fun E δ h => t { E with nx := u E } δ h
def dRet (te : DTE) : DTS := fun E δ h => te δ h E.rt
def dDrop (te : DTE) : DTS := fun E δ h => te δ h fun _ h1 => E.nx δ h1
def dIfS (c : DTT) (t u : DTS) : DTS := fun E δ h => c δ h fun b h1 => if b = true then t E δ h1 else u E δ h1
abbrev DTG := W -> DSt -> Cells -> (DSt -> Cells -> Prop) -> Prop
abbrev DTGs := List PyData -> DSt -> Cells -> (DSt -> Cells -> Prop) -> Prop
def upG (K : PySem.W.Frag) (t : DTG) : TG := fun v σ H Q => ∃ (w : W) (δ : DSt) (h : Cells) (A μ : List Addr) (k : DSt -> Cells -> Prop), Ab K A μ δ h σ H /\ RepW K A μ H w v /\ t w δ h k /\
 ∀ δ' h' σ' H' A' μ', k δ' h' -> Ext A A' μ μ' H H' -> Ab K A' μ' δ' h' σ' H' -> Q σ' H'
def upGs (K : PySem.W.Frag) (t : DTGs) : TGs := fun vs σ H Q => ∃ (xs : List PyData) (δ : DSt) (h : Cells) (A μ : List Addr) (k : DSt -> Cells -> Prop), Ab K A μ δ h σ H /\ Reps K A H xs vs /\ t xs δ h k /\
 ∀ δ' h' σ' H' A' μ', k δ' h' -> Ext A A' μ μ' H H' -> Ab K A' μ' δ' h' σ' H' -> Q σ' H'
def DG (X : Cx) (tg : Expr) (t : DTG) : Prop := PG X tg (upG X.K t)
def DGs (X : Cx) (tg : List Expr) (t : DTGs) : Prop := PGs X tg (upGs X.K t)
theorem pg_mono {X : Cx} {e : Expr} {t t' : TG} (h : PG X e t) (m : ∀ v σ H Q, t' v σ H Q -> t v σ H Q) : PG X e t' := fun pins s σ H v u Q I r q => h pins s σ H v u Q I r (m v σ H Q q)
theorem pgs_mono {X : Cx} {e : List Expr} {t t' : TGs} (h : PGs X e t) (m : ∀ v σ H Q, t' v σ H Q -> t v σ H Q) : PGs X e t' := fun pins s σ H v u Q I r q => h pins s σ H v u Q I r (m v σ H Q q)
def dName (i : Nat) : DTG := fun w δ h Q => Q (δ.set i (some w)) h
def dTNil : DTGs := fun xs δ h Q => xs = [] /\ Q δ h
def dTCons (t : DTG) (u : DTGs) : DTGs := fun xs δ h Q => match xs with
 | x :: r => t (.d x) δ h fun δ1 h1 => u r δ1 h1 Q
 | [] => False
def dTTup (n : Nat) (t : DTGs) : DTG := fun w δ h Q => match w with
 | .d (.tuple xs) => xs.length = n /\ t xs δ h Q
 | _ => False
def dAsg (te : DTE) (g : DTG) : DTS := fun E δ h => te δ h fun w h1 => g w δ h1 E.nx
section
variable {X : Cx} {st : Stmt} {rest : List Stmt} {t u : DTS} {e tg : Expr} {te : DTE} {tc : DTT} {g : DTG} {pos : Pos}
theorem dss_nil : DSs X [] dNext := pss_mono pss_nil fun D σ H q => by
 obtain ⟨δ, h, A, μ, E, R, q, L⟩ := q
 exact L.nx δ h σ H A μ q .refl R
theorem dss_cons (h1 : DS X st t) (h2 : DSs X rest u) : DSs X (st :: rest) (dSeq t u) := pss_mono (pss_cons h1 h2) fun D σ H q => by
 obtain ⟨δ, h, A, μ, E, R, q, L⟩ := q
 exact ⟨δ, h, A, μ, _, R, q, ⟨fun δ' h' σ' H' A' μ' q' x R' => ⟨δ', h', A', μ', E, R', q', L.ext x⟩, L.bk, L.ct, L.rt⟩⟩
theorem ds_pass : DS X (.Pass pos) dNext := ps_mono ps_pass fun D σ H q => by
 obtain ⟨δ, h, A, μ, E, R, q, L⟩ := q
 exact L.nx δ h σ H A μ q .refl R
theorem ds_ret (he : DE X e te) : DS X (.Return (some e) pos) (dRet te) := ps_mono (ps_ret he) fun D σ H q => by
 obtain ⟨δ, h, A, μ, E, R, q, L⟩ := q
 exact ⟨δ, h, A, μ, _, R, q, fun w h' v H' A' μ' q' x R' r' => L.rt w h' v H' A' μ' q' x R' r'⟩
theorem ds_expr (he : DE X e te) (hs : swapsWith e none pos.line X.env = pure false := by rfl) : DS X (.Expr e pos) (dDrop te) := ps_mono (ps_expr he hs) fun D σ H q => by
 obtain ⟨δ, h, A, μ, E, R, q, L⟩ := q
 exact ⟨δ, h, A, μ, _, R, q, fun w h' v H' A' μ' q' x R' _ => L.nx δ h' σ H' A' μ' q' x ⟨R', R.2.ext x R.1.sub⟩⟩
theorem ds_if {c : Expr} {a b : List Stmt} (hc : DT X c tc) (ha : DSs X a t) (hb : DSs X b u) : DS X (.If c a b pos) (dIfS tc t u) := ps_mono (ps_if hc ha hb) fun D σ H q => by
 obtain ⟨δ, h, A, μ, E, R, q, L⟩ := q
 refine ⟨δ, h, A, μ, _, R, q, fun b h1 H1 A1 μ1 q1 x1 R1 => ?_⟩
 cases b with
 | true => exact ⟨δ, h1, A1, μ1, E, ⟨R1, R.2.ext x1 R.1.sub⟩, q1, L.ext x1⟩
 | false => exact ⟨δ, h1, A1, μ1, E, ⟨R1, R.2.ext x1 R.1.sub⟩, q1, L.ext x1⟩
theorem dg_name {i : Nat} {x : Str} (hN : X.N.Nodup) (hi : X.N[i]? = some x := by rfl) (hx : Loc X.env.scope x := by first | exact Or.inl rfl | exact Or.inr rfl) (hf : X.fn x = true \/ X.env.scope.names.lookup x = some .local := by first | exact .inl rfl | exact .inr rfl) : DG X (.Name x pos) (dName i) :=
 pg_mono (pg_name hN hi hx hf) fun v σ H Q q => by
  obtain ⟨w, δ, h, A, μ, k, R, r, q, c⟩ := q
  exact c _ h _ H A μ q .refl ⟨R.1, R.2.set i r⟩
theorem dgs_nil : DGs X [] dTNil := pgs_mono pgs_nil fun v σ H Q q => by
 obtain ⟨xs, δ, h, A, μ, k, R, r, ⟨e, q⟩, c⟩ := q
 subst e
 rw [Reps] at r
 exact ⟨r, c δ h σ H A μ q .refl R⟩
theorem dgs_cons {es : List Expr} {tu : DTGs} (h1 : DG X e g) (h2 : DGs X es tu) (hs : (assignEach (e :: es) X.env).map (·.2) = assign e X.env :: (assignEach es X.env).map (·.2) := by rfl) : DGs X (e :: es) (dTCons g tu) :=
 pgs_mono (pgs_cons h1 h2 hs) fun v σ H Q q => by
  obtain ⟨xs, δ, h, A, μ, k, R, r, q, c⟩ := q
  cases xs with
  | nil => exact q.elim
  | cons x xs =>
   rw [Reps] at r
   obtain ⟨v1, vr, rfl, r1, r2⟩ := r
   refine ⟨v1, vr, rfl, .d x, δ, h, A, μ, _, R, r1, q, fun δ1 h1 σ1 H1 A1 μ1 q1 x1 R1 => ?_⟩
   exact ⟨xs, δ1, h1, A1, μ1, k, R1, r2.ext x1 R.1.sub, q1, fun δ2 h2 σ2 H2 A2 μ2 q2 x2 R2 => c δ2 h2 σ2 H2 A2 μ2 q2 (x1.trans x2) R2⟩
theorem dg_tup {es : List Expr} {kk : Nat} {tu : DTGs} {n : Nat} (hc : X.calm = true) (h : DGs X es tu) (hn : (assignEach es X.env).length = n := by rfl) (hst : (assignEach es X.env).findIdx? (·.1) = none := by rfl) : DG X (.Tuple es kk pos) (dTTup n tu) :=
 pg_mono (pg_tup hc h hn hst) fun v σ H Q q => by
  obtain ⟨w, δ, h, A, μ, k, R, r, q, c⟩ := q
  unfold dTTup at q
  split at q
  ·rename_i xs
   obtain ⟨p, vs, rfl, sq, rr⟩ := ref_tuple (h := h) r rfl
   exact ⟨p, vs, rfl, sq.sq, by rw [rr.length]; exact q.1, xs, δ, h, A, μ, k, R, rr, q.2, c⟩
  ·exact q.elim
theorem ds_asg (he : DE X e te) (hg : DG X tg g) (hs : swapsWithSole [tg] e pos.line X.env = pure false := by rfl) (hw : swappedStores [tg] e X.env = pure none := by rfl)
  (h1 : (assignEach [tg] X.env).map (·.2) = [assign tg X.env] := by rfl) : DS X (.Assign [tg] e pos) (dAsg te g) := ps_mono (ps_asg he hg hs hw h1) fun D σ H q => by
 obtain ⟨δ, h, A, μ, E, R, q, L⟩ := q
 refine ⟨δ, h, A, μ, _, R, q, fun w h1 v H1 A1 μ1 q1 x1 R1 r1 => ?_⟩
 exact ⟨w, δ, h1, A1, μ1, E.nx, ⟨R1, R.2.ext x1 R.1.sub⟩, r1, q1, fun δ2 h2 σ2 H2 A2 μ2 q2 x2 R2 => L.nx δ2 h2 σ2 H2 A2 μ2 q2 (x1.trans x2) R2⟩
theorem ds_set {i : Nat} {x : Str} {pos' : Pos} (hN : X.N.Nodup) (he : DE X e te) (hi : X.N[i]? = some x := by rfl) (hx : Loc X.env.scope x := by first | exact Or.inl rfl | exact Or.inr rfl) (hs : swapsWith e (some (.Name x pos')) pos.line X.env = pure false := by rfl)
  (hf : X.fn x = true \/ X.env.scope.names.lookup x = some .local := by first | exact .inl rfl | exact .inr rfl) : DS X (.Assign [.Name x pos'] e pos) (dAsg te (dName i)) := ps_mono (ps_set hN hi hx he hs hf) fun D σ H q => by
 obtain ⟨δ, h, A, μ, E, R, q, L⟩ := q
 refine ⟨δ, h, A, μ, _, R, q, fun w h1 v H1 A1 μ1 q1 x1 R1 r1 => ?_⟩
 exact L.nx _ h1 _ H1 A1 μ1 q1 x1 ⟨R1, (R.2.ext x1 R.1.sub).set i r1⟩
def DFS (X : Cx) (i : Nat) (st : Stmt) (tf : DTF) : Prop := PS X st (tAsg (upF X.K tf) (gName i))
theorem dfs_of {tf : DTF} {i : Nat} {x : Str} {pos' : Pos} (hN : X.N.Nodup) (he : DF X e tf) (hi : X.N[i]? = some x := by rfl) (hx : Loc X.env.scope x := by first | exact Or.inl rfl | exact Or.inr rfl) (hs : swapsWith e (some (.Name x pos')) pos.line X.env = pure false := by rfl)
  (hf : X.fn x = true \/ X.env.scope.names.lookup x = some .local := by first | exact .inl rfl | exact .inr rfl) : DFS X i (.Assign [.Name x pos'] e pos) tf := ps_set hN hi hx he hs hf
theorem ds_frz {tf : DTF} {i : Nat} (h : DFS X i st tf) : DS X st (dAsg (dFrz tf) (dName i)) := ps_mono h fun D σ H q => by
 obtain ⟨δ, h, A, μ, E, R, q, L⟩ := q
 refine ⟨δ, h, A, μ, _, R, q, fun xs h' p H' A' μ' kk x hm hp R' => ?_⟩
 obtain ⟨R1, r1⟩ := heap_freeze R'
 have x1 := ext_freeze R.1 hp x hm
 exact L.nx _ h' _ H' _ μ' kk x1 ⟨R1, (R.2.ext x1 R.1.sub).set i r1⟩
theorem ds_cel {tf : DTF} {i : Nat} (h : DFS X i st tf) : DS X st (dAsg (dCel tf) (dName i)) := ps_mono h fun D σ H q => by
 obtain ⟨δ, h, A, μ, E, R, q, L⟩ := q
 refine ⟨δ, h, A, μ, _, R, q, fun xs h' p H' A' μ' kk x hm hp R' => ?_⟩
 have hl : μ'.length = h'.length := by simpa using R'.len
 exact L.nx _ _ _ H' A' (μ' ++ [p]) kk x ⟨R', (R.2.ext x R.1.sub).set i ⟨p, by rw [<- hl]; simp, rfl⟩⟩
def dApp (to : DTE) (t : DTA) : DTE := fun δ h Q => to δ h fun o h1 => match o with
 | .c j => (match h1[j]? with
  | some (.l _) => t δ h1 fun ws h2 => (match ws, h2[j]? with
   | [.d x], some (.l xs) => xs.length < sizeLine /\ Q (.d .none) (h2.set j (.l (xs ++ [x])))
   | _, _ => False)
  | _ => False)
 | _ => False
theorem de_app {o e0 : Expr} {es : List Expr} {to : DTE} {t : DTA} {apos cpos : Pos} (ho : DE X o to) (ha : DA X (e0 :: es) t)
  (hbase : attributeBase o "append" X.env (eval o X.env) = eval o X.env := by rfl)
  (hfew : ((backTo cpos (starEach (e0 :: es) X.env)).all (fun x => !x.1) && (backToKw cpos (keywordEach [] X.env)).all (fun x => x.1.isSome)
   && decide ((e0 :: es).length + ([] : List Keyword).length + (if ([] : List Keyword).isEmpty then 0 else 1) < 30)) = true := by rfl)
  (hline : (apos.endLine == cpos.line) = true := by rfl) (hs : starEach (e0 :: es) X.env = (false, eval e0 X.env) :: starEach es X.env := by rfl) (hplain : (backTo cpos (starEach es X.env)).any (·.1) = false := by rfl) :
  DE X (.Call (.Attribute o "append" apos) (e0 :: es) [] cpos) (dApp to t) := pe_mono (pe_bm PySem.F.plainAttrs_list PySem.F.slot_list_append PySem.F.type_list_append mt_append ho ha hbase hfew hline hs hplain) fun σ H Q q => by
 obtain ⟨δ, h, A, μ, k, R, q, c⟩ := q
 refine ⟨δ, h, A, μ, _, R, q, fun o h1 vo H1 A1 μ1 q1 x1 R1 r1 => ?_⟩
 split at q1
 ·rename_i j
  obtain ⟨a, ea, rfl⟩ := r1
  split at q1
  rotate_left
  ·exact q1.elim
  rename_i xs1 ex1
  obtain ⟨vs1, hv1, _⟩ := R1.val j a xs1 ea ex1
  refine ⟨.inl ⟨rfl, _, SqL.of hv1⟩, δ, h1, A1, μ1, _, ⟨R1, R.2.ext x1 R.1.sub⟩, q1, fun ws h2 vs H2 A2 μ2 q2 x2 R2 r2 => ?_⟩
  split at q2
  ·rename_i x xs ex
   obtain ⟨v, rfl, rv⟩ := repWs1 r2
   have ea2 : μ2[j]? = some a := by
    obtain ⟨ν, e1, _⟩ := x2.pre
    rw [e1, List.getElem?_append_left (List.getElem?_eq_some_iff.mp ea).1]
    exact ea
   obtain ⟨vs, hv, rr⟩ := R2.val j a xs ea2 ex
   refine ⟨a, vs, v, rfl, rfl, hv, by rw [rr.length]; exact q2.1, ?_⟩
   have hm := List.mem_of_getElem? ea2
   exact c _ _ _ _ A2 μ2 q2.2 ((x1.trans x2).trans (ext_write hm hv)) (heap_write R2 ea2 ((Reps.one rv).append rr)) (by show Rep _ _ _ _ _; rw [Rep])
  ·exact q2.elim
 ·exact q1.elim
end
def cond (c : Option Nat) (xs : List PyData) (h : Cells) : Prop := match c with
 | none => True
 | some i => h[i]? = some (.l xs)
abbrev DTI := DSt -> Cells -> (List PyData -> Option Nat -> Cells -> Prop) -> Prop
def ItOk (K : PySem.W.Frag) (A μ : List Addr) (H : Hp) (J : It) (xs : List PyData) (c : Option Nat) : Prop := ∀ A' μ' H' h', Ext A A' μ μ' H H' -> HeapRep K A' μ' h' H' -> cond c xs h' ->
 (∀ i x, xs[i]? = some x -> J.go i H' /\ ∀ v H2, J.yld i H' v H2 -> Ext A' A' μ' μ' H' H2 /\ HeapRep K A' μ' h' H2 /\ Rep K A' H2 x v) /\ ∀ i, xs.length <= i -> J.stop i H'
def upI (K : PySem.W.Frag) (t : DTI) : TI := fun σ H R => ∃ (δ : DSt) (h : Cells) (A μ : List Addr) (k : List PyData -> Option Nat -> Cells -> Prop), Ab K A μ δ h σ H /\ t δ h k /\
 ∀ xs c h' J H' A' μ', k xs c h' -> Ext A A' μ μ' H H' -> HeapRep K A' μ' h' H' -> xs.length <= sizeLine -> cond c xs h' -> ItOk K A' μ' H' J xs c -> R J H'
def DI (X : Cx) (tg iter : Expr) (t : DTI) : Prop := PI X tg iter (upI X.K t)
theorem pi_mono {X : Cx} {tg e : Expr} {t t' : TI} (h : PI X tg e t) (m : ∀ σ H R, t' σ H R -> t σ H R) : PI X tg e t' := fun pins s σ H R I q => h pins s σ H R I (m σ H R q)
def dEach (te : DTE) : DTI := fun δ h Q => te δ h fun w h1 => match w with
 | .d (.list xs) => Q xs none h1
 | .d (.tuple xs) => Q xs none h1
 | .c i => (match h1[i]? with
  | some (.l xs) => Q xs (some i) h1
  | _ => False)
 | _ => False
def iSeq (K : PySem.W.Frag) (tl : TE) : TI := fun σ H R => tl σ H fun x H1 => ∃ a, x = .ref a /\ ((∃ xs, SqL K H1 a xs /\ (xs.length <= sizeLine -> R (Itl K a) H1)) \/ ∃ xs, SqT K H1 a xs /\ (xs.length <= sizeLine -> R (Itt K a) H1))
theorem pi_seq {X : Cx} {tg l : Expr} {tl : TE} (hl : PE X l tl) : PI X tg l (iSeq X.K tl) := by
 intro pins s σ H R I h
 refine thn (hl pins s σ H _ I h) fun v s1 ⟨x, H1, I1, r1, q1⟩ => ?_
 obtain ⟨a, e, q⟩ := q1
 subst e
 cases r1
 rcases q with ⟨xs, hq, q⟩ | ⟨xs, hq, q⟩
 ·obtain ⟨its, rv, p, hz⟩ := I1.list hq
  refine wpAny_pyIter_list p.isList ⟨s1.heap.objs.size, [s1.heap.objs.size], _, _, H1, rfl, I1.kept (t' := s1.toks) fun b o e => Heap.get?_push_of_some _ e, turn_list a _, ⟨_, Heap.get?_push_size _ rfl, rfl, rfl⟩, fun b hb => ?_, q hz⟩
  rw [List.mem_singleton.mp hb]
  exact I1.fpOk (Nat.le_refl _) (I1.hok.fresh (Nat.le_refl _))
 ·obtain ⟨its, rv, p, hz⟩ := I1.tuple hq
  refine wpAny_pyIter_tuple (show s1.heap.IsTuple a its.toArray from p) ⟨s1.heap.objs.size, [s1.heap.objs.size], _, _, H1, rfl, I1.kept (t' := s1.toks) fun b o e => Heap.get?_push_of_some _ e, turn_tuple a _, ⟨_, Heap.get?_push_size _ rfl, rfl, rfl⟩, fun b hb => ?_, q hz⟩
  rw [List.mem_singleton.mp hb]
  exact I1.fpOk (Nat.le_refl _) (I1.hok.fresh (Nat.le_refl _))
theorem di_each {X : Cx} {tg e : Expr} {te : DTE} (he : DE X e te) : DI X tg e (dEach te) := pi_mono (pi_seq he) fun σ H R q => by
 obtain ⟨δ, h, A, μ, k, Rr, q, c⟩ := q
 refine ⟨δ, h, A, μ, _, Rr, q, fun w h1 v H1 A1 μ1 q1 x1 R1 r1 => ?_⟩
 have listCase : ∀ {xs : List PyData} {cc : Option Nat} {p : Addr} {vs : List V}, cond cc xs h1 -> SqL X.K H1 p vs -> Reps X.K A1 H1 xs vs ->
   (∀ A' μ' H' h', Ext A1 A' μ1 μ' H1 H' -> HeapRep X.K A' μ' h' H' -> cond cc xs h' -> ∃ ws, SqL X.K H' p ws /\ Reps X.K A' H' xs ws) -> k xs cc h1 -> vs.length <= sizeLine -> R (Itl X.K p) H1 := fun {xs cc p vs} hc sq rr st kk hz => by
  refine c xs cc h1 _ H1 A1 μ1 kk x1 R1 (by rw [<- rr.length]; exact hz) hc fun A' μ' H' h' y R' hc' => ?_
  obtain ⟨ws, sq', rr'⟩ := st A' μ' H' h' y R' hc'
  refine ⟨fun i x ex => ?_, fun i hi => ⟨ws, sq', by rw [rr'.length]; exact hi⟩⟩
  obtain ⟨z, ez, rz⟩ := rr'.get ex
  refine ⟨⟨ws, z, sq', ez⟩, fun v H2 hy => ?_⟩
  obtain ⟨e2, hy⟩ := hy
  subst e2
  have := hy ws sq'
  rw [ez] at this
  cases this
  exact ⟨.refl, R', rz⟩
 split at q1
 ·rename_i xs
  have z : Rep X.K A1 H1 (.list xs) v := r1
  rw [Rep] at z
  obtain ⟨p, vs, rfl, la, rr⟩ := z
  refine ⟨p, rfl, .inl ⟨vs, la.sq, fun hz => listCase (cc := none) trivial la.sq rr (fun A' μ' H' h' y R' _ => ?_) q1 hz⟩⟩
  have z : Rep X.K A' H' (.list xs) (.ref p) := Rep.ext y R1.sub (by rw [Rep]; exact ⟨p, vs, rfl, la, rr⟩)
  rw [Rep] at z
  obtain ⟨p', ws, e, la', rr'⟩ := z
  cases e
  exact ⟨ws, la'.sq, rr'⟩
 ·rename_i xs
  obtain ⟨p, vs, rfl, ta, rr⟩ := ref_tuple (h := h1) r1 rfl
  refine ⟨p, rfl, .inr ⟨vs, ta.sq, fun hz => ?_⟩⟩
  refine c xs none h1 _ H1 A1 μ1 q1 x1 R1 (by rw [<- rr.length]; exact hz) trivial fun A' μ' H' h' y R' _ => ?_
  obtain ⟨p', ws, e, ta', rr'⟩ := ref_tuple (h := h1) (r1.ext y R1.sub) rfl
  cases e
  refine ⟨fun i x ex => ?_, fun i hi => ⟨ws, ta'.sq, by rw [rr'.length]; exact hi⟩⟩
  obtain ⟨z, ez, rz⟩ := rr'.get ex
  refine ⟨⟨ws, z, ta'.sq, ez⟩, fun v H2 hy => ?_⟩
  obtain ⟨e2, hy⟩ := hy
  subst e2
  have := hy ws ta'.sq
  rw [ez] at this
  cases this
  exact ⟨.refl, R', rz⟩
 ·rename_i i
  split at q1
  ·rename_i xs ex
   obtain ⟨p, ep, rfl⟩ := r1
   obtain ⟨vs, hv, rr⟩ := R1.val i p xs ep ex
   refine ⟨p, rfl, .inl ⟨vs, .of hv, fun hz => listCase (cc := some i) ex (.of hv) rr (fun A' μ' H' h' y R' hc' => ?_) q1 hz⟩⟩
   have ep' : μ'[i]? = some p := by
    obtain ⟨ν, e1, _⟩ := y.pre
    rw [e1, List.getElem?_append_left (List.getElem?_eq_some_iff.mp ep).1]
    exact ep
   obtain ⟨ws, hw, rr'⟩ := R'.val i p xs ep' hc'
   exact ⟨ws, .of hw, rr'⟩
  ·exact q1.elim
 ·exact q1.elim
def rng (lo : Int) (n : Nat) : List PyData := (List.range n).map fun (i : Nat) => .int (lo + (i : Int))
def dRange1 (t : DTA) : DTI := fun δ h Q => t δ h fun ws h1 => match ws with
 | [.d (.int j)] => (j <= 16000000 /\ -(2 ^ 62) <= j) /\ Q (rng 0 j.toNat) none h1
 | _ => False
def dRange2 (t : DTA) : DTI := fun δ h Q => t δ h fun ws h1 => match ws with
 | [.d (.int i), .d (.int j)] => (j - i <= 16000000 /\ -(2 ^ 62) <= i /\ i < 2 ^ 62 /\ -(2 ^ 62) <= j /\ j < 2 ^ 62) /\ Q (rng i (j - i).toNat) none h1
 | _ => False
theorem rng_len (lo : Int) (n : Nat) : (rng lo n).length = n := by unfold rng; simp
theorem itr_ok {K : PySem.W.Frag} {A μ : List Addr} {H : Hp} (lo : Int) (n : Nat) : ItOk K A μ H (Itr lo n) (rng lo n) none := fun A' μ' H' h' y R' _ => by
 refine ⟨fun i x ex => ?_, fun i hi => by rw [rng_len] at hi; exact hi⟩
 have hi : i < n := by rw [<- rng_len lo n]; exact (List.getElem?_eq_some_iff.mp ex).1
 refine ⟨hi, fun v H2 hy => ?_⟩
 obtain ⟨e, hv⟩ := hy
 subst e hv
 unfold rng at ex
 rw [List.getElem?_map, List.getElem?_range hi] at ex
 cases ex
 exact ⟨.refl, R', repI⟩
theorem di_range1 {X : Cx} {tg a : Expr} {t : DTA} {p pos : Pos} (hm : X.mg "range" = none) (ha : DA X [a] t) (hg : Gl X "range" := by rfl) (hs : starEach [a] X.env = [(false, eval a X.env)] := by rfl) : DI X tg (.Call (.Name "range" p) [a] [] pos) (dRange1 t) :=
 pi_mono (pi_range1 hg hm ha hs) fun σ H R q => by
  obtain ⟨δ, h, A, μ, k, Rr, q, c⟩ := q
  refine ⟨δ, h, A, μ, _, Rr, q, fun ws h1 vs H1 A1 μ1 q1 x1 R1 r1 => ?_⟩
  split at q1
  ·rename_i j
   obtain ⟨v, rfl, rv⟩ := repWs1 r1
   have e := repW_int rv
   subst e
   obtain ⟨⟨z1, z2⟩, q1⟩ := q1
   refine ⟨j, rfl, z2, by omega, c _ _ h1 _ H1 A1 μ1 q1 x1 R1 ?_ trivial (itr_ok 0 j.toNat)⟩
   rw [rng_len]
   show j.toNat <= 2 ^ 24
   omega
  ·exact q1.elim
theorem di_range2 {X : Cx} {tg a b : Expr} {t : DTA} {p pos : Pos} (hm : X.mg "range" = none) (ha : DA X [a, b] t) (hg : Gl X "range" := by rfl) (hs : starEach [a, b] X.env = [(false, eval a X.env), (false, eval b X.env)] := by rfl) (hs2 : starEach [b] X.env = [(false, eval b X.env)] := by rfl) :
  DI X tg (.Call (.Name "range" p) [a, b] [] pos) (dRange2 t) :=
 pi_mono (pi_range2 hg hm ha hs hs2) fun σ H R q => by
  obtain ⟨δ, h, A, μ, k, Rr, q, c⟩ := q
  refine ⟨δ, h, A, μ, _, Rr, q, fun ws h1 vs H1 A1 μ1 q1 x1 R1 r1 => ?_⟩
  split at q1
  ·rename_i i j
   obtain ⟨v, r, rfl, rv, r2⟩ := r1
   obtain ⟨v', rfl, rv'⟩ := repWs1 r2
   have e := repW_int rv
   have e' := repW_int rv'
   subst e e'
   obtain ⟨⟨z1, z2⟩, q1⟩ := q1
   refine ⟨i, j, rfl, z2, c _ _ h1 _ H1 A1 μ1 q1 x1 R1 ?_ trivial (itr_ok i (j - i).toNat)⟩
   rw [rng_len]
   show (j - i).toNat <= 2 ^ 24
   omega
  ·exact q1.elim
def forL (g : DTG) (tb : DTS) (c : Option Nat) (all : List PyData) : List PyData -> DTS
 | [], E, δ, h => cond c all h /\ E.nx δ h
 | x :: r, E, δ, h => cond c all h /\ g (.d x) δ h fun δ2 h2 => tb { nx := forL g tb c all r E, ct := forL g tb c all r E, bk := E.nx, rt := E.rt } δ2 h2
def dFor (ti : DTI) (g : DTG) (tb : DTS) : DTS := fun E δ h => ti δ h fun xs c h1 => forL g tb c xs xs E δ h1
def compL (g : DTG) (tt : DTT) (te : DTE) (c : Option Nat) (all : List PyData) : List PyData -> DSt -> Cells -> List PyData -> (List PyData -> Cells -> Prop) -> Prop
 | [], _, h, ac, Q => cond c all h /\ Q ac h
 | x :: r, δ, h, ac, Q => cond c all h /\ g (.d x) δ h fun δ2 h2 => tt δ2 h2 fun b h3 =>
  if b = true then te δ2 h3 fun w h4 => (match w with
   | .d y => compL g tt te c all r δ2 h4 (ac ++ [y]) Q
   | .c _ => False
   | .v _ => False)
  else compL g tt te c all r δ2 h3 ac Q
def dpick (ixs : List (Option Nat)) (δ : DSt) : DSt := ixs.map fun o => o.bind fun i => (δ[i]?).bind id
def dComp (ixs : List (Option Nat)) (ti : DTI) (g : DTG) (tt : DTT) (te : DTE) : DTF := fun δ h Q => ti δ h fun xs c h1 => compL g tt te c xs xs (dpick ixs δ) h1 [] Q
def DIf (X : Cx) (ifs : List Expr) (t : DTT) : Prop := PIf X ifs (upT X.K t)
def dYes : DTT := fun _ h Q => Q true h
section
variable {K : PySem.W.Frag} {A A' μ μ' : List Addr} {H H' : Hp} {h h' : Cells}
theorem dpick_rep {δ : DSt} {σ : L2.St} {ixs : List (Option Nat)} (r : EnvRep K A μ H δ σ) : EnvRep K A μ H (dpick ixs δ) (pick ixs σ) := by
 refine ⟨by unfold dpick pick; rw [List.length_map, List.length_map], fun j w e => ?_⟩
 unfold dpick at e
 rw [List.getElem?_map] at e
 cases q : ixs[j]? with
 | none => rw [q] at e; cases e
 | some o =>
  rw [q] at e
  cases o with
  | none => cases e
  | some i =>
   have e' : (δ[i]?).bind id = some w := Option.some.inj e
   cases q2 : δ[i]? with
   | none => rw [q2] at e'; cases e'
   | some z =>
    rw [q2] at e'
    have e3 : z = some w := e'
    subst e3
    obtain ⟨v, e4, r4⟩ := r.val i w q2
    refine ⟨v, ?_, r4⟩
    unfold pick
    rw [List.getElem?_map, q]
    show some ((σ[i]?).bind id) = _
    rw [e4]
    rfl
theorem ext_aside0 {p : Addr} {o : HO} (hp : H p = none) : Ext A (p :: A) μ μ H (upd H p o) :=
 ⟨fun _ z => List.mem_cons_of_mem _ z, fun a z => (List.mem_cons.mp z).elim (fun e => .inr (by rw [e]; exact hp)) .inl, ⟨[], by simp, fun _ z => (nomatch z)⟩,
  fun a o' _ q => by rw [upd_ne (ne_of_none q hp)]; exact q, fun a o' q => ⟨o', by rw [upd_ne (ne_of_none q hp)]; exact q⟩⟩
theorem heap_aside0 {p : Addr} {o : HO} (R : HeapRep K A μ h H) (hp : H p = none) : HeapRep K (p :: A) μ h (upd H p o) := by
 refine ⟨R.len, R.nd, fun a z => List.mem_cons_of_mem _ (R.sub a z), fun a z => ?_, fun i a xs e1 e2 => ?_⟩
 ·rcases List.mem_cons.mp z with e | z
  ·subst e; exact ⟨_, upd_same⟩
  ·obtain ⟨o', q⟩ := R.trk a z
   exact ⟨o', by rw [upd_ne (ne_of_none q hp)]; exact q⟩
 ·have k := R.cel i a xs e1 e2
  obtain ⟨o', q⟩ := k.some
  exact k.ext (ext_aside0 (μ := μ) hp) R.sub (upd_ne (ne_of_none q hp))
theorem acc_keep {p : Addr} {o : HO} (x : Ext A A' μ μ' H H') (h1 : H p = some o) (h2 : p ∈ A) (h3 : p ∉ μ) : H' p = some o /\ p ∈ A' /\ p ∉ μ' := by
 refine ⟨x.keep p o h3 h1, x.sub p h2, fun z => ?_⟩
 obtain ⟨ν, e, n⟩ := x.pre
 rw [e] at z
 rcases List.mem_append.mp z with z | z
 ·exact h3 z
 ·rw [n p z] at h1; cases h1
theorem RepW.upd {p : Addr} {o : HO} (hp : p ∈ A) {w : W} {v : V} (r : RepW K A μ H w v) : RepW K A μ (L2.upd H p o) w v := by
 cases w with
 | d x => exact Rep.upd hp r
 | c i => exact r
 | v u => exact r
theorem EnvRep.upd {p : Addr} {o : HO} (hp : p ∈ A) {δ : DSt} {σ : L2.St} (r : EnvRep K A μ H δ σ) : EnvRep K A μ (L2.upd H p o) δ σ := ⟨r.len, fun i w e => by
 obtain ⟨v, e1, r1⟩ := r.val i w e
 exact ⟨v, e1, r1.upd hp⟩⟩
theorem Ext.aside {p : Addr} {o : HO} (x : Ext A A' μ μ' H H') (hp : H p = none) : Ext A A' μ μ' H (upd H' p o) :=
 ⟨x.sub, x.new, x.pre, fun a o' ha q => by rw [upd_ne (ne_of_none q hp)]; exact x.keep a o' ha q, fun a o' q => by rw [upd_ne (ne_of_none q hp)]; exact x.trk a o' q⟩
theorem Ext.addc {p : Addr} (x : Ext A A' μ μ' H H') (hp : H p = none) : Ext A A' μ (μ' ++ [p]) H H' := by
 obtain ⟨ν, e, n⟩ := x.pre
 exact ⟨x.sub, x.new, ⟨ν ++ [p], by rw [e, List.append_assoc], fun a z => (List.mem_append.mp z).elim (n a) fun z => by rw [List.mem_singleton.mp z]; exact hp⟩, x.keep, x.trk⟩
theorem heap_addc {p : Addr} {xs : List PyData} {vs : List V} (R : HeapRep K A μ h H) (h1 : H p = some (.lst vs)) (h2 : p ∈ A) (h3 : p ∉ μ) (r : Reps K A H xs vs) : HeapRep K A (μ ++ [p]) (h ++ [(.l xs)]) H := by
 refine ⟨by rw [List.length_append, List.length_append, R.len]; rfl, ?_, fun a z => ?_, R.trk, fun i a ys e1 e2 => ?_⟩
 ·rw [List.nodup_append]
  refine ⟨R.nd, (by simp), fun a ha b hb => ?_⟩
  rw [List.mem_singleton.mp hb]
  rintro rfl
  exact h3 ha
 ·rcases List.mem_append.mp z with z | z
  ·exact R.sub a z
  ·rw [List.mem_singleton.mp z]; exact h2
 ·by_cases hi : i < μ.length
  ·rw [List.getElem?_append_left hi] at e1
   rw [List.getElem?_append_left (by rw [<- R.len]; exact hi)] at e2
   exact R.cel i a ys e1 e2
  ·have hle : μ.length <= i := Nat.le_of_not_lt hi
   rw [List.getElem?_append_right hle] at e1
   rw [List.getElem?_append_right (by rw [<- R.len]; exact hle), <- R.len] at e2
   have hz : i - μ.length = 0 := by
    have := (List.getElem?_eq_some_iff.mp e1).1
    simp at this
    omega
   rw [hz] at e1 e2
   simp at e1 e2
   subst e1 e2
   exact ⟨vs, h1, r⟩
end
section
variable {X : Cx} {tg iter elt : Expr} {ifs : List Expr} {sc S : Scope} {N' : List Str} {ixs : List (Option Nat)} {body : List Stmt} {ti : DTI} {g : DTG} {tb : DTS} {tt : DTT} {te : DTE} {pos : Pos}
theorem dif_nil : DIf X [] dYes := fun pins s σ H Q I q => by
 obtain ⟨δ, h, A, μ, k, R, q, c⟩ := q
 exact pif_nil pins s σ H Q I (c true h H A μ q .refl R.1)
theorem dif_one {c : Expr} (h : DT X c tt) : DIf X [c] tt := pif_one h
theorem ds_for (hxe : X.xe = fun _ _ => False) (hc : X.calm = true) (hi : DI X tg iter ti) (hg : DG X tg g) (hb : DSs X body tb) (hs : ∀ x, foldedSetIterable iter X.env x = pure x := by intro _; rfl) : DS X (.For tg iter body [] pos) (dFor ti g tb) :=
 ps_mono (ps_for (by rw [hxe]; exact PassesOwn.never) hc hi hg hb hs) fun D σ H q => by
  obtain ⟨δ, h, A, μ, E, R, q, L⟩ := q
  refine ⟨δ, h, A, μ, _, R, q, fun xs c h1 J H1 A1 μ1 q1 x1 R1 hz hcd it => ?_⟩
  refine ⟨fun i m σ' H' => ∃ δ' h' A' μ', m = xs.length - i /\ i <= xs.length /\ Ext A1 A' μ1 μ' H1 H' /\ Ab X.K A' μ' δ' h' σ' H' /\ forL g tb c xs (xs.drop i) E δ' h', ⟨_, δ, h1, A1, μ1, rfl, Nat.zero_le _, .refl, ⟨R1, R.2.ext x1 R.1.sub⟩, by simpa using q1⟩, ?_⟩
  rintro i m σ' H' ⟨δ', h', A', μ', rfl, hi, y, R', q'⟩
  by_cases hlt : i < xs.length
  ·rw [List.drop_eq_getElem_cons hlt] at q'
   obtain ⟨hcond, q'⟩ := q'
   obtain ⟨it1, _⟩ := it A' μ' H' h' y R'.1 hcond
   obtain ⟨go, yl⟩ := it1 i xs[i] (by simp [hlt])
   refine .inr ⟨go, fun σ2 H2 => ∃ δ2 h2 A2 μ2, Ext A1 A2 μ1 μ2 H1 H2 /\ Ab X.K A2 μ2 δ2 h2 σ2 H2 /\ forL g tb c xs (xs.drop (i + 1)) E δ2 h2, fun σ2 H2 ⟨δ2, h2, A2, μ2, z1, z2, z3⟩ => ⟨xs.length - (i + 1), by omega, δ2, h2, A2, μ2, rfl, hlt, z1, z2, z3⟩, fun v H2 hy => ?_⟩
   obtain ⟨y2, R2, r2⟩ := yl v H2 hy
   refine ⟨.d xs[i], δ', h', A', μ', _, ⟨R2, R'.2.ext y2 R'.1.sub⟩, r2, q', fun δ3 h3 σ3 H3 A3 μ3 q3 x3 R3 => ?_⟩
   have y3 := (y.trans y2).trans x3
   refine ⟨δ3, h3, A3, μ3, _, R3, q3, ⟨fun δ4 h4 σ4 H4 A4 μ4 q4 x4 R4 => ⟨δ4, h4, A4, μ4, y3.trans x4, R4, q4⟩, fun δ4 h4 σ4 H4 A4 μ4 q4 x4 R4 => L.nx δ4 h4 σ4 H4 A4 μ4 q4 (x1.trans (y3.trans x4)) R4,
    fun δ4 h4 σ4 H4 A4 μ4 q4 x4 R4 => ⟨δ4, h4, A4, μ4, y3.trans x4, R4, q4⟩, fun w h4 v H4 A4 μ4 q4 x4 R4 r4 => L.rt w h4 v H4 A4 μ4 q4 (x1.trans (y3.trans x4)) R4 r4⟩⟩
  ·have e : i = xs.length := by omega
   subst e
   rw [List.drop_length] at q'
   obtain ⟨hcond, q'⟩ := q'
   obtain ⟨_, it2⟩ := it A' μ' H' h' y R'.1 hcond
   exact .inl ⟨it2 _ (Nat.le_refl _), L.nx δ' h' σ' H' A' μ' q' (x1.trans y) R'⟩
theorem up_comp {σ : L2.St} {H : Hp} {Q : VK} (q : upF X.K (dComp ixs ti g tt te) σ H Q) : tComp ixs (upI X.K ti) (upG X.K g) (upT X.K tt) (up X.K te) σ H Q := by
 obtain ⟨δ, h, A, μ, k, R, q, c⟩ := q
 refine ⟨δ, h, A, μ, _, R, q, fun xs cc h1 J H2 A1 μ1 q1 x1 R1 hz hcd it => ?_⟩
 intro acc hacc
 have nA := R1.notA hacc
 have E1 := dpick_rep (ixs := ixs) (R.2.ext x1 R.1.sub)
 refine ⟨fun i m ys σ' H' => ∃ δ' h' A' μ' ac, m = xs.length - i /\ i <= xs.length /\ H' acc = some (.lst ys) /\ acc ∈ A' /\ acc ∉ μ' /\ Ext A1 A' μ1 μ' H2 H' /\ Ab X.K A' μ' δ' h' σ' H' /\ Reps X.K A' H' ac ys /\ ys.length <= i /\ compL g tt te cc xs (xs.drop i) δ' h' ac k,
  ⟨_, dpick ixs δ, h1, acc :: A1, μ1, [], rfl, Nat.zero_le _, upd_same, List.mem_cons_self, fun z => nA (R1.sub _ z), ext_aside0 hacc, ⟨heap_aside0 R1 hacc, E1.ext (ext_aside0 hacc) R1.sub⟩, .nil, Nat.le_refl _, by simpa using q1⟩, ?_⟩
 rintro i m ys σ' H' ⟨δ', h', A', μ', ac, rfl, hi, a1, a2, a3, y, R', rr, hyl, q'⟩
 by_cases hlt : i < xs.length
 ·rw [List.drop_eq_getElem_cons hlt] at q'
  obtain ⟨hcond, q'⟩ := q'
  obtain ⟨it1, _⟩ := it A' μ' H' h' y R'.1 hcond
  obtain ⟨go, yl⟩ := it1 i xs[i] (by simp [hlt])
  refine .inr ⟨go, fun v H3 hy => ?_⟩
  obtain ⟨y2, R2, r2⟩ := yl v H3 hy
  refine ⟨.d xs[i], δ', h', A', μ', _, ⟨R2, R'.2.ext y2 R'.1.sub⟩, r2, q', fun δ4 h4 σ4 H4 A4 μ4 q4 x4 R4 => ?_⟩
  refine ⟨δ4, h4, A4, μ4, _, R4, q4, fun b h5 H5 A5 μ5 q5 x5 R5 => ?_⟩
  have z5 := (y2.trans x4).trans x5
  obtain ⟨b1, b2, b3⟩ := acc_keep z5 a1 a2 a3
  dsimp only at q5 ⊢
  cases b with
  | false =>
   rw [if_neg Bool.false_ne_true] at q5
   rw [if_neg Bool.false_ne_true]
   exact ⟨xs.length - (i + 1), by omega, δ4, h5, A5, μ5, ac, rfl, hlt, b1, b2, b3, y.trans z5, ⟨R5, R4.2.ext x5 R4.1.sub⟩, rr.ext z5 R'.1.sub, by omega, q5⟩
  | true =>
   rw [if_pos rfl] at q5
   rw [if_pos rfl]
   refine ⟨δ4, h5, A5, μ5, _, ⟨R5, R4.2.ext x5 R4.1.sub⟩, q5, fun w h6 v6 H6 A6 μ6 q6 x6 R6 r6 => ?_⟩
   have z6 := z5.trans x6
   obtain ⟨c1, c2, c3⟩ := acc_keep z6 a1 a2 a3
   cases w with
   | c j => exact q6.elim
   | v u => exact q6.elim
   | d d6 =>
    have hl6 : ys.length < sizeLine := by omega
    refine ⟨c1, hl6, xs.length - (i + 1), by omega, δ4, h6, A6, μ6, ac ++ [d6], rfl, hlt, upd_same, c2, c3, (y.trans z6).aside hacc, ⟨heap_aside R6 c2 c3, ((R4.2.ext x5 R4.1.sub).ext x6 R5.sub).upd c2⟩, ?_, ?_, q6⟩
    ·exact ((Reps.one r6).append (rr.ext z6 R'.1.sub)).upd c2
    ·rw [List.length_append, List.length_singleton]
     omega
 ·have e : i = xs.length := by omega
  subst e
  rw [List.drop_length] at q'
  obtain ⟨hcond, q'⟩ := q'
  obtain ⟨_, it2⟩ := it A' μ' H' h' y R'.1 hcond
  have x2 := x1.trans y
  obtain ⟨ν, e1, _⟩ := x2.pre
  exact .inl ⟨it2 _ (Nat.le_refl _), a1, c _ h' acc H' A' μ' q' (x2.addc (x1.back hacc)) ⟨ν, e1⟩ (x1.back hacc) (heap_addc R'.1 a1 a2 a3 rr)⟩
theorem df_comp {N : List Str} (hxe : X.xe = fun _ _ => False) (hc : X.calm = true) (hS : X.env.scope = S) (hXN : X.N = N) (SC : CompSc N N' ixs S sc) (hi : DI X tg iter ti)
  (hg : ∀ cl C s H fp, DG (blk X N' sc cl C s H fp) tg g) (ht : ∀ cl C s H fp, DIf (blk X N' sc cl C s H fp) ifs tt) (he : ∀ cl C s H fp, DE (blk X N' sc cl C s H fp) elt te)
  (hs : ∀ x, foldedSetIterable iter X.env x = pure x := by intro _; rfl) : DF X (.ListComp elt [⟨tg, iter, ifs, 0⟩] sc pos) (dComp ixs ti g tt te) :=
 pe_mono (pe_comp (N' := N') (ixs := ixs) (g := upG X.K g) (tt := upT X.K tt) (te := up X.K te) hxe hc hS (by rw [hXN]; exact SC) hi hg ht he hs) fun _ _ _ q => up_comp q
theorem dfs_comp {y : Str} {i : Nat} {py spos : Pos} {N : List Str} (hN : X.N.Nodup) (hxe : X.xe = fun _ _ => False) (hc : X.calm = true) (hS : X.env.scope = S) (hXN : X.N = N) (SC : CompSc N N' ixs S sc) (hi : DI X tg iter ti)
  (hg : ∀ cl C s H fp, DG (blk X N' sc cl C s H fp) tg g) (ht : ∀ cl C s H fp, DIf (blk X N' sc cl C s H fp) ifs tt) (he : ∀ cl C s H fp, DE (blk X N' sc cl C s H fp) elt te)
  (hiN : X.N[i]? = some y := by rfl) (hy : X.env.scope.names.lookup y = some .local := by rfl) (hsw : swapsWith (.ListComp elt [⟨tg, iter, ifs, 0⟩] sc pos) (some (.Name y py)) spos.line X.env = pure true := by rfl)
  (hs : ∀ x, foldedSetIterable iter X.env x = pure x := by intro _; rfl) : DFS X i (.Assign [.Name y py] (.ListComp elt [⟨tg, iter, ifs, 0⟩] sc pos) spos) (dComp ixs ti g tt te) :=
 ps_mono (ps_setComp (N' := N') (ixs := ixs) (g := upG X.K g) (tt := upT X.K tt) (te := up X.K te) hxe hc hS (by rw [hXN]; exact SC) hi hg ht he hN hiN hy hsw hs) fun _ _ _ q => up_comp q
end
def dstart (N : List Str) (ws : List W) : DSt := ws.map some ++ List.replicate (N.length - ws.length) none
def dends (n : Nat) (k : PyData -> Cells -> Prop) : DEnds where
 nx := fun _ h => k .none (h.take n)
 rt := fun w h => match w with
  | .d x => k x (h.take n)
  | .c i => (match h[i]? with
   | some (.l xs) => n <= i /\ k (.list xs) (h.take n)
   | some (.k kvs) => n <= i /\ k (.dict kvs) (h.take n)
   | _ => False)
  | .v _ => False
theorem repWs_len {K : PySem.W.Frag} {A μ : List Addr} {H : Hp} : ∀ {ws : List W} {vs : List V}, RepWs K A μ H ws vs -> vs.length = ws.length
 | [], _, h => by have e : _ = [] := h; subst e; rfl
 | w :: ws, _, h => by
  obtain ⟨v, r, rfl, _, h⟩ := h
  rw [List.length_cons, List.length_cons, repWs_len h]
theorem repWs_get {K : PySem.W.Frag} {A μ : List Addr} {H : Hp} : ∀ {ws : List W} {vs : List V} {i : Nat} {w : W}, RepWs K A μ H ws vs -> ws[i]? = some w -> ∃ v, vs[i]? = some v /\ RepW K A μ H w v
 | [], _, _, _, _, e => by simp at e
 | y :: ws, _, 0, w, h, e => by
  obtain ⟨v, r, rfl, hv, _⟩ := h
  simp at e; subst e
  exact ⟨v, rfl, hv⟩
 | y :: ws, _, i + 1, w, h, e => by
  obtain ⟨v, r, rfl, _, h⟩ := h
  obtain ⟨u, e1, e2⟩ := repWs_get (i := i) h (by simpa using e)
  exact ⟨u, by simpa using e1, e2⟩
theorem start_rep {K : PySem.W.Frag} {A μ : List Addr} {H : Hp} {N : List Str} {ws : List W} {vs : List V} (r : RepWs K A μ H ws vs) : EnvRep K A μ H (dstart N ws) (L2.start N vs) := by
 have hl := repWs_len r
 refine ⟨by unfold dstart L2.start; simp [hl], fun i w e => ?_⟩
 unfold dstart at e
 by_cases hi : i < ws.length
 ·rw [List.getElem?_append_left (by simpa using hi), List.getElem?_map] at e
  cases q : ws[i]? with
  | none => rw [q] at e; cases e
  | some w' =>
   rw [q] at e
   cases e
   obtain ⟨v, e1, r1⟩ := repWs_get r q
   refine ⟨v, ?_, r1⟩
   unfold L2.start
   rw [List.getElem?_append_left (by simp; omega), List.getElem?_map, e1]
   rfl
 ·rw [List.getElem?_append_right (by simpa using hi), List.getElem?_replicate] at e
  split at e <;> cases e
theorem leave_ext {K : PySem.W.Frag} {A A1 μ μ1 : List Addr} {h h1 : Cells} {H H1 : Hp} (R : HeapRep K A μ h H) (R1 : HeapRep K A1 μ1 h1 H1) (x : Ext A A1 μ μ1 H H1) : Ext A A μ μ H H1 /\ HeapRep K A μ (h1.take h.length) H1 := by
 obtain ⟨ν, e, n⟩ := x.pre
 have hle : μ.length <= h1.length := by
  rw [<- R1.len, e, List.length_append]
  omega
 refine ⟨⟨fun _ z => z, fun _ z => .inl z, ⟨[], by simp, fun _ z => (nomatch z)⟩, x.keep, x.trk⟩, ⟨by rw [List.length_take, <- R.len]; omega, R.nd, R.sub, fun a z => ?_, fun i a xs e1 e2 => ?_⟩⟩
 ·obtain ⟨o, q⟩ := R.trk a z
  exact x.trk a o q
 ·have hi : i < μ.length := (List.getElem?_eq_some_iff.mp e1).1
  exact (R1.cel i a xs (by rw [e, List.getElem?_append_left hi]; exact e1) (by rw [<- R.len] at e2; rw [List.getElem?_take_of_lt hi] at e2; exact e2)).anti x.sub
section
variable {P : Program} {w : World} {K : PySem.W.Frag} {mg : Str -> Option Value} {base : Heap}
theorem funC {x qual : Str} {st : Stmt} {f : Addr} {fd : FuncData} {N ps : List Str} {k : Nat} {sp : Sp} (F : Fun K x qual st f fd) (S : FnScope N ps (defScope st)) (len : ∀ vs H Q E, sp vs H Q E -> vs.length = ps.length)
  (hbody : ∀ (cdv : Value) (A : Around) (outer : List Env) (s : Shared) (H : Hp) (vs : List V) (Q : VK) (E : XK), fd.code = cdv -> Room k (A.deeper (envOfC qual (defScope st) s.heap.objs.size f cdv)) -> sp vs H Q E ->
   ∃ t, PSs (cxOf CX0 P w K mg base N qual (defScope st) f cdv A outer s H E).nox (defBody st) t /\ t { nx := fun _ H' => Q .non H', rt := Q } (start N vs) H) : FnOk P w K mg base CX0 (k + 1) f fd ps sp := by
 obtain ⟨oc, od, kV, doc, pm, an, cdv, ct, osl, rfl, lk, hcd⟩ := F.ex
 refine fn_of lk hcd S len fun A outer s H vs Q E hr hsp => ?_
 obtain ⟨t, h, q⟩ := hbody cdv A outer s H vs Q E rfl hr hsp
 exact ⟨t, h.nox, q⟩
theorem dfn {x qual : Str} {st : Stmt} {f : Addr} {fd : FuncData} {N ps : List Str} {k : Nat} {d : DSp} (F : Fun K x qual st f fd) (S : FnScope N ps (defScope st)) (len : ∀ ws h k, d ws h k -> ws.length = ps.length)
  (hbody : ∀ (cdv : Value) (A : Around) (outer : List Env) (s : Shared) (H : Hp) (E : XK), fd.code = cdv -> Room k (A.deeper (envOfC qual (defScope st) s.heap.objs.size f cdv)) ->
   ∃ t, DSs (cxOf CX0 P w K mg base N qual (defScope st) f cdv A outer s H E).nox (defBody st) t /\ ∀ ws h kk, d ws h kk -> t (dends h.length kk) (dstart N ws) h) : FnOk P w K mg base CX0 (k + 1) f fd ps (upSp K d) := by
 refine funC F S (fun vs H Q E ⟨ws, h, A, μ, kk, R, r, q, c⟩ => by rw [repWs_len r]; exact len _ _ _ q) fun cdv A outer s H vs Q E hcd hr hsp => ?_
 obtain ⟨ws, h, B, μ, kk, R, r, q, c⟩ := hsp
 obtain ⟨t, ht, hq⟩ := hbody cdv A outer s H E hcd hr
 refine ⟨_, ht, dstart N ws, h, B, μ, dends h.length kk, ⟨R, start_rep r⟩, hq ws h kk q, ⟨fun δ' h' σ' H' A' μ' q' x' R' => ?_, fun δ' h' σ' H' A' μ' q' x' R' => q'.elim, fun δ' h' σ' H' A' μ' q' x' R' => q'.elim, fun z h' v H' A' μ' q' x' R' r' => ?_⟩⟩
 ·obtain ⟨y, R2⟩ := leave_ext R R'.1 x'
  exact c _ _ _ _ B q' y R2 (by rw [Rep])
 ·obtain ⟨y, R2⟩ := leave_ext R R' x'
  cases z with
  | d z => exact c _ _ _ _ B q' y R2 (Rep.anti x'.sub r')
  | v u => exact q'.elim
  | c i =>
   obtain ⟨a, ea, rfl⟩ := r'
   have q2 : (match h'[i]? with | some (.l xs) => h.length <= i /\ kk (.list xs) (h'.take h.length) | some (.k kvs) => h.length <= i /\ kk (.dict kvs) (h'.take h.length) | _ => False) := q'
   cases e : h'[i]? with
   | none => rw [e] at q2; exact q2.elim
   | some cc =>
    cases cc with
    | t _ _ _ => rw [e] at q2; exact q2.elim
    | l xs =>
     rw [e] at q2
     obtain ⟨hi, q3⟩ := q2
     obtain ⟨vs, hv, rr⟩ := R'.val i a xs ea e
     refine c _ _ _ _ B q3 y R2 ?_
     rw [Rep]
     refine ⟨a, vs, rfl, .inl ⟨fun z => ?_, .inl hv⟩, rr.anti x'.sub⟩
     obtain ⟨ν, e1, n⟩ := x'.pre
     rw [e1, List.getElem?_append_right (by rw [R.len]; exact hi)] at ea
     have := n a (List.mem_of_getElem? ea)
     obtain ⟨o, q⟩ := R.trk a z
     rw [this] at q; cases q
    | k kvs =>
     rw [e] at q2
     obtain ⟨hi, q3⟩ := q2
     obtain ⟨vs, hv, rr⟩ := R'.vad i a kvs ea e
     refine c _ _ _ _ B q3 y R2 ?_
     rw [Rep]
     refine ⟨a, vs, rfl, ⟨fun z => ?_, .inl hv⟩, rr.anti x'.sub⟩
     obtain ⟨ν, e1, n⟩ := x'.pre
     rw [e1, List.getElem?_append_right (by rw [R.len]; exact hi)] at ea
     have := n a (List.mem_of_getElem? ea)
     obtain ⟨o, q⟩ := R.trk a z
     rw [this] at q; cases q
theorem dfn_mk {x qual : Str} {st : Stmt} {f : Addr} {fd : FuncData} {ps : List Str} {k : Nat} {d : DSp} (h : FnOk P w K mg base CX0 k f fd ps (upSp K d)) (hm : mg x = some (.ref f)) (F : Fun K x qual st f fd) (b : Binds K fd ps []) : DFn P w K mg base k x d := ⟨f, fd, ps, h, hm, F.kp, b⟩
end
end DL
namespace DL
open PySem PySem.Spec PyProof.Rows L2
section
variable {X : Cx} {a b e : Expr} {es : List Expr} {ta tb te : DTE} {t : DTA} {pos p p2 : Pos} {x : Str}
theorem op_catL : OpR X (binaryOp .Add) (fun x y H Q => ∃ a b xs ys, x = .ref a /\ y = .ref b /\ SqL X.K H a xs /\ SqL X.K H b ys /\ xs.length + ys.length <= sizeLine /\ ∀ p, H p = none -> Q (.ref p) (upd H p (.lst (xs ++ ys)))) := by
 intro pins s σ H x y v u Q I rx ry h
 obtain ⟨a, b, xs, ys, rfl, rfl, ha, hb, hz, q⟩ := h
 cases rx
 cases ry
 obtain ⟨its, r1, p1, _⟩ := I.list ha
 obtain ⟨its2, r2, p2, _⟩ := I.list hb
 obtain ⟨⟨cls, dd, data, sl⟩, n, ho, hc, _, hd⟩ := id p1
 obtain ⟨⟨cls2, dd2, data2, sl2⟩, n2, ho2, hc2, _, hd2⟩ := id p2
 simp only at hc hd hc2 hd2
 subst hc hd hc2 hd2
 have l1 := r1.length
 have l2 := r2.length
 have ea : its.toArray ++ its2.toArray = (its ++ its2).toArray := by simp
 refine concat_meets ⟨_, ho, rfl⟩ ⟨_, ho2, rfl⟩ noFill_list_add seq_list_add PySem.F.slot_list_add PySem.F.entry_list_add (PySem.F.args_list_add_2 _ _) (list_addW a b its.toArray its2.toArray n n2 dd dd2 sl sl2 (by rw [List.size_toArray, List.size_toArray]; omega)) ⟨ho, ho2, ?_⟩
 rw [ea]
 exact ⟨.ref _, _, I.lnew (t' := s.toks) (r1.append r2) (by rw [List.length_append]; exact hz), rfl, q _ I.fresh⟩
def bools : List PyData -> Option (List Bool)
 | [] => some []
 | .bool b :: r => (bools r).map (b :: ·)
 | _ :: _ => none
theorem bools_reps {K : PySem.W.Frag} {A : List Addr} {H : Hp} : ∀ {xs : List PyData} {bs : List Bool} {vs : List V}, bools xs = some bs -> Reps K A H xs vs -> vs = bs.map V.bl
 | [], _, _, e, h => by rw [Reps] at h; cases e; exact h
 | x :: r, bs, vs, e, h => by
  rw [Reps] at h
  obtain ⟨v, rr, rfl, hv, h⟩ := h
  cases x with
  | bool b =>
   unfold bools at e
   cases q : bools r with
   | none => rw [q] at e; cases e
   | some cs =>
    rw [q] at e
    have e' : b :: cs = bs := Option.some.inj e
    subst e'
    rw [Rep] at hv
    rw [hv, bools_reps q h]
    rfl
  | _ => cases e
theorem range_all {f : Nat -> Bool} (bs : List Bool) (h : ∀ i b, bs[i]? = some b -> f i = b) : (List.range bs.length).all f = bs.all id := by
 rw [Bool.eq_iff_iff, List.all_eq_true, List.all_eq_true]
 constructor
 ·intro z b hb
  obtain ⟨i, hi, e⟩ := List.mem_iff_getElem.mp hb
  have := z i (by simpa using hi)
  rw [h i b (by simp [hi, e])] at this
  exact this
 ·intro z i hi
  have hi' : i < bs.length := by simpa using hi
  rw [h i bs[i] (by simp [hi'])]
  exact z _ (List.getElem_mem hi')
theorem call_allB (hc : X.calm = true) : CallR X (.builtin "all") (fun xs H Q => ∃ (p : Addr) (bs : List Bool), xs = [.ref p] /\ SqL X.K H p (bs.map V.bl) /\ Q (.bl (bs.all id)) H) := by
 intro pins s σ H xs us Q I r h
 obtain ⟨p, bs, rfl, sq, q⟩ := h
 obtain ⟨u, rfl, ru⟩ := vals1 r
 cases ru
 obtain ⟨its, rv, pl, hz⟩ := I.list sq
 have hl := rv.length
 rw [List.length_map] at hl
 have hlt : p < s.heap.objs.size := by obtain ⟨o, n, e, _⟩ := pl; exact Heap.lt_size e
 refine call_all_walk (wpAny_pyIter_list pl.isList ?_)
 refine ⟨s.heap.objs.size, _, _, its.toArray.size, _, _, fun i => (bs[i]?).getD true, rfl, Walks.list (A := X.A.in1) (I.ok.hd hc) s.heap.objs.size p (Nat.ne_of_lt hlt) its.toArray, ⟨⟨_, Heap.get?_push_size _ rfl, rfl, rfl⟩, ?_⟩, fun i v s' Q' E' hP hQ => ?_, fun h' tk hk => ?_⟩
 ·obtain ⟨o, ho, r⟩ := pl.isList
  exact ⟨o, Heap.get?_push_of_some _ ho, r⟩
 ·have hi : i < its.length := by
   have := (Array.getElem?_eq_some_iff.mp hP).1
   simpa using this
  have eb : bs[i]? = some (bs[i]'(by omega)) := by simp
  obtain ⟨u', e1, e2⟩ := rv.get (i := i) (x := V.bl (bs[i]'(by omega))) (by rw [List.getElem?_map, eb]; rfl)
  have e3 : v = u' := by
   have hP' : its[i]? = some v := by simpa using hP
   rw [hP'] at e1
   exact Option.some.inj e1
  subst e3
  cases e2
  dsimp only at hQ
  rw [eb] at hQ
  exact wpAny_truthy_bool hQ
 ·have e : (List.range its.toArray.size).all (fun i => (bs[i]?).getD true) = bs.all id := by
   have := range_all (f := fun i => (bs[i]?).getD true) bs (fun i b e => by simp [e])
   rw [List.size_toArray, <- hl]
   exact this
  refine ⟨.bl (bs.all id), H, I.kept fun b o eo => hk b o ?_ (Heap.get?_push_of_some _ eo), by rw [e]; rfl, q⟩
  intro z
  rw [List.mem_singleton.mp z] at eo
  exact absurd (Heap.lt_size eo) (Nat.lt_irrefl _)
def dAll : DC
 | [w], h, Q => match ref h w with
  | some (.list xs) => (match bools xs with
   | some bs => Q (.d (.bool (bs.all id))) h
   | none => False)
  | _ => False
 | _, _, _ => False
theorem call_dAll (hc : X.calm = true) : CallR X (.builtin "all") (upC X.K dAll) := by
 intro pins s σ H xs us Q I r h
 obtain ⟨ws, h, A, μ, k, R, rw', q, c⟩ := h
 unfold dAll at q
 split at q
 ·rename_i w h0 k0
  obtain ⟨v, rfl, rv⟩ := repWs1 rw'
  split at q
  ·rename_i ys ey
   split at q
   ·rename_i bs eb
    obtain ⟨p, vs, rfl, sq, rr⟩ := ref_list R rv ey
    have ev := bools_reps eb rr
    subst ev
    exact call_allB hc pins s σ H _ us Q I r ⟨p, bs, rfl, sq, c _ _ _ _ _ _ q .refl R repW_bl⟩
   ·exact q.elim
  ·exact q.elim
 ·exact q.elim
def tyOf : PyData -> String
 | .none => "NoneType"
 | .bool _ => "bool"
 | .int _ => "int"
 | .str _ => "str"
 | .list _ => "list"
 | .tuple _ => "tuple"
 | .dict _ => "dict"
def isi (d : PyData) (T : String) : Bool := tyOf d == T || (tyOf d == "bool" && T == "int")
def kitOk (T : String) : Prop := ∀ (K : PySem.W.Frag) (d : PyData), PySem.W.kitOne K (.type (tyOf d)) (.type T) = some (isi d T)
theorem kit_int : kitOk "int" := fun K d => by cases d <;> kernel_rfl
theorem kit_bool : kitOk "bool" := fun K d => by cases d <;> kernel_rfl
theorem kit_str : kitOk "str" := fun K d => by cases d <;> kernel_rfl
theorem kit_tuple : kitOk "tuple" := fun K d => by cases d <;> kernel_rfl
theorem kit_list : kitOk "list" := fun K d => by cases d <;> kernel_rfl
def dIsi (T : String) (te : DTE) : DTE := fun δ h Q => te δ h fun w h1 => match ref h1 w with
 | some d => Q (.d (.bool (isi d T))) h1
 | none => False
theorem isi_call {pins : List (Addr × Obj)} {σ : L2.St} {H : Hp} {s : Shared} {A μ : List Addr} {h : Cells} {w : W} {d : PyData} {v : V} {u : Value} {T : String} {Q : Value -> Shared -> Prop} {Ar : Around} {E : Value -> Shared -> Prop}
  (I : Inv X pins σ H s) (R : HeapRep X.K A μ h H) (r : RepW X.K A μ H w v) (e : ref h w = some d) (rv : RelV v u) (hk : kitOk T) (q : ∀ tk, Q (.bool (isi d T)) { s with toks := tk }) :
  wpAny (model X.prog X.w) Ar (call (.builtin "isinstance") [u, .type T]) Q E s := by
 have ek := hk X.K d
 cases d with
 | none =>
  have z := ref_see R r e
  rw [See] at z; subst z; cases rv
  exact PySem.W.kia_one PySem.W.kitx_none I.kIn True.intro ek (fun z => nomatch z) q
 | bool b =>
  have z := ref_see R r e
  rw [See] at z; subst z; cases rv
  exact PySem.W.kia_one PySem.W.kitx_bool I.kIn True.intro ek (fun z => nomatch z) q
 | int b =>
  have z := ref_see R r e
  rw [See] at z; subst z; obtain ⟨t, rfl⟩ := rv
  exact PySem.W.kia_one PySem.W.kitx_int I.kIn True.intro ek (fun z => nomatch z) q
 | str b =>
  have z := ref_see R r e
  rw [See] at z; subst z; obtain ⟨t, rfl⟩ := rv
  exact PySem.W.kia_one PySem.W.kitx_str I.kIn True.intro ek (fun z => nomatch z) q
 | list xs =>
  obtain ⟨p, vs, rfl, sq, _⟩ := ref_list R r e
  cases rv
  obtain ⟨its, _, ⟨o, n, ho, hc, _⟩, _⟩ := I.list sq
  exact PySem.W.kia_one PySem.W.kitx_list I.kIn ⟨o, ho, hc⟩ ek (fun z => nomatch z) q
 | tuple xs =>
  obtain ⟨p, vs, rfl, sq, _⟩ := ref_tuple r e
  cases rv
  obtain ⟨its, _, ⟨o, ho, hc, _⟩, _⟩ := I.tuple sq.sq
  exact PySem.W.kia_one PySem.W.kitx_tuple I.kIn ⟨o, ho, hc⟩ ek (fun z => nomatch z) q
 | dict kvs =>
  cases w with
  | v u => cases e
  | c i =>
   obtain ⟨p, ep, rfl⟩ := r
   dsimp only [DL.ref] at e
   cases q0 : h[i]? with
   | none => rw [q0] at e; cases e
   | some cc =>
    cases cc with
    | t _ _ _ => rw [q0] at e; cases e
    | l ys => rw [q0] at e; cases e
    | k ys =>
     obtain ⟨rr, hp, _⟩ := R.vad i p ys ep q0
     cases rv
     obtain ⟨_, _, vs, _, o, es, ep', h1, h2, _⟩ := dk_rd I.hok (.inl hp)
     exact PySem.W.kia_one PySem.W.kitx_dict I.kIn ⟨o, h1, h2.1⟩ ek (fun z => nomatch z) q
  | d y =>
   cases e
   have z : Rep X.K A H (.dict kvs) v := r
   rw [Rep] at z
   obtain ⟨p, kv', rfl, ⟨_, hp⟩, _⟩ := z
   cases rv
   obtain ⟨_, _, vs, _, o, es, ep, h1, h2, _⟩ := dk_rd I.hok hp
   exact PySem.W.kia_one PySem.W.kitx_dict I.kIn ⟨o, h1, h2.1⟩ ek (fun z => nomatch z) q
theorem de_isi {T : Str} {Ts : String} (hk : kitOk Ts) (hm : X.mg "isinstance" = none) (hT : X.mg T = none) (he : DE X e te) (hv : bootBuiltins T = some (.type Ts) := by rfl) (hg : Gl X "isinstance" := by rfl) (hgT : Gl X T := by rfl) (hTn : T ≠ "__name__" := by decide) (hTd : (T == ("__debug__" : Str)) = false := by decide)
  (hs : starEach (e :: [.Name T p2]) X.env = (false, eval e X.env) :: starEach [.Name T p2] X.env := by rfl) (hs2 : starEach ([.Name T p2] : List Expr) X.env = (false, eval (.Name T p2) X.env) :: starEach [] X.env := by rfl)
  (hpl : (backTo pos (starEach ([.Name T p2] : List Expr) X.env)).any (·.1) = false := by rfl) : DE X (.Call (.Name "isinstance" p) [e, .Name T p2] [] pos) (dIsi Ts te) := by
 have hT' : PE X (.Name T p2) (tC (.ty Ts)) := pe_bltn hgT hT hv rfl hTn hTd
 have ha : PA X [e, .Name T p2] (tCons (up X.K te) (tCons (tC (.ty Ts)) tNil)) := pa_cons he (pa_cons hT' pa_nil hs2) hs
 have hc : CallR X (.builtin "isinstance") (fun xs H Q => ∃ x h A μ w d, xs = [x, .ty Ts] /\ HeapRep X.K A μ h H /\ RepW X.K A μ H w x /\ ref h w = some d /\ Q (.bl (isi d Ts)) H) := by
  intro pins s σ H xs us Q I r h
  obtain ⟨x, h, A, μ, w, d, rfl, R, rx, e, q⟩ := h
  cases r with
  | cons r1 r2 =>
   cases r2 with
   | cons r3 r4 =>
    cases r4
    cases r3
    exact isi_call I R rx e r1 hk fun tk => ⟨.bl _, H, I.tok tk, rfl, q⟩
 refine pe_mono (pe_callB hc hg hm (by rfl) ha (by decide) (by decide) hs hpl) fun σ H Q q => ?_
 obtain ⟨δ, h, A, μ, k, R, q, c⟩ := q
 refine ⟨δ, h, A, μ, _, R, q, fun w h1 v H1 A1 μ1 q1 x1 R1 r1 => ?_⟩
 split at q1
 ·rename_i d ed
  exact ⟨v, h1, A1, μ1, w, d, rfl, R1, r1, ed, c _ h1 _ H1 A1 μ1 q1 x1 R1 repW_bl⟩
 ·exact q1.elim
end
end DL
namespace SJ
open PySem
inductive One where
 | read (k : Nat) | write (k : Nat) (v : Int) | add (k : Nat) (n : Int) | swap (k : Nat) (o n : Int)
inductive Call where
 | one (c : One) | span (lo hi : Nat) | deal (cs : List One)
inductive Stp where
 | call (c : Call) | look (c : Call) | lay (ps : List (Nat × Int))
def One.dat : One -> PyData
 | .read k => .tuple [.str "read", .int k]
 | .write k v => .tuple [.str "write", .int k, .int v]
 | .add k n => .tuple [.str "add", .int k, .int n]
 | .swap k o n => .tuple [.str "swap", .int k, .int o, .int n]
def One.key : One -> Nat
 | .read k => k | .write k _ => k | .add k _ => k | .swap k _ _ => k
def Call.dat : Call -> PyData
 | .one c => c.dat
 | .span lo hi => .tuple [.str "span", .int lo, .int hi]
 | .deal cs => .tuple [.str "deal", .tuple (cs.map One.dat)]
def Stp.dat : Stp -> PyData
 | .call c => c.dat
 | .look c => .tuple [.str "look", c.dat]
 | .lay ps => .tuple [.str "lay", .tuple (ps.map fun p => .tuple [.int p.1, .int p.2])]
def One.ok (c : One) : Prop := c.key < 8
def Call.ok : Call -> Prop
 | .one c => c.ok
 | .span lo hi => lo < hi /\ hi <= 8
 | .deal cs => cs.length <= 4 /\ 1 <= cs.length /\ ∀ c ∈ cs, c.ok
def Stp.ok : Stp -> Prop
 | .call c => c.ok
 | .look c => c.ok
 | .lay ps => ps.length <= 8 /\ ∀ p ∈ ps, p.1 < 8
def got (v : Int) : PyData := .tuple [.str "got", .int v]
def yes : PyData := .tuple [.str "yes"]
def no : PyData := .tuple [.str "no"]
end SJ
namespace DL
open PySem PySem.Spec PyProof.Rows L2
@[simp] theorem sh_int (i : Int) : SeqAt.shaped (.int i) = true := by simp [SeqAt.shaped, PyData.canLay0, PyData.depth]
@[simp] theorem sh_bool (i : Bool) : SeqAt.shaped (.bool i) = true := by simp [SeqAt.shaped, PyData.canLay0, PyData.depth]
@[simp] theorem sh_none : SeqAt.shaped .none = true := by simp [SeqAt.shaped, PyData.canLay0, PyData.depth]
@[simp] theorem ev_int (i j : Int) : PyData.eqv (.int i) (.int j) = decide (i = j) := by rw [PyData.eqv]; exact Bool.beq_eq_decide_eq i j
@[simp] theorem ev_str (i j : Str) : PyData.eqv (.str i) (.str j) = (i == j) := by rw [PyData.eqv]
@[simp] theorem w_read_write : ((Str.ofString "read") == (Str.ofString "write")) = false := by decide +kernel
@[simp] theorem w_read_add : ((Str.ofString "read") == (Str.ofString "add")) = false := by decide +kernel
@[simp] theorem w_read_swap : ((Str.ofString "read") == (Str.ofString "swap")) = false := by decide +kernel
@[simp] theorem w_read_span : ((Str.ofString "read") == (Str.ofString "span")) = false := by decide +kernel
@[simp] theorem w_read_deal : ((Str.ofString "read") == (Str.ofString "deal")) = false := by decide +kernel
@[simp] theorem w_read_look : ((Str.ofString "read") == (Str.ofString "look")) = false := by decide +kernel
@[simp] theorem w_read_lay : ((Str.ofString "read") == (Str.ofString "lay")) = false := by decide +kernel
@[simp] theorem w_write_read : ((Str.ofString "write") == (Str.ofString "read")) = false := by decide +kernel
@[simp] theorem w_write_add : ((Str.ofString "write") == (Str.ofString "add")) = false := by decide +kernel
@[simp] theorem w_write_swap : ((Str.ofString "write") == (Str.ofString "swap")) = false := by decide +kernel
@[simp] theorem w_write_span : ((Str.ofString "write") == (Str.ofString "span")) = false := by decide +kernel
@[simp] theorem w_write_deal : ((Str.ofString "write") == (Str.ofString "deal")) = false := by decide +kernel
@[simp] theorem w_write_look : ((Str.ofString "write") == (Str.ofString "look")) = false := by decide +kernel
@[simp] theorem w_write_lay : ((Str.ofString "write") == (Str.ofString "lay")) = false := by decide +kernel
@[simp] theorem w_add_read : ((Str.ofString "add") == (Str.ofString "read")) = false := by decide +kernel
@[simp] theorem w_add_write : ((Str.ofString "add") == (Str.ofString "write")) = false := by decide +kernel
@[simp] theorem w_add_swap : ((Str.ofString "add") == (Str.ofString "swap")) = false := by decide +kernel
@[simp] theorem w_add_span : ((Str.ofString "add") == (Str.ofString "span")) = false := by decide +kernel
@[simp] theorem w_add_deal : ((Str.ofString "add") == (Str.ofString "deal")) = false := by decide +kernel
@[simp] theorem w_add_look : ((Str.ofString "add") == (Str.ofString "look")) = false := by decide +kernel
@[simp] theorem w_add_lay : ((Str.ofString "add") == (Str.ofString "lay")) = false := by decide +kernel
@[simp] theorem w_swap_read : ((Str.ofString "swap") == (Str.ofString "read")) = false := by decide +kernel
@[simp] theorem w_swap_write : ((Str.ofString "swap") == (Str.ofString "write")) = false := by decide +kernel
@[simp] theorem w_swap_add : ((Str.ofString "swap") == (Str.ofString "add")) = false := by decide +kernel
@[simp] theorem w_swap_span : ((Str.ofString "swap") == (Str.ofString "span")) = false := by decide +kernel
@[simp] theorem w_swap_deal : ((Str.ofString "swap") == (Str.ofString "deal")) = false := by decide +kernel
@[simp] theorem w_swap_look : ((Str.ofString "swap") == (Str.ofString "look")) = false := by decide +kernel
@[simp] theorem w_swap_lay : ((Str.ofString "swap") == (Str.ofString "lay")) = false := by decide +kernel
@[simp] theorem w_span_read : ((Str.ofString "span") == (Str.ofString "read")) = false := by decide +kernel
@[simp] theorem w_span_write : ((Str.ofString "span") == (Str.ofString "write")) = false := by decide +kernel
@[simp] theorem w_span_add : ((Str.ofString "span") == (Str.ofString "add")) = false := by decide +kernel
@[simp] theorem w_span_swap : ((Str.ofString "span") == (Str.ofString "swap")) = false := by decide +kernel
@[simp] theorem w_span_deal : ((Str.ofString "span") == (Str.ofString "deal")) = false := by decide +kernel
@[simp] theorem w_span_look : ((Str.ofString "span") == (Str.ofString "look")) = false := by decide +kernel
@[simp] theorem w_span_lay : ((Str.ofString "span") == (Str.ofString "lay")) = false := by decide +kernel
@[simp] theorem w_deal_read : ((Str.ofString "deal") == (Str.ofString "read")) = false := by decide +kernel
@[simp] theorem w_deal_write : ((Str.ofString "deal") == (Str.ofString "write")) = false := by decide +kernel
@[simp] theorem w_deal_add : ((Str.ofString "deal") == (Str.ofString "add")) = false := by decide +kernel
@[simp] theorem w_deal_swap : ((Str.ofString "deal") == (Str.ofString "swap")) = false := by decide +kernel
@[simp] theorem w_deal_span : ((Str.ofString "deal") == (Str.ofString "span")) = false := by decide +kernel
@[simp] theorem w_deal_look : ((Str.ofString "deal") == (Str.ofString "look")) = false := by decide +kernel
@[simp] theorem w_deal_lay : ((Str.ofString "deal") == (Str.ofString "lay")) = false := by decide +kernel
@[simp] theorem w_look_read : ((Str.ofString "look") == (Str.ofString "read")) = false := by decide +kernel
@[simp] theorem w_look_write : ((Str.ofString "look") == (Str.ofString "write")) = false := by decide +kernel
@[simp] theorem w_look_add : ((Str.ofString "look") == (Str.ofString "add")) = false := by decide +kernel
@[simp] theorem w_look_swap : ((Str.ofString "look") == (Str.ofString "swap")) = false := by decide +kernel
@[simp] theorem w_look_span : ((Str.ofString "look") == (Str.ofString "span")) = false := by decide +kernel
@[simp] theorem w_look_deal : ((Str.ofString "look") == (Str.ofString "deal")) = false := by decide +kernel
@[simp] theorem w_look_lay : ((Str.ofString "look") == (Str.ofString "lay")) = false := by decide +kernel
@[simp] theorem w_lay_read : ((Str.ofString "lay") == (Str.ofString "read")) = false := by decide +kernel
@[simp] theorem w_lay_write : ((Str.ofString "lay") == (Str.ofString "write")) = false := by decide +kernel
@[simp] theorem w_lay_add : ((Str.ofString "lay") == (Str.ofString "add")) = false := by decide +kernel
@[simp] theorem w_lay_swap : ((Str.ofString "lay") == (Str.ofString "swap")) = false := by decide +kernel
@[simp] theorem w_lay_span : ((Str.ofString "lay") == (Str.ofString "span")) = false := by decide +kernel
@[simp] theorem w_lay_deal : ((Str.ofString "lay") == (Str.ofString "deal")) = false := by decide +kernel
@[simp] theorem w_lay_look : ((Str.ofString "lay") == (Str.ofString "look")) = false := by decide +kernel
@[simp] theorem at0 {a : PyData} {r : List PyData} : atI (a :: r) 0 = some a := by simp [atI, ixN]
@[simp] theorem at1 {a b : PyData} {r : List PyData} : atI (a :: b :: r) 1 = some b := by
 have : (1 : Int) < (r.length : Int) + 1 + 1 := by omega
 simp [atI, ixN, this]
@[simp] theorem at2 {a b c : PyData} {r : List PyData} : atI (a :: b :: c :: r) 2 = some c := by
 have : (2 : Int) < (r.length : Int) + 1 + 1 + 1 := by omega
 simp [atI, ixN, this]
@[simp] theorem at3 {a b c d : PyData} {r : List PyData} : atI (a :: b :: c :: d :: r) 3 = some d := by
 have : (3 : Int) < (r.length : Int) + 1 + 1 + 1 + 1 := by omega
 simp [atI, ixN, this]
@[simp] theorem ix0 (n : Nat) : ixN (n + 1) 0 = some 0 := by
 have : (0 : Int) < ((n + 1 : Nat) : Int) := by omega
 simp only [ixN, this, Int.le_refl, if_true]
 rfl
theorem ix_nat {n i : Nat} (h : i < n) : ixN n (i : Int) = some i := by
 have h1 : (i : Int) < (n : Int) := by omega
 have h2 : (0 : Int) <= (i : Int) := by omega
 simp [ixN, h1, h2]
@[simp] theorem take_set (h : Cells) (i : Nat) (a : Cell) : (h.set i a).take h.length = h.set i a := by
 rw [List.take_of_length_le (by simp)]
@[simp] theorem ix32 : ixN 3 2 = some 2 := rfl
@[simp] theorem ix30 : ixN 3 0 = some 0 := rfl
theorem szl : sizeLine = 16777216 := rfl
end DL
namespace DL
open PySem PySem.Spec PyProof.Rows L2
section
variable {X : Cx} {a b c e tg : Expr} {st : Stmt} {ta tb tc te : DTE} {pos : Pos}
def dNo : DTE := fun _ _ _ => False
def dNoF : DTF := fun _ _ _ => False
def dNoI : DTI := fun _ _ _ => False
def dNoS : DTS := fun _ _ _ => False
theorem de_no : DE X e dNo := fun pins s σ H Q I ⟨_, _, _, _, _, _, q, _⟩ => q.elim
theorem df_no : DF X e dNoF := fun pins s σ H Q I ⟨_, _, _, _, _, _, q, _⟩ => q.elim
theorem di_no : DI X tg e dNoI := fun pins s σ H R I ⟨_, _, _, _, _, _, q, _⟩ => q.elim
theorem ds_no : DS X st dNoS := fun pins s σ H D I ⟨_, _, _, _, _, _, q, _⟩ => q.elim
def dInN (neg : Bool) : D2 := fun x y h Q => match ref h x, ref h y with
 | some d, some (.list xs) => SeqAt.shaped (.list xs) = true /\ SeqAt.shaped d = true /\ Q (.d (.bool (neg ^^ xs.any fun z => PyData.eqv z d))) h
 | some d, some (.tuple xs) => SeqAt.shaped (.tuple xs) = true /\ SeqAt.shaped d = true /\ Q (.d (.bool (neg ^^ xs.any fun z => PyData.eqv z d))) h
 | _, _ => False
theorem Room.units65 {k : Nat} {A : Around} (r : Room k A) : A.units + 65 < cLine := by have := r.un; omega
theorem op_dIn {n : Nat} (hr : Room n X.A) : OpR X (compareOp .In) (upR X.K (dInN false)) := by
 intro pins s σ H x y v u Q I rx ry h
 obtain ⟨a, b, h, A, μ, k, R, ra, rb, q, c⟩ := h
 unfold dInN at q
 split at q
 ·rename_i d xs ea eb
  obtain ⟨as, z1⟩ := (ref_see R ra ea).reads I (SeqAt.canLay_of_shaped q.2.1) rx
  obtain ⟨bs, z2⟩ := (ref_see R rb eb).reads I (SeqAt.canLay_of_shaped q.1) ry
  exact SeqAt.in_list_reads z2 z1 (SeqAt.canLay_of_shaped q.1) (SeqAt.canLay_of_shaped q.2.1) (room_in_shaped q.2.1 (Room.units65 hr)) ⟨.bl _, H, I, rfl, c _ _ _ _ _ _ q.2.2 .refl R (by simpa using repW_bl)⟩
 ·rename_i d xs ea eb
  obtain ⟨as, z1⟩ := (ref_see R ra ea).reads I (SeqAt.canLay_of_shaped q.2.1) rx
  obtain ⟨bs, z2⟩ := (ref_see R rb eb).reads I (SeqAt.canLay_of_shaped q.1) ry
  exact SeqAt.in_tuple_reads z2 z1 (SeqAt.canLay_of_shaped q.1) (SeqAt.canLay_of_shaped q.2.1) (room_in_shaped q.2.1 (Room.units65 hr)) ⟨.bl _, H, I, rfl, c _ _ _ _ _ _ q.2.2 .refl R (by simpa using repW_bl)⟩
 ·exact q.elim
theorem op_dNotIn {n : Nat} (hr : Room n X.A) : OpR X (compareOp .NotIn) (upR X.K (dInN true)) := by
 intro pins s σ H x y v u Q I rx ry h
 obtain ⟨a, b, h, A, μ, k, R, ra, rb, q, c⟩ := h
 unfold dInN at q
 split at q
 ·rename_i d xs ea eb
  obtain ⟨as, z1⟩ := (ref_see R ra ea).reads I (SeqAt.canLay_of_shaped q.2.1) rx
  obtain ⟨bs, z2⟩ := (ref_see R rb eb).reads I (SeqAt.canLay_of_shaped q.1) ry
  exact SeqAt.notIn_list_reads z2 z1 (SeqAt.canLay_of_shaped q.1) (SeqAt.canLay_of_shaped q.2.1) (room_in_shaped q.2.1 (Room.units65 hr)) ⟨.bl _, H, I, rfl, c _ _ _ _ _ _ q.2.2 .refl R (by simpa using repW_bl)⟩
 ·rename_i d xs ea eb
  obtain ⟨as, z1⟩ := (ref_see R ra ea).reads I (SeqAt.canLay_of_shaped q.2.1) rx
  obtain ⟨bs, z2⟩ := (ref_see R rb eb).reads I (SeqAt.canLay_of_shaped q.1) ry
  exact SeqAt.notIn_tuple_reads z2 z1 (SeqAt.canLay_of_shaped q.1) (SeqAt.canLay_of_shaped q.2.1) (room_in_shaped q.2.1 (Room.units65 hr)) ⟨.bl _, H, I, rfl, c _ _ _ _ _ _ q.2.2 .refl R (by simpa using repW_bl)⟩
 ·exact q.elim
def dChain (r r' : D2) (ta tb tc : DTE) : DTE := fun δ h Q => ta δ h fun x h1 => tb δ h1 fun y h2 => r x y h2 fun z h3 => match z with
 | .d (.bool k) => if k = true then tc δ h3 fun u h4 => r' y u h4 Q else Q (.d (.bool false)) h3
 | _ => False
theorem up_chain {K : PySem.W.Frag} {r r' : D2} {σ : L2.St} {H : Hp} {Q : VK} (q : up K (dChain r r' ta tb tc) σ H Q) : tChain (upR K r) (upR K r') (up K ta) (up K tb) (up K tc) σ H Q := by
 obtain ⟨δ, h, A, μ, k, R, q, c⟩ := q
 refine ⟨δ, h, A, μ, _, R, q, fun u h1 v H1 A1 μ1 q1 x1 R1 r1 => ?_⟩
 refine ⟨δ, h1, A1, μ1, _, ⟨R1, R.2.ext x1 R.1.sub⟩, q1, fun w h2 v2 H2 A2 μ2 q2 x2 R2 r2 => ?_⟩
 refine ⟨u, w, h2, A2, μ2, _, R2, r1.ext x2 R1.sub, r2, q2, fun z h3 v3 H3 A3 μ3 q3 x3 R3 r3 => ?_⟩
 have x13 := (x1.trans x2).trans x3
 split at q3
 ·rename_i kk
  refine ⟨kk, repW_bool r3, ?_⟩
  cases kk with
  | true =>
   rw [if_pos rfl] at q3 ⊢
   refine ⟨δ, h3, A3, μ3, _, ⟨R3, R.2.ext x13 R.1.sub⟩, q3, fun u4 h4 v4 H4 A4 μ4 q4 x4 R4 r4 => ?_⟩
   exact ⟨w, u4, h4, A4, μ4, k, R4, (r2.ext x3 R2.sub).ext x4 R3.sub, r4, q4, fun z h5 v5 H5 A5 μ5 q5 x5 R5 r5 => c z h5 v5 H5 A5 μ5 q5 ((x13.trans x4).trans x5) R5 r5⟩
  | false =>
   rw [if_neg Bool.false_ne_true] at q3 ⊢
   exact c _ h3 _ H3 A3 μ3 q3 x13 R3 repW_bl
 ·exact q3.elim
theorem de_chain {op op' : CmpOp} {r r' : D2} (ho : OpR X (compareOp op) (upR X.K r)) (ho' : OpR X (compareOp op') (upR X.K r')) (ha : DE X a ta) (hb : DE X b tb) (hc : DE X c tc)
  (hm : lastMarks [op, op'] [b, c] = false := by with_unfolding_all rfl) : DE X (.Compare a [op, op'] [b, c] pos) (dChain r r' ta tb tc) := pe_mono (pe_chain ho ho' ha hb hc hm) fun _ _ _ q => up_chain q
theorem dt_chain {op op' : CmpOp} {r r' : D2} (ho : OpR X (compareOp op) (upR X.K r)) (ho' : OpR X (compareOp op') (upR X.K r')) (ha : DE X a ta) (hb : DE X b tb) (hc : DE X c tc)
  (hm : lastMarks [op, op'] [b, c] = false := by with_unfolding_all rfl) : DT X (.Compare a [op, op'] [b, c] pos) (dB (dChain r r' ta tb tc)) := pt_mono (pt_chain ho ho' ha hb hc hm) fun σ H Q q => by
  obtain ⟨δ, h, A, μ, k, R, q1, c⟩ := up_bool q
  exact up_chain ⟨δ, h, A, μ, k, R, q1, c⟩
def dNeg (ta : DTE) : DTE := fun δ h Q => ta δ h fun w h1 => match w with
 | .d (.int i) => Q (.d (.int (-i))) h1
 | _ => False
theorem de_neg (ha : DE X a ta) : DE X (.UnaryOp .USub a pos) (dNeg ta) := pe_mono (pe_un un_neg ha) fun σ H Q q => by
 obtain ⟨δ, h, A, μ, k, R, q, c⟩ := q
 refine ⟨δ, h, A, μ, _, R, q, fun w h1 v H1 A1 μ1 q1 x1 R1 r1 => ?_⟩
 split at q1
 ·exact ⟨_, repW_int r1, c _ h1 _ H1 A1 μ1 q1 x1 R1 repW_i⟩
 ·exact q1.elim
def dShr : D2
 | .d (.int i), .d (.int j), h, Q => 0 <= j /\ Q (.d (.int (i / 2 ^ j.toNat))) h
 | _, _, _, _ => False
def dBand : D2
 | .d (.int i), .d (.int j), h, Q => Q (.d (.int (Builtin.bitAnd i j))) h
 | _, _, _, _ => False
theorem op_dShr : OpR X (binaryOp .RShift) (upR X.K dShr) := int_op (f := fun i j => .int (i / 2 ^ j.toNat)) op_shr (fun _ _ _ _ => repI) fun u w h k q => by
 unfold dShr at q
 split at q
 ·exact ⟨_, _, rfl, rfl, q.1, q.2⟩
 ·exact q.elim
theorem op_dBand : OpR X (binaryOp .BitAnd) (upR X.K dBand) := int_op (f := fun i j => .int (Builtin.bitAnd i j)) (OpR.i0 op_and) (fun _ _ _ _ => repI) fun u w h k q => by
 unfold dBand at q
 split at q
 ·exact ⟨_, _, rfl, rfl, trivial, q⟩
 ·exact q.elim
end
end DL
namespace DL
open PySem PySem.Spec PyProof.Rows L2
def oIs : Option Str -> Value -> Bool
 | some x, v => Value.isStrOf x v
 | none, .none => true
 | none, _ => false
theorem oIs_shape {k : Option Str} {v : Value} (h : oIs k v = true) : (∃ x t, k = some x /\ v = .str x t) \/ (k = none /\ v = .none) := by
 cases k with
 | some x =>
  obtain ⟨t, e⟩ := Value.isStrOf_shape (x := x) (v := v) h
  exact .inl ⟨x, t, rfl, e⟩
 | none => cases v <;> first | exact .inr ⟨rfl, rfl⟩ | cases h
theorem oIs_str (x : Str) (t : Tok) : oIs (some x) (.str x t) = true := by simp [oIs, Value.isStrOf]
def oHash (w : World) : Option Str -> Int
 | some x => hashStr w x
 | none => reduceHash 0xFCA86420
def oKind (prog : Program) (w : World) : PySem.KeyKind prog w (Option Str) where
 is := oIs
 hash := oHash w
 inj := fun v a b ha hb => by
  rcases oIs_shape ha with ⟨x, t, rfl, rfl⟩ | ⟨rfl, rfl⟩
  ·rcases oIs_shape hb with ⟨y, u, rfl, e⟩ | ⟨rfl, e⟩
   ·injection e with e1 _; rw [e1]
   ·exact nomatch e
  ·rcases oIs_shape hb with ⟨y, u, rfl, e⟩ | ⟨rfl, e⟩
   ·exact nomatch e
   ·rfl
 byValue := fun k v h => by
  rcases oIs_shape h with ⟨x, t, rfl, rfl⟩ | ⟨rfl, rfl⟩ <;> rfl
 pyHash := fun {A E s k v Q} hv h => by
  rcases oIs_shape hv with ⟨x, t, rfl, rfl⟩ | ⟨rfl, rfl⟩
  ·exact wpAny_pyHash_str h
  ·exact PySem.W.pyHash_slot (T := "NoneType") rfl PySem.F.slot_NoneType_hash PySem.F.entry_NoneType_hash (PySem.F.args_NoneType_hash_1 _) (by decide) (.inl rfl) (wpAny_bind (wpAny_pure (wpAny_bind (wpAny_mkInt (wpAny_pure ⟨_, _, rfl, h⟩)))))
 eqBool := fun {A E s a b u v Q} hu hv h => by
  rcases oIs_shape hu with ⟨x, t, rfl, rfl⟩ | ⟨rfl, rfl⟩
  ·rcases oIs_shape hv with ⟨y, u, rfl, rfl⟩ | ⟨rfl, rfl⟩
   ·refine wpAny_eqBool_str ?_
    have e : decide (some x = some y) = decide (x = y) := by simp
    rwa [e] at h
   ·exact SeqAt.EqAt.str_none x t _ _ _ _ (by simpa using h)
  ·rcases oIs_shape hv with ⟨y, u, rfl, rfl⟩ | ⟨rfl, rfl⟩
   ·exact SeqAt.EqAt.none_str y u _ _ _ _ (by simpa using h)
   ·exact SeqAt.EqAt.same _ _ _ _ _ (by simpa using h)
 «strs» := fun k x t v h => by
  rcases oIs_shape h with ⟨y, u, rfl, e⟩ | ⟨rfl, e⟩
  ·injection e with e1 _
   subst e1
   cases v <;> rfl
  ·exact nomatch e
structure TabK (w : World) (K : PySem.W.Frag) (p : Addr) (f : Str -> Option Int) : Prop where
 lk : ∃ es n, K.lookup p = some ⟨.type "dict", none, .dict es n, #[]⟩ /\ PySem.W.KeysLit w.params es.toList /\ (∀ x i, f x = some i -> ∃ t, findBy Value.isStrOf es x = some (.int i t)) /\ ∀ x, f x = none -> findBy Value.isStrOf es x = none
 sm : (p == sysModules) = false
theorem TabK.map {w : World} {K : PySem.W.Frag} {p : Addr} {f : Str -> Option Int} {prog : Program} {h : Heap} (T : TabK w K p f) (X : K.In h) : ∃ g : Option Str -> Option Value, h.MapOf (oKind prog w) p g /\ g none = none /\ (∀ x i, f x = some i -> ∃ t, g (some x) = some (.int i t)) /\ ∀ x, f x = none -> g (some x) = none := by
 obtain ⟨es, n, l, hk, h1, h2⟩ := T.lk
 refine ⟨fun k => findBy oIs es k, ⟨_, es, n, X _ _ l, ⟨rfl, rfl, rfl⟩, rfl, fun e he => ?_, fun _ => rfl⟩, ?_, h1, h2⟩
 ·obtain ⟨x, t, e1, e2⟩ := hk.all e (Array.mem_toList_iff.mpr he)
  exact ⟨some x, by rw [e1]; exact oIs_str x t, e2⟩
 ·unfold findBy
  have e : es.find? (fun e => oIs none e.key) = none := by
   rw [Array.find?_eq_none]
   intro e he
   obtain ⟨x, t, e1, _⟩ := hk.all e (Array.mem_toList_iff.mpr he)
   rw [e1]
   exact Bool.false_ne_true
  show Option.map _ (es.find? fun e => oIs none e.key) = none
  rw [e]
  rfl
section
variable {X : Cx} {a b c d e : Expr} {ta tb tc td : DTE} {pos : Pos}
theorem op_notInK {p : Addr} {f : Str -> Option Int} (T : TabK X.w X.K p f) : OpR X (compareOp .NotIn) (fun x y H Q => y = .ref p /\ ((∃ s, x = .str s /\ Q (.bl (!(f s).isSome)) H) \/ (x = .non /\ Q (.bl true) H))) := by
 intro pins s σ H x y v u Q I rx ry h
 obtain ⟨rfl, h⟩ := h
 cases ry
 obtain ⟨g, m, g0, g1, g2⟩ := T.map (prog := X.prog) I.kIn
 rcases h with ⟨z, rfl, q⟩ | ⟨rfl, q⟩
 ·obtain ⟨t, rfl⟩ := rx
  refine wpAny_notIn_of (k := some z) (oIs_str z t) T.sm m ⟨.bl _, H, I.tok _, ?_, q⟩
  cases e : f z with
  | none => rw [g2 z e]; rfl
  | some i => obtain ⟨t', e'⟩ := g1 z i e; rw [e']; rfl
 ·cases rx
  exact wpAny_notIn_of (k := none) rfl T.sm m ⟨.bl _, H, I.tok _, by rw [g0]; rfl, q⟩
theorem ix_K {p : Addr} {f : Str -> Option Int} (T : TabK X.w X.K p f) : IxR X (fun x y H Q => x = .ref p /\ ∃ s i, y = .str s /\ f s = some i /\ Q (.int i) H) := by
 intro value slice pins s σ H x y v u Q I rx ry h hs
 obtain ⟨rfl, z, i, rfl, e, q⟩ := h
 cases rx
 obtain ⟨t, rfl⟩ := ry
 obtain ⟨g, m, g0, g1, g2⟩ := T.map (prog := X.prog) I.kIn
 obtain ⟨t', e'⟩ := g1 z i e
 exact tail_any m.typeIs slot_dict_getitem.lookup (wpAny_getItem_of (k := some z) (oIs_str z t) m e' ⟨.int i, H, I.tok _, ⟨t', rfl⟩, q⟩) hs
def dNotInK (f : Str -> Option Int) (ta : DTE) : DTE := fun δ h Q => ta δ h fun w h1 => match w with
 | .d (.str s) => Q (.d (.bool (!(f s).isSome))) h1
 | .d .none => Q (.d (.bool true)) h1
 | _ => False
theorem repW_str {K : PySem.W.Frag} {A μ : List Addr} {H : Hp} {x : Str} {v : V} (r : RepW K A μ H (.d (.str x)) v) : v = .str x := by
 have z : Rep K A H (.str x) v := r
 rw [Rep] at z; exact z.1
theorem repW_non {K : PySem.W.Frag} {A μ : List Addr} {H : Hp} {v : V} (r : RepW K A μ H (.d .none) v) : v = .non := by
 have z : Rep K A H .none v := r
 rw [Rep] at z; exact z
theorem up_notInK {p : Addr} {f : Str -> Option Int} {σ : L2.St} {H : Hp} {Q : VK} (q : up X.K (dNotInK f ta) σ H Q) :
  tOp (fun x y H Q => y = .ref p /\ ((∃ s, x = .str s /\ Q (.bl (!(f s).isSome)) H) \/ (x = .non /\ Q (.bl true) H))) (up X.K ta) (tC (.ref p)) σ H Q := by
 obtain ⟨δ, h, A, μ, k, R, q, c⟩ := q
 refine ⟨δ, h, A, μ, _, R, q, fun w h1 v H1 A1 μ1 q1 x1 R1 r1 => ?_⟩
 show _ /\ _
 refine ⟨rfl, ?_⟩
 split at q1
 ·exact .inl ⟨_, repW_str r1, c _ h1 _ H1 A1 μ1 q1 x1 R1 repW_bl⟩
 ·exact .inr ⟨repW_non r1, c _ h1 _ H1 A1 μ1 q1 x1 R1 repW_bl⟩
 ·exact q1.elim
theorem de_notInK {p : Addr} {f : Str -> Option Int} {x : Str} {pos' : Pos} (T : TabK X.w X.K p f) (hm : X.mg x = some (.ref p)) (ha : DE X a ta) (hg : Gl X x := by rfl) (hd : (x == ("__debug__" : Str)) = false := by decide) (hb : behindInMarks .NotIn (.Name x pos') = false := by rfl) :
  DE X (.Compare a [.NotIn] [.Name x pos'] pos) (dNotInK f ta) := pe_mono (pe_cmpR (op_notInK T) ha (pe_glob (v := .ref p) hg hm rfl hd) hb) fun _ _ _ q => up_notInK q
theorem dt_notInK {p : Addr} {f : Str -> Option Int} {x : Str} {pos' : Pos} (T : TabK X.w X.K p f) (hm : X.mg x = some (.ref p)) (ha : DE X a ta) (hg : Gl X x := by rfl) (hd : (x == ("__debug__" : Str)) = false := by decide) (hb : behindInMarks .NotIn (.Name x pos') = false := by rfl) :
  DT X (.Compare a [.NotIn] [.Name x pos'] pos) (dB (dNotInK f ta)) := pt_mono (pt_cmpR (op_notInK T) ha (pe_glob (v := .ref p) hg hm rfl hd) hb) fun σ H Q q => by
  obtain ⟨δ, h, A, μ, k, R, q1, c⟩ := up_bool q
  exact up_notInK ⟨δ, h, A, μ, k, R, q1, c⟩
def dIxK (f : Str -> Option Int) (ta : DTE) : DTE := fun δ h Q => ta δ h fun w h1 => match w with
 | .d (.str s) => (match f s with
  | some i => Q (.d (.int i)) h1
  | none => False)
 | _ => False
theorem de_ixK {p : Addr} {f : Str -> Option Int} {x : Str} {pos' : Pos} (T : TabK X.w X.K p f) (hm : X.mg x = some (.ref p)) (ha : DE X a ta) (hg : Gl X x := by rfl) (hd : (x == ("__debug__" : Str)) = false := by decide) (hs : PlainIx a := by intro _ _; rfl) :
  DE X (.Subscript (.Name x pos') a pos) (dIxK f ta) := pe_mono (pe_ix (ix_K T) (pe_glob (v := .ref p) hg hm rfl hd) ha hs) fun σ H Q q => by
 obtain ⟨δ, h, A, μ, k, R, q, c⟩ := q
 show up X.K ta σ H _
 refine ⟨δ, h, A, μ, _, R, q, fun w h1 v H1 A1 μ1 q1 x1 R1 r1 => ?_⟩
 refine ⟨rfl, ?_⟩
 split at q1
 ·split at q1
  ·rename_i e
   exact ⟨_, _, repW_str r1, e, c _ h1 _ H1 A1 μ1 q1 x1 R1 repW_i⟩
  ·exact q1.elim
 ·exact q1.elim
def dChain3 (r r' r'' : D2) (ta tb tc td : DTE) : DTE := fun δ h Q => ta δ h fun x h1 => tb δ h1 fun y h2 => r x y h2 fun z h3 => match z with
 | .d (.bool k) => if k = true then tc δ h3 fun u h4 => r' y u h4 fun z' h5 => (match z' with
   | .d (.bool k') => if k' = true then td δ h5 fun u' h6 => r'' u u' h6 Q else Q (.d (.bool false)) h5
   | _ => False) else Q (.d (.bool false)) h3
 | _ => False
def tChain3 (r r' r'' : R2) (ta tb tc td : TE) : TE := fun σ H Q => ta σ H fun x H1 => tb σ H1 fun y H2 => r x y H2 fun z H3 => ∃ k, z = .bl k /\
 (if k = true then tc σ H3 fun u H4 => r' y u H4 fun z' H5 => ∃ k', z' = .bl k' /\ (if k' = true then td σ H5 fun u' H6 => r'' u u' H6 Q else Q (.bl false) H5) else Q (.bl false) H3)
theorem pe_chain3 {ta tb tc td : TE} {op op' op'' : CmpOp} {r r' r'' : R2} (ho : OpR X (compareOp op) r) (ho' : OpR X (compareOp op') r') (ho'' : OpR X (compareOp op'') r'') (ha : PE X a ta) (hb : PE X b tb) (hc : PE X c tc) (hd : PE X d td)
  (hm : lastMarks [op, op', op''] [b, c, d] = false := by with_unfolding_all rfl) : PE X (.Compare a [op, op', op''] [b, c, d] pos) (tChain3 r r' r'' ta tb tc td) := by
 intro pins s σ H Q I h
 refine Compare_chain (thn (ha pins s σ H _ I h) fun v s1 ⟨x, H1, I1, r1, q1⟩ => chain_link (thn (hb pins s1 σ H1 _ I1 q1) fun u s2 ⟨y, H2, I2, r2, q2⟩ =>
  thn (ho pins s2 σ H2 x y v u _ I2 r1 r2 q2) fun d' s3 ⟨z, H3, I3, r3, k, e, q3⟩ => ?_)) hm
 subst e
 cases r3
 refine wpAny_truthy_bool ?_
 cases k with
 | false => exact ite_ff ⟨.bl false, H3, I3, rfl, q3⟩
 | true =>
  refine ite_tt (chain_link (thn (hc pins s3 σ H3 _ I3 q3) fun w' s4 ⟨z', H4, I4, r4, q4⟩ => thn (ho' pins s4 σ H4 y z' u w' _ I4 r2 r4 q4) fun d2 s5 ⟨z2, H5, I5, r5, k2, e2, q5⟩ => ?_))
  subst e2
  cases r5
  refine wpAny_truthy_bool ?_
  cases k2 with
  | false => exact ite_ff ⟨.bl false, H5, I5, rfl, q5⟩
  | true => exact ite_tt (chain_last (thn (hd pins s5 σ H5 _ I5 q5) fun w6 s6 ⟨z6, H6, I6, r6, q6⟩ => ho'' pins s6 σ H6 z' z6 w' w6 Q I6 r4 r6 q6))
theorem de_chain3 {op op' op'' : CmpOp} {r r' r'' : D2} (ho : OpR X (compareOp op) (upR X.K r)) (ho' : OpR X (compareOp op') (upR X.K r')) (ho'' : OpR X (compareOp op'') (upR X.K r'')) (ha : DE X a ta) (hb : DE X b tb) (hc : DE X c tc) (hd : DE X d td)
  (hm : lastMarks [op, op', op''] [b, c, d] = false := by with_unfolding_all rfl) : DE X (.Compare a [op, op', op''] [b, c, d] pos) (dChain3 r r' r'' ta tb tc td) := pe_mono (pe_chain3 ho ho' ho'' ha hb hc hd hm) fun σ H Q q => by
 obtain ⟨δ, h, A, μ, k, R, q, c⟩ := q
 refine ⟨δ, h, A, μ, _, R, q, fun u h1 v H1 A1 μ1 q1 x1 R1 r1 => ?_⟩
 refine ⟨δ, h1, A1, μ1, _, ⟨R1, R.2.ext x1 R.1.sub⟩, q1, fun w h2 v2 H2 A2 μ2 q2 x2 R2 r2 => ?_⟩
 refine ⟨u, w, h2, A2, μ2, _, R2, r1.ext x2 R1.sub, r2, q2, fun z h3 v3 H3 A3 μ3 q3 x3 R3 r3 => ?_⟩
 have x13 := (x1.trans x2).trans x3
 split at q3
 ·rename_i kk
  refine ⟨kk, repW_bool r3, ?_⟩
  cases kk with
  | true =>
   rw [if_pos rfl] at q3 ⊢
   refine ⟨δ, h3, A3, μ3, _, ⟨R3, R.2.ext x13 R.1.sub⟩, q3, fun u4 h4 v4 H4 A4 μ4 q4 x4 R4 r4 => ?_⟩
   refine ⟨w, u4, h4, A4, μ4, _, R4, (r2.ext x3 R2.sub).ext x4 R3.sub, r4, q4, fun z h5 v5 H5 A5 μ5 q5 x5 R5 r5 => ?_⟩
   have x15 := (x13.trans x4).trans x5
   split at q5
   ·rename_i k5
    refine ⟨k5, repW_bool r5, ?_⟩
    cases k5 with
    | true =>
     rw [if_pos rfl] at q5 ⊢
     refine ⟨δ, h5, A5, μ5, _, ⟨R5, R.2.ext x15 R.1.sub⟩, q5, fun u6 h6 v6 H6 A6 μ6 q6 x6 R6 r6 => ?_⟩
     exact ⟨u4, u6, h6, A6, μ6, k, R6, (r4.ext x5 R4.sub).ext x6 R5.sub, r6, q6, fun z h7 v7 H7 A7 μ7 q7 x7 R7 r7 => c z h7 v7 H7 A7 μ7 q7 ((x15.trans x6).trans x7) R7 r7⟩
    | false =>
     rw [if_neg Bool.false_ne_true] at q5 ⊢
     exact c _ h5 _ H5 A5 μ5 q5 x15 R5 repW_bl
   ·exact q5.elim
  | false =>
   rw [if_neg Bool.false_ne_true] at q3 ⊢
   exact c _ h3 _ H3 A3 μ3 q3 x13 R3 repW_bl
 ·exact q3.elim
end
end DL
namespace SJ
open PySem
mutual
def sok : PyData -> Bool
 | .str x => PyData.strOk x
 | .list xs => decide (xs.length <= 1000) && soks xs
 | .tuple xs => decide (xs.length <= 1000) && soks xs
 | _ => true
def soks : List PyData -> Bool
 | [] => true
 | x :: r => sok x && soks r
end
def isWh : PyData -> Bool
 | .int _ => true
 | _ => false
def between (x : PyData) (lo hi : Int) : Bool := match x with
 | .int i => decide (lo <= i) && decide (i <= hi)
 | _ => false
def isKey (x : PyData) : Bool := between x 0 7
def tupOf : PyData -> Int -> Bool
 | .tuple xs, n => decide ((xs.length : Int) = n)
 | _, _ => false
def wordOf : PyData -> PyData
 | .tuple (.str s :: _) => .str s
 | _ => .none
def worded (x : PyData) (s : Str) (n : Int) : Bool := match x with
 | .tuple (.str t :: r) => (t == s) && decide ((r.length : Int) + 1 = n)
 | _ => false
def nb (s : Str) : Option Int := if s = Str.ofString "read" then some 0 else if s = Str.ofString "write" then some 1 else if s = Str.ofString "add" then some 1 else if s = Str.ofString "swap" then some 2 else none
def isSingle : PyData -> Bool
 | .tuple (.str s :: r) => match nb s with
  | some n => (decide ((r.length : Int) + 1 = 2 + n)) && (match r with
   | k :: vs => isKey k && vs.all isWh
   | [] => false)
  | none => false
 | _ => false
def isSpan : PyData -> Bool
 | .tuple [.str s, .int a, .int b] => (s == Str.ofString "span") && decide (0 <= a) && decide (a < b) && decide (b <= 8)
 | _ => false
def isDeal : PyData -> Bool
 | .tuple [.str s, .tuple ps] => (s == Str.ofString "deal") && decide (1 <= ps.length) && decide (ps.length <= 4) && ps.all isSingle
 | _ => false
def isCall (x : PyData) : Bool := isSingle x || isSpan x || isDeal x
def isLook : PyData -> Bool
 | .tuple [.str s, c] => (s == Str.ofString "look") && isCall c
 | _ => false
def isPair : PyData -> Bool
 | .tuple [k, v] => isKey k && isWh v
 | _ => false
def numD : PyData -> Int
 | .int i => i
 | _ => 0
def fstOf : PyData -> PyData
 | .tuple (k :: _) => k
 | _ => .none
def rise (ns : List Int) : Bool := (List.range (ns.length - 1)).all fun k => decide (ns.getD k 0 < ns.getD (k + 1) 0)
def isLay : PyData -> Bool
 | .tuple [.str s, .tuple ps] => (s == Str.ofString "lay") && !ps.isEmpty && ps.all isPair && rise (ps.map fun p => numD (fstOf p))
 | _ => false
def isStep (x : PyData) : Bool := isCall x || isLook x || isLay x
end SJ
namespace SJ
open PySem PySem.Spec PyProof.Rows L2 DL
structure Bad (x : PyData) : Prop where
 so : sok x = true
 si : isSingle x = false
 ca : isCall x = false
 st : isStep x = false
theorem Bad.of {x : PyData} (h0 : sok x = true) (h1 : isSingle x = false) (h2 : isSpan x = false) (h3 : isDeal x = false) (h4 : isLook x = false) (h5 : isLay x = false) : Bad x :=
 have hc : isCall x = false := by simp [isCall, h1, h2, h3]
 ⟨h0, h1, hc, by simp [isStep, hc, h4, h5]⟩
end SJ
namespace SJ
open PySem PySem.Spec PyProof.Rows L2 DL
end SJ
namespace SJ
open PySem PySem.Spec PyProof.Rows L2 DL
end SJ
namespace SJ
open PySem
inductive An1 where
 | got (v : Int) | dn | yes | no
def An1.dat : An1 -> PyData
 | .got v => .tuple [.str "got", .int v]
 | .dn => .tuple [.str "done"]
 | .yes => .tuple [.str "yes"]
 | .no => .tuple [.str "no"]
def An1.fits : One -> An1 -> Prop
 | .read _, .got _ => True
 | .add _ _, .got _ => True
 | .write _ _, .dn => True
 | .swap _ _ _, .yes => True
 | .swap _ _ _, .no => True
 | _, _ => False
inductive Ans where
 | one (a : An1) | all (ns : List Int) | each (as : List An1)
def Ans.dat : Ans -> PyData
 | .one a => a.dat
 | .all ns => .tuple [.str "all", .tuple (ns.map .int)]
 | .each as => .tuple [.str "each", .tuple (as.map An1.dat)]
inductive Fit2 : List One -> List An1 -> Prop
 | nil : Fit2 [] []
 | cons {o : One} {a : An1} {os : List One} {as : List An1} (h : An1.fits o a) (t : Fit2 os as) : Fit2 (o :: os) (a :: as)
def Ans.fits : Call -> Ans -> Prop
 | .one o, .one a => An1.fits o a
 | .span lo hi, .all ns => ns.length = hi - lo
 | .deal cs, .each as => Fit2 cs as
 | _, _ => False
def oneAns (o : One) (t : PyData) : Bool := match o with
 | .read _ => (match t with
  | .tuple [.str s, v] => (s == Str.ofString "got") && isWh v
  | _ => false)
 | .add _ _ => (match t with
  | .tuple [.str s, v] => (s == Str.ofString "got") && isWh v
  | _ => false)
 | .write _ _ => worded t "done" 1
 | .swap _ _ _ => worded t "yes" 1 || worded t "no" 1
def eachAns : List One -> List PyData -> Bool
 | o :: os, t :: ts => oneAns o t && eachAns os ts
 | _, _ => true
def callAns (c : Call) (t : PyData) : Bool := match c with
 | .one o => oneAns o t
 | .span lo hi => (match t with
  | .tuple [.str s, .tuple xs] => (s == Str.ofString "all") && decide ((xs.length : Int) = (hi : Int) - lo) && xs.all isWh
  | _ => false)
 | .deal cs => (match t with
  | .tuple [.str s, .tuple xs] => (s == Str.ofString "each") && decide (xs.length = cs.length) && eachAns cs xs
  | _ => false)
theorem Fit2.length : ∀ {os : List One} {as : List An1}, Fit2 os as -> as.length = os.length
 | _, _, .nil => rfl
 | _, _, .cons _ t => by simp [t.length]
theorem fits_one {o : One} {a : An1} (h : An1.fits o a) : oneAns o a.dat = true := by
 cases o <;> cases a <;> simp [An1.fits] at h <;> simp [oneAns, An1.dat, isWh, worded]
theorem fits_each : ∀ {os : List One} {as : List An1}, Fit2 os as -> eachAns os (as.map An1.dat) = true
 | _, _, .nil => rfl
 | _, _, .cons h t => by simp [eachAns, fits_one h, fits_each t]
end SJ
namespace DL
open PySem PySem.Spec PyProof.Rows L2
section
variable {X : Cx} {a b c d e : Expr} {ta tb tc td te : DTE} {tl th : DTO} {pos : Pos}
theorem repW_s {K : PySem.W.Frag} {A μ : List Addr} {H : Hp} {x : Str} (h : PyData.strOk x = true) : RepW K A μ H (.d (.str x)) (.str x) := by
 show Rep K A H (.str x) (.str x)
 rw [Rep]
 exact ⟨rfl, h⟩
theorem sl_str : SlR X (fun x lo hi H Q => ∃ z, x = .str z /\ z.length <= sizeLine /\ Q (.str (Txt.slice z lo hi)) H) := by
 intro pins s σ H x v vl vu lo hi sl Q I rx hs pl pu h
 obtain ⟨z, rfl, hz, q⟩ := h
 obtain ⟨t, rfl⟩ := rx
 refine ⟨"str", _, PySem.F.slot_str_getitem.lookup, typeIs_str _ _ _, ?_⟩
 cases pl with
 | none =>
  cases pu with
  | none => exact wpAny_getItem_str_slice (l := none) (u := none) (st := none) hs rfl (post_val_or_str ⟨Nat.le_trans (Txt.slice_le z _ _) hz, fun t' k => ⟨.str _, H, I.tok _, ⟨_, rfl⟩, q⟩⟩)
  | int j uj => exact wpAny_getItem_str_slice (l := none) (u := some (j, uj)) (st := none) hs rfl (post_val_or_str ⟨Nat.le_trans (Txt.slice_le z _ _) hz, fun t' k => ⟨.str _, H, I.tok _, ⟨_, rfl⟩, q⟩⟩)
 | int i ui =>
  cases pu with
  | none => exact wpAny_getItem_str_slice (l := some (i, ui)) (u := none) (st := none) hs rfl (post_val_or_str ⟨Nat.le_trans (Txt.slice_le z _ _) hz, fun t' k => ⟨.str _, H, I.tok _, ⟨_, rfl⟩, q⟩⟩)
  | int j uj => exact wpAny_getItem_str_slice (l := some (i, ui)) (u := some (j, uj)) (st := none) hs rfl (post_val_or_str ⟨Nat.le_trans (Txt.slice_le z _ _) hz, fun t' k => ⟨.str _, H, I.tok _, ⟨_, rfl⟩, q⟩⟩)
theorem pe_dict0 : PE X (.Dict [] [] pos) (fun _ H Q => ∀ p, H p = none -> Q (.ref p) (upd H p (.dK []))) := by
 intro pins s σ H Q I q
 refine wpAny_Dict_empty ?_
 have hn : (s.heap.objs.size == sysModules) = false := by
  have h : mainGlobals < s.heap.objs.size := (I.mod.glob.keeps I.bk).lt
  have : sysModules < s.heap.objs.size := Nat.lt_trans (by decide) h
  exact beq_eq_false_iff_ne.mpr (Nat.ne_of_gt this)
 refine ⟨.ref s.heap.objs.size, _, I.laid (t' := s.toks) (o := .dK []) (fun b ob q => Heap.get?_push_of_some _ q) (Nat.le_refl _) ?_, rfl, q _ (I.hok.fresh (Nat.le_refl _))⟩
 exact ⟨Nat.zero_le _, hn, [], .nil, Heap.DictOf.new s.heap⟩
theorem de_dict0 : DE X (.Dict [] [] pos) (dC (.dict [])) := pe_mono pe_dict0 fun σ H Q q => by
 obtain ⟨δ, h, A, μ, k, R, q, c⟩ := q
 intro p hp
 refine c _ h _ _ A μ q (ext_fresh hp) (R.1.fresh hp) ?_
 show Rep _ _ _ _ _
 rw [Rep]
 exact ⟨p, [], rfl, ⟨R.1.notA hp, .inl upd_same⟩, by rw [RepKs]⟩
theorem reps_rep {K : PySem.W.Frag} {A : List Addr} {H : Hp} {xs : List PyData} {vs : List V} (r : Reps K A H xs vs) : ∀ n : Nat, Reps K A H (List.replicate n xs).flatten (List.replicate n vs).flatten
 | 0 => .nil
 | n + 1 => by
  rw [List.replicate_succ, List.replicate_succ, List.flatten_cons, List.flatten_cons]
  exact (reps_rep r n).append r
def dRepF (ta tb : DTE) : DTF := fun δ h Q => ta δ h fun u h1 => tb δ h1 fun w h2 => match u, w with
 | .c i, .d (.int k) => (match h2[i]? with
  | some (.l xs) => (-(2 ^ 63) <= k /\ k < 2 ^ 63 /\ xs.length * k.toNat <= sizeLine) /\ Q (List.replicate k.toNat xs).flatten h2
  | _ => False)
 | _, _ => False
theorem df_rep (ha : DE X a ta) (hb : DE X b tb) : DF X (.BinOp a .Mult b pos) (dRepF ta tb) := pe_mono (pe_op op_rep ha hb) fun σ H Q q => by
 obtain ⟨δ, h, A, μ, k, R, q, c⟩ := q
 refine ⟨δ, h, A, μ, _, R, q, fun u h1 v H1 A1 μ1 q1 x1 R1 r1 => ?_⟩
 refine ⟨δ, h1, A1, μ1, _, ⟨R1, R.2.ext x1 R.1.sub⟩, q1, fun w h2 v2 H2 A2 μ2 q2 x2 R2 r2 => ?_⟩
 split at q2
 ·rename_i i n
  split at q2
  ·rename_i xs ex
   obtain ⟨p, ep, rfl⟩ := r1.ext x2 R1.sub
   obtain ⟨vs, hv, rr⟩ := R2.val i p xs ep ex
   obtain ⟨⟨n1, n2, n3⟩, q2⟩ := q2
   refine ⟨p, n, vs, rfl, repW_int r2, hv, n1, n2, by rw [rr.length]; exact n3, fun l hl => ?_⟩
   have x12 := x1.trans x2
   obtain ⟨ν, e1, _⟩ := x12.pre
   exact c _ _ _ _ _ _ q2 (x12.trans (ext_cell hl)) ⟨ν, e1⟩ (x12.back hl) (heap_cell R2 hl (reps_rep rr _))
  ·exact q2.elim
 ·exact q2.elim
end
end DL
namespace DL
open PySem PySem.Spec PyProof.Rows L2
section
variable {X : Cx} {a b c d e : Expr} {ta tb tc td te : DTE} {pos : Pos}
end
end DL
namespace DL
open PySem PySem.Spec PyProof.Rows L2
theorem fill_tuple_mul : fillsNumberSlot (.type "tuple") "mul" = pure false :=
 PySem.fillsNumberSlot_seq (id := "tuple.__mul__") (r := some (.builtin "tuple.__rmul__")) PySem.F.slot_tuple_mul.lookup (by decide +kernel) PySem.F.slot_tuple_rmul.lookup (by decide +kernel)
theorem repeats_tuple : seqRepeat? (.type "tuple") = pure (some (.builtin "tuple.__mul__")) := by
 unfold seqRepeat?
 rw [PySem.seqSlot_of (T := "tuple") (name := "__mul__") (id := "tuple.__mul__") PySem.F.slot_tuple_mul.lookup (by decide +kernel), PySem.seqSlot_of (T := "tuple") (name := "__rmul__") (id := "tuple.__rmul__") PySem.F.slot_tuple_rmul.lookup (by decide +kernel)]
 rfl
theorem int_rmul_tuple (a : Int) (t : Tok) (l : Addr) (items : Array Value) (n : Nat) (dd : Option Addr) (sl : Array (Option Value)) :
  Meets (Builtin.«int.__rmul__» ⟨[.int a t, .ref l], []⟩) (fun _ R s => s.heap.get? l = some { cls := .type "tuple", dict := dd, data := .seq items n, slots := sl } /\ R (.ok (.ret Value.notImplemented)) s) :=
 .of_wp fun prog w A R s h => by
  obtain ⟨hp, g, d, tk, os⟩ := s
  obtain ⟨hl, h⟩ := h
  wp_walk
  exact ⟨_, rfl, h⟩
theorem tuple_times (l : Addr) (items : Array Value) (n : Nat) (dd : Option Addr) (sl : Array (Option Value)) (k : Int) (u : Tok) (h1 : ¬ (k < -(2 ^ 63) || k ≥ 2 ^ 63) = true) (h2 : ¬ (items.isEmpty || k == 1) = true) (h3 : ¬ (decide (k <= 0) || items.isEmpty) = true)
  (h4 : ¬ (items.size * k > (2 ^ 63 - 1) / 8)) (h6 : ¬ Builtin.Tuple.tupleTooMany (items.size * k) = true) (h5 : ¬ ((List.replicate k.toNat items).foldl (· ++ ·) #[]).size > sizeLine) :
  Meets (Builtin.«tuple.__mul__» ⟨[.ref l, .int k u], []⟩) (fun _ R s => s.heap.get? l = some { cls := .type "tuple", dict := dd, data := .seq items n, slots := sl } /\
   R (.ok (.ret (.ref s.heap.objs.size))) { s with heap := s.heap.push { cls := .type "tuple", data := .seq ((List.replicate k.toNat items).foldl (· ++ ·) #[]) 0 } }) :=
 .of_wp fun prog w A R s h => by
  obtain ⟨hp, g, d, tk, os⟩ := s
  obtain ⟨hl, h⟩ := h
  have f2 := AutoSeq1.sub_tuple_tuple
  wp_walk
  refine wpAny_ite_false (decide_eq_false h1) ?_
  wp_walk using wpAny_loadPart' hl
  refine wpAny_ite_false (decide_eq_false h4) ?_
  wp_walk
  exact ⟨_, rfl, h⟩
section
variable {X : Cx} {a b c d e : Expr} {ta tb tc td te : DTE} {pos : Pos}
theorem op_repT : OpR X (binaryOp .Mult) (fun x y H Q => ∃ l k xs, x = .ref l /\ y = .int k /\ SqT X.K H l xs /\ xs ≠ [] /\ 1 < k /\ k < 2 ^ 63 /\ xs.length * k.toNat <= sizeLine /\ ∀ p, H p = none -> Q (.ref p) (upd H p (.tup (List.replicate k.toNat xs).flatten))) := by
 intro pins s σ H x y v u Q I rx ry h
 obtain ⟨l, k, xs, rfl, rfl, sq, hne, k1, k2, hz, q⟩ := h
 cases rx
 obtain ⟨t, rfl⟩ := ry
 obtain ⟨its, r, p, hz0⟩ := I.tuple sq
 obtain ⟨⟨cls, dd, data, sl⟩, ho, hc, n, hd⟩ := id p
 simp only at hc hd
 subst hc hd
 have hl := r.length
 have hn : its ≠ [] := fun z => hne (r.nil_iff.mp z)
 have he : its.toArray.isEmpty = false := by
  cases its with
  | nil => exact absurd rfl hn
  | cons => rfl
 have hf : (List.replicate k.toNat its.toArray).foldl (· ++ ·) #[] = (List.replicate k.toNat its).flatten.toArray := by
  have := foldl_rep its k.toNat []
  rw [List.nil_append] at this
  exact this
 have hm : (its.length : Int) * k = ((its.length * k.toNat : Nat) : Int) := by
  rw [Int.natCast_mul, Int.toNat_of_nonneg (by omega)]
 have hz' : its.length * k.toNat <= sizeLine := by rw [<- hl]; exact hz
 have hsl : (sizeLine : Int) <= (2 ^ 63 - 1) / 8 := by decide
 refine wpAny_binaryOp_repeat_ref (T := "tuple") (U := "int") (by decide) ⟨_, ho, rfl⟩ (fun s' => typeIs_int s' k t) fill_tuple_mul PySem.F.fills_int_mul PySem.F.slot_int_rmul repeats_tuple PySem.F.slot_int_index.lookup
  (call_meets PySem.F.slot_int_rmul (typeIs_int s k t) PySem.F.entry_int_rmul (PySem.F.args_int_rmul_2 _ _) (int_rmul_tuple k t l its.toArray n dd sl)
   ⟨ho, rfl, ⟨_, ho, rfl⟩, call_meets PySem.F.slot_tuple_mul ⟨_, ho, rfl⟩ PySem.F.entry_tuple_mul (PySem.F.args_tuple_mul_2 _ _) (tuple_times l its.toArray n dd sl k t ?_ ?_ ?_ ?_ ?_ ?_) ⟨ho, ?_⟩⟩)
 ·simp; omega
 ·rw [he]; simp; omega
 ·rw [he]; simp; omega
 ·rw [List.size_toArray, hm]; omega
 ·unfold Builtin.Tuple.tupleTooMany
  rw [List.size_toArray, hm, decide_eq_true_eq]
  omega
 ·rw [hf, List.size_toArray, len_rep, Nat.mul_comm]
  omega
 ·rw [hf]
  refine ⟨.ref s.heap.objs.size, _, I.laid (t' := s.toks) (o := .tup (List.replicate k.toNat xs).flatten) (fun b ob q => Heap.get?_push_of_some _ q) (Nat.le_refl _) ?_, rfl, q _ (I.hok.fresh (Nat.le_refl _))⟩
  exact ⟨by rw [len_rep, Nat.mul_comm]; exact hz, _, r.rep k.toNat, IsTupD.new _ _⟩
def dMulT : D2
 | .d (.tuple xs), .d (.int k), h, Q => (xs ≠ [] /\ 1 < k /\ k < 2 ^ 63 /\ xs.length * k.toNat <= sizeLine) /\ Q (.d (.tuple (List.replicate k.toNat xs).flatten)) h
 | _, _, _, _ => False
theorem op_dMulT : OpR X (binaryOp .Mult) (upR X.K dMulT) := by
 intro pins s σ H x y v u Q I rx ry h
 obtain ⟨a, b, h, A, μ, k, R, ra, rb, q, c⟩ := h
 unfold dMulT at q
 split at q
 ·rename_i xs n
  obtain ⟨p, vs, rfl, ta, sa⟩ := ref_tuple (h := h) ra rfl
  have eb := repW_int rb
  subst eb
  obtain ⟨⟨n0, n1, n2, n3⟩, q⟩ := q
  refine op_repT pins s σ H _ _ v u Q I rx ry ⟨p, n, vs, rfl, rfl, ta.sq, fun z => n0 (List.eq_nil_of_length_eq_zero (by rw [<- sa.length, z]; rfl)), n1, n2, by rw [sa.length]; exact n3, fun p' hp => ?_⟩
  exact c _ _ _ _ _ _ q (ext_fresh hp) (R.fresh hp) (rep_tuple R hp (reps_rep sa _))
 ·exact q.elim
end
end DL
namespace DL
open PySem PySem.Spec PyProof.Rows L2
section
variable {X : Cx} {a b : Expr} {ta tb : DTE} {pos : Pos}
def dCatR (ta tb : DTE) : DTF := fun δ h Q => ta δ h fun u h1 => tb δ h1 fun w h2 => match ref h2 u, ref h2 w with
 | some (.list xs), some (.list ys) => xs.length + ys.length <= sizeLine /\ Q (xs ++ ys) h2
 | _, _ => False
theorem df_catR (ha : DE X a ta) (hb : DE X b tb) : DF X (.BinOp a .Add b pos) (dCatR ta tb) := pe_mono (pe_op op_catL ha hb) fun σ H Q q => by
 obtain ⟨δ, h, A, μ, k, R, q, c⟩ := q
 refine ⟨δ, h, A, μ, _, R, q, fun u h1 v H1 A1 μ1 q1 x1 R1 r1 => ?_⟩
 refine ⟨δ, h1, A1, μ1, _, ⟨R1, R.2.ext x1 R.1.sub⟩, q1, fun w h2 v2 H2 A2 μ2 q2 x2 R2 r2 => ?_⟩
 split at q2
 ·rename_i xs ys ex ey
  obtain ⟨p, vs, rfl, s1, rr1⟩ := ref_list R2 (r1.ext x2 R1.sub) ex
  obtain ⟨p', vs', rfl, s2, rr2⟩ := ref_list R2 r2 ey
  refine ⟨p, p', vs, vs', rfl, rfl, s1, s2, by rw [rr1.length, rr2.length]; exact q2.1, fun l hl => ?_⟩
  have x12 := x1.trans x2
  obtain ⟨ν, e1, _⟩ := x12.pre
  exact c _ _ _ _ _ _ q2.2 (x12.trans (ext_cell hl)) ⟨ν, e1⟩ (x12.back hl) (heap_cell R2 hl (rr2.append rr1))
 ·exact q2.elim
end
end DL
namespace L2
open PySem PySem.Spec PyProof.Rows
section
variable {prog : Program} {w : World} {A : Around} {R : Result -> Shared -> Prop} {I : Addr} {fp wr : List Addr} {n : Nat} {P : Nat -> Value -> Prop} {St : Nat -> Heap -> Prop}
end
end L2
namespace L2
open PySem PySem.Spec PyProof.Rows
section
variable {prog : Program} {w : World} {A : Around} {E : Value -> Shared -> Prop} {s : Shared}
end
end L2
namespace DL
open PySem PySem.Spec PyProof.Rows L2
def putD (kvs : List (PyData × PyData)) (k v : PyData) : List (PyData × PyData) :=
 if (kvs.any fun p => decide (keyD p.1 = keyD k)) = true then kvs.map (fun p => if keyD p.1 = keyD k then (p.1, v) else p) else kvs ++ [(k, v)]
section
variable {K : PySem.W.Frag} {A μ : List Addr} {H : Hp} {h : Cells}
theorem repKs_cons {p : PyData × PyData} {kvs : List (PyData × PyData)} {r : List (Key × V)} : RepKs K A H (p :: kvs) r ↔ ∃ q r', r = q :: r' /\ (keyD p.1 = some q.1 /\ Rep K A H p.2 q.2) /\ RepKs K A H kvs r' := by
 obtain ⟨a, b⟩ := p
 rw [RepKs]
 constructor
 ·rintro ⟨q, r', e, h1, h2⟩; rw [RepP] at h1; exact ⟨q, r', e, h1, h2⟩
 ·rintro ⟨q, r', e, h1, h2⟩; exact ⟨q, r', e, by rw [RepP]; exact h1, h2⟩
theorem repKs_nil {r : List (Key × V)} : RepKs K A H [] r ↔ r = [] := by rw [RepKs]
theorem repKs_any {k : PyData} {q : Key} (hk : keyD k = some q) : ∀ {kvs : List (PyData × PyData)} {r : List (Key × V)}, RepKs K A H kvs r -> (kvs.any fun p => decide (keyD p.1 = keyD k)) = r.any fun kv => decide (kv.1 = q)
 | [], r, h => by rw [repKs_nil.mp h]; rfl
 | p :: kvs, r, h => by
  obtain ⟨q', r', rfl, ⟨h1, h2⟩, h3⟩ := repKs_cons.mp h
  rw [List.any_cons, List.any_cons, repKs_any hk h3, h1, hk]
  simp
theorem repKs_app : ∀ {kvs more : List (PyData × PyData)} {r r2 : List (Key × V)}, RepKs K A H kvs r -> RepKs K A H more r2 -> RepKs K A H (kvs ++ more) (r ++ r2)
 | [], _, r, r2, h, h2 => by rw [repKs_nil.mp h]; exact h2
 | p :: kvs, more, r, r2, h, h2 => by
  obtain ⟨q', r', rfl, h1, h3⟩ := repKs_cons.mp h
  exact repKs_cons.mpr ⟨q', r' ++ r2, rfl, h1, repKs_app h3 h2⟩
theorem repKs_repl {k : PyData} {q : Key} {x : PyData} {y : V} (hk : keyD k = some q) (rx : Rep K A H x y) : ∀ {kvs : List (PyData × PyData)} {r : List (Key × V)}, RepKs K A H kvs r ->
  RepKs K A H (kvs.map fun p => if keyD p.1 = keyD k then (p.1, x) else p) (r.map fun kv => if kv.1 = q then (kv.1, y) else kv)
 | [], r, h => by rw [repKs_nil.mp h]; exact repKs_nil.mpr rfl
 | p :: kvs, r, h => by
  obtain ⟨q', r', rfl, ⟨h1, h2⟩, h3⟩ := repKs_cons.mp h
  rw [List.map_cons, List.map_cons]
  refine repKs_cons.mpr ⟨_, _, rfl, ?_, repKs_repl hk rx h3⟩
  rw [h1, hk]
  by_cases e : q'.1 = q
  ·rw [if_pos e, if_pos (by rw [e])]; exact ⟨h1, rx⟩
  ·rw [if_neg e, if_neg (fun z => e (Option.some.inj z))]; exact ⟨h1, h2⟩
theorem repKs_put {k : PyData} {q : Key} {x : PyData} {y : V} (hk : keyD k = some q) (rx : Rep K A H x y) {kvs : List (PyData × PyData)} {r : List (Key × V)} (h : RepKs K A H kvs r) : RepKs K A H (putD kvs k x) (putK r q y) := by
 unfold putD putK
 rw [repKs_any hk h]
 split
 ·exact repKs_repl hk rx h
 ·exact repKs_app h (repKs_cons.mpr ⟨_, _, rfl, ⟨hk, rx⟩, repKs_nil.mpr rfl⟩)
end
variable {X : Cx}
end DL
namespace PySem
open PyProof.Rows
section
variable {prog : Program} {w : World} {A : Around} {E : Value -> Shared -> Prop} {s : Shared}
theorem nextOf_tuple_item {it t : Addr} {i : Nat} {items : Array Value} {x : Value} {Q : Value -> Shared -> Prop} (hit : s.heap.IsTupleIter it t i) (hl : s.heap.IsTuple t items) (hx : items[i]? = some x)
  (hQ : ∀ h', h'.IsTupleIter it t (i + 1) -> Heap.SameBut it s.heap h' -> Q x { s with heap := h' }) : wpAny (model prog w) A (Builtin.SmallTypes.nextOf (.ref it)) Q E s := by
 obtain ⟨o, ho, hc, hd⟩ := id hit
 obtain ⟨ol, hol, hlc, nl, hdl⟩ := hl
 unfold Builtin.SmallTypes.nextOf
 refine wpAny_bind (wpAny_callSpecial?_slot (hit.typeIs) F.slot_tuple_iterator_next (wpAny_call_entry F.slot_tuple_iterator_next hit.typeIs F.entry_tuple_iterator_next ?_ (F.args_tuple_iterator_next_1 _)))
 refine wpAny_bind (wpAny_pure (a := (Value.ref it, [])) ?_)
 refine wpAny_bind (wpAny_field ho hd rfl ?_)
 rw [if_neg (by exact Bool.false_ne_true)]
 refine wpAny_bind (wpAny_field ho hd rfl ?_)
 refine wpAny_bind (wpAny_seqItems hol hdl ?_)
 show wpAny _ _ (match items[((i : Int)).toNat]? with | some x => _ | none => _) _ _ _
 rw [Int.toNat_natCast, hx]
 refine wpAny_bind (wpAny_setField ho hd (by simp) ?_)
 refine wpAny_pure ⟨x, rfl, wpAny_pure (hQ _ ⟨_, Heap.get?_update_self _ ho (Obj.isFreed_of_fields (Obj.data_mapFields hd _)), (Obj.cls_mapFields o _).trans hc, ?_⟩ (Heap.SameBut.update _ _ _))⟩
 rw [Obj.data_mapFields hd]
 rfl
theorem nextOf_tuple_end {it t : Addr} {i : Nat} {items : Array Value} {Q : Value -> Shared -> Prop} (hh : A.handled = none) (hit : s.heap.IsTupleIter it t i) (hl : s.heap.IsTuple t items) (hx : items[i]? = none)
  (hE : ∀ h' e, Heap.ExtBut it s.heap h' -> (∃ o, h'.get? e = some o /\ o.cls = .type "StopIteration") -> E (.ref e) { s with heap := h' }) : wpAny (model prog w) A (Builtin.SmallTypes.nextOf (.ref it)) Q E s := by
 obtain ⟨o, ho, hc, hd⟩ := id hit
 obtain ⟨ol, hol, hlc, nl, hdl⟩ := hl
 unfold Builtin.SmallTypes.nextOf
 refine wpAny_bind (wpAny_callSpecial?_slot (hit.typeIs) F.slot_tuple_iterator_next (wpAny_call_entry F.slot_tuple_iterator_next hit.typeIs F.entry_tuple_iterator_next ?_ (F.args_tuple_iterator_next_1 _)))
 refine wpAny_bind (wpAny_pure (a := (Value.ref it, [])) ?_)
 refine wpAny_bind (wpAny_field ho hd rfl ?_)
 rw [if_neg (by exact Bool.false_ne_true)]
 refine wpAny_bind (wpAny_field ho hd rfl ?_)
 refine wpAny_bind (wpAny_seqItems hol hdl ?_)
 show wpAny _ _ (match items[((i : Int)).toNat]? with | some x => _ | none => _) _ _ _
 rw [Int.toNat_natCast, hx]
 refine wpAny_bind (wpAny_rule ?_)
 refine wpAny_bind (wpAny_setField ho hd (by simp) ?_)
 unfold Builtin.SmallTypes.stopIteration newExc
 refine wpAny_bind (wpAny_bind (wpAny_newObj_type ?_ (by show (([] : List Value).toArray.size <= sizeLine); simp)))
 refine wpAny_bind (wpAny_pure (a := Value.none) ?_)
 refine wpAny_newObj_type ?_ (sizeOk_excFields ..)
 unfold raiseNew
 refine wpAny_bind (wpAny_handled ?_)
 rw [show A.in1.handled = none from hh]
 refine wpAny_throw (hE _ _ (fun b o' hb e => ?_) ⟨_, Heap.get?_push_size _ rfl, rfl⟩)
 refine Heap.get?_push_of_some _ (Heap.get?_push_of_some _ ?_)
 rw [(Heap.SameBut.update s.heap it _).2 b hb]
 exact e
def SqAt : Bool -> Heap -> Addr -> Array Value -> Prop
 | true, h, l, xs => h.IsTuple l xs
 | false, h, l, xs => h.IsList l xs
def ItAt : Bool -> Heap -> Addr -> Addr -> Nat -> Prop
 | true, h, it, l, k => h.IsTupleIter it l k
 | false, h, it, l, k => h.IsListIter it l k
def sqIt (b : Bool) (l : Addr) : Obj := { cls := .type (if b = true then "tuple_iterator" else "list_iterator"), data := .fields #[.ref l, .int 0 0] }
theorem SqAt.keep {b : Bool} {h h' : Heap} {l : Addr} {xs : Array Value} (x : SqAt b h l xs) (k : ∀ o, h.get? l = some o -> h'.get? l = some o) : SqAt b h' l xs := by
 cases b <;> exact let ⟨o, h1, h2⟩ := x; ⟨o, k o h1, h2⟩
theorem ItAt.keep {b : Bool} {h h' : Heap} {it l : Addr} {i : Nat} (x : ItAt b h it l i) (k : ∀ o, h.get? it = some o -> h'.get? it = some o) : ItAt b h' it l i := by
 cases b <;> exact let ⟨o, h1, h2⟩ := x; ⟨o, k o h1, h2⟩
theorem ItAt.new {b : Bool} {h : Heap} {it l : Addr} (e : h.get? it = some (sqIt b l)) : ItAt b h it l 0 := by
 cases b <;> exact ⟨_, e, rfl, rfl⟩
theorem pyIter_sq {b : Bool} {l : Addr} {xs : Array Value} {Q : Value -> Shared -> Prop} (hl : SqAt b s.heap l xs) (h : Q (.ref s.heap.objs.size) { s with heap := s.heap.push (sqIt b l) }) : wpAny (model prog w) A (pyIter (.ref l)) Q E s := by
 cases b
 ·exact wpAny_pyIter_list hl h
 ·exact wpAny_pyIter_tuple hl h
theorem nextOf_item {b : Bool} {it l : Addr} {i : Nat} {items : Array Value} {x : Value} {Q : Value -> Shared -> Prop} (hit : ItAt b s.heap it l i) (hl : SqAt b s.heap l items) (hx : items[i]? = some x)
  (hQ : ∀ h', ItAt b h' it l (i + 1) -> Heap.SameBut it s.heap h' -> Q x { s with heap := h' }) : wpAny (model prog w) A (Builtin.SmallTypes.nextOf (.ref it)) Q E s := by
 cases b
 ·exact wpAny_nextOf_list_item hit hl hx hQ
 ·exact nextOf_tuple_item hit hl hx hQ
theorem nextOf_end {b : Bool} {it l : Addr} {i : Nat} {items : Array Value} {Q : Value -> Shared -> Prop} (hh : A.handled = none) (hit : ItAt b s.heap it l i) (hl : SqAt b s.heap l items) (hx : items[i]? = none)
  (hE : ∀ h' e, Heap.ExtBut it s.heap h' -> (∃ o, h'.get? e = some o /\ o.cls = .type "StopIteration") -> E (.ref e) { s with heap := h' }) : wpAny (model prog w) A (Builtin.SmallTypes.nextOf (.ref it)) Q E s := by
 cases b
 ·exact wpAny_nextOf_list_end hh hit hl hx hE
 ·exact nextOf_tuple_end hh hit hl hx hE
end
end PySem
namespace L2
open PySem PySem.Spec PyProof.Rows
section
variable {X : Cx} {pins : List (Addr × Obj)} {σ : List (Option V)} {H : Hp} {s : Shared} {h' : Heap}
theorem Inv.turnedL {t' : Nat} {ch : List Addr} (I : Inv X pins σ H s) (k : ∀ b o, b ∉ ch -> s.heap.get? b = some o -> h'.get? b = some o) (hf : ∀ b ∈ ch, FpOk X pins H b) : Inv X pins σ H { s with heap := h', toks := t' } := by
 have nit : ∀ b u, H b = some u -> b ∉ ch := fun b u e z => by rw [(hf b z).1] at e; cases e
 have hL : X.env.locals ∉ ch := fun z => (hf _ z).2.1 rfl
 refine I.step (g' := s.gens) (d' := s.drawn) (ch := ch) (fun b hb => ?_) (fun b o _ _ hc e _ => k b o hc e) (fun b o _ _ hc e _ => ⟨o.slots, k b o hc e⟩) (fun _ _ _ _ n => n)
  (fun b o hc e => ⟨o, k b o hc e⟩) (fun _ _ e => e) (fun _ _ _ e => e) (fun b ps e => ⟨#[], by rw [e]; simp⟩) (fun m hm => ?_) (fun b u e => ?_) I.bare
 ·obtain ⟨_, f1, _, f3, f4, f5⟩ := hf b hb
  exact ⟨f3, f1, f4, f5⟩
 ·obtain ⟨o, es, ep, ho, r⟩ := hm
  exact ⟨o, es, ep, k _ o hL ho, r⟩
 ·refine (I.hok b u e).stay (fun c v hc q => k c v ?_ q) (fun _ q => q) fun _ _ q => q
  rcases hc with z | z
  ·rw [z]; exact nit b u e
  ·exact nit c _ z
def SqB (K : PySem.W.Frag) : Bool -> Hp -> Addr -> List V -> Prop
 | true, H, a, xs => SqT K H a xs
 | false, H, a, xs => SqL K H a xs
theorem Inv.sqB {b : Bool} {a : Addr} {xs : List V} (I : Inv X pins σ H s) (h : SqB X.K b H a xs) : ∃ its : List Value, Vals xs its /\ SqAt b s.heap a its.toArray /\ xs.length <= sizeLine := by
 cases b
 ·obtain ⟨its, rv, p, hz⟩ := I.list h
  exact ⟨its, rv, p.isList, hz⟩
 ·obtain ⟨its, rv, p, hz⟩ := I.tuple h
  exact ⟨its, rv, p, hz⟩
theorem Inv.sqB_inj {b : Bool} {a : Addr} {xs ys : List V} (I : Inv X pins σ H s) (h : SqB X.K b H a xs) (h' : SqB X.K b H a ys) : xs = ys := by
 cases b
 ·exact I.list_inj h h'
 ·exact I.tuple_inj h h'
end
end L2
namespace L2
open PySem PySem.Spec PyProof.Rows
section
variable {X : Cx} {elts : List Expr} {n : Nat} {tpos : Pos}
end
end L2
namespace DL
open PySem PySem.Spec PyProof.Rows L2
section
variable {X : Cx} {elts : List Expr} {n : Nat} {tpos : Pos}
def seqD : W -> Option (List PyData)
 | .d (.list xs) => some xs
 | .d (.tuple xs) => some xs
 | _ => none
def seqK : W -> Bool
 | .d (.tuple _) => true
 | _ => false
theorem seq_rep {K : PySem.W.Frag} {A μ : List Addr} {H : Hp} {u : W} {v : V} {xs : List PyData} (e : seqD u = some xs) (r : RepW K A μ H u v) : ∃ p vs, v = .ref p /\ SqB K (seqK u) H p vs /\ Reps K A H xs vs := by
 unfold seqD at e
 split at e
 ·cases e
  have z : Rep K A H (.list xs) v := r
  rw [Rep] at z
  obtain ⟨p, vs, rfl, la, rr⟩ := z
  exact ⟨p, vs, rfl, la.sq, rr⟩
 ·cases e
  obtain ⟨p, vs, rfl, ta, rr⟩ := ref_tuple (h := []) r rfl
  exact ⟨p, vs, rfl, ta.sq, rr⟩
 ·cases e
end
end DL
namespace ST
open PySem PySem.Spec PyProof.Rows
def Ris (xs : Array Nat) : Prop := xs.toList.Pairwise (· < ·)
theorem Ris.lt {xs : Array Nat} (h : Ris xs) {i k : Nat} {a b : Nat} (hik : i < k) (ha : xs[i]? = some a) (hb : xs[k]? = some b) : a < b := by
 unfold Ris at h
 rw [List.pairwise_iff_getElem] at h
 rw [Array.getElem?_eq_some_iff] at ha hb
 obtain ⟨h1, rfl⟩ := ha
 obtain ⟨h2, rfl⟩ := hb
 exact h i k (by simpa using h1) (by simpa using h2) hik
theorem go_spec {xs : Array Nat} {j : Nat} (hx : Ris xs) : ∀ (fuel lo hi : Nat), hi - lo <= fuel -> lo <= hi -> hi <= xs.size -> (∀ i a, i < lo -> xs[i]? = some a -> a < j) -> (∀ i a, hi <= i -> xs[i]? = some a -> j <= a) ->
  (∀ i a, i < SetTable.below.go xs j fuel lo hi -> xs[i]? = some a -> a < j) /\ (∀ i a, SetTable.below.go xs j fuel lo hi <= i -> xs[i]? = some a -> j <= a) /\ SetTable.below.go xs j fuel lo hi <= xs.size
 | 0, lo, hi, h1, h2, h3, h4, h5 => by
  have : lo = hi := by omega
  subst this
  exact ⟨h4, h5, h3⟩
 | fuel + 1, lo, hi, h1, h2, h3, h4, h5 => by
  unfold SetTable.below.go
  split
  ·rename_i hlt
   have hm : (lo + hi) / 2 < xs.size := by omega
   have em : xs[(lo + hi) / 2]? = some xs[(lo + hi) / 2] := Array.getElem?_eq_getElem hm
   have eg : xs.getD ((lo + hi) / 2) j = xs[(lo + hi) / 2] := by simp [Array.getD, hm]
   dsimp only
   rw [eg]
   split
   ·rename_i hj
    refine go_spec hx fuel _ _ (by omega) (by omega) h3 (fun i a hi' ha => ?_) h5
    by_cases e : i = (lo + hi) / 2
    ·subst e; rw [em] at ha; cases ha; exact hj
    ·exact Nat.lt_trans (hx.lt (by omega) ha em) hj
   ·rename_i hj
    refine go_spec hx fuel _ _ (by omega) (by omega) (by omega) h4 (fun i a hi' ha => ?_)
    by_cases e : i = (lo + hi) / 2
    ·subst e; rw [em] at ha; cases ha; omega
    ·have := hx.lt (show (lo + hi) / 2 < i by omega) em ha
     omega
  ·have : lo = hi := by omega
   subst this
   exact ⟨h4, h5, h3⟩
theorem below_spec {xs : Array Nat} (hx : Ris xs) (j : Nat) : (∀ i a, i < SetTable.below xs j -> xs[i]? = some a -> a < j) /\ (∀ i a, SetTable.below xs j <= i -> xs[i]? = some a -> j <= a) /\ SetTable.below xs j <= xs.size :=
 go_spec hx xs.size 0 xs.size (by omega) (by omega) (Nat.le_refl _) (fun i a h => by omega) (fun i a h e => by
  rw [Array.getElem?_eq_none (by omega)] at e; cases e)
def slotAt (xs : Array Nat) : Nat -> Nat
 | 0 => 0
 | i + 1 => xs.getD i 0 + 1
theorem below_slotAt {xs : Array Nat} (hx : Ris xs) {i : Nat} (hi : i <= xs.size) : SetTable.below xs (slotAt xs i) = i := by
 obtain ⟨h1, h2, h3⟩ := below_spec hx (slotAt xs i)
 generalize SetTable.below xs (slotAt xs i) = r at h1 h2 h3
 cases i with
 | zero =>
  cases r with
  | zero => rfl
  | succ r =>
   have := h1 0 xs[0] (by omega) (Array.getElem?_eq_getElem (by omega))
   simp [slotAt] at this
 | succ i =>
  have ei : xs[i]? = some xs[i] := Array.getElem?_eq_getElem (by omega)
  have es : slotAt xs (i + 1) = xs[i] + 1 := by simp [slotAt, Array.getD, show i < xs.size by omega]
  rw [es] at h1 h2
  have a1 : ¬ r <= i := fun z => by have := h2 i _ z ei; omega
  have a2 : ¬ i + 1 < r := fun z => by
   have e2 : xs[i + 1]? = some xs[i + 1] := Array.getElem?_eq_getElem (by omega)
   have q1 := h1 (i + 1) _ z e2
   have q2 := hx.lt (show i < i + 1 by omega) ei e2
   omega
  omega
theorem ris_insert {xs : Array Nat} (hx : Ris xs) {j : Nat} (hj : xs[SetTable.below xs j]? ≠ some j) : Ris (SetTable.insertAt xs (SetTable.below xs j) j) := by
 obtain ⟨h1, h2, h3⟩ := below_spec hx j
 have e : (SetTable.insertAt xs (SetTable.below xs j) j).toList = xs.toList.take (SetTable.below xs j) ++ j :: xs.toList.drop (SetTable.below xs j) := by
  simp [SetTable.insertAt, Array.toList_extract, List.extract_eq_take_drop, List.take_of_length_le]
 unfold Ris at hx ⊢
 rw [e, List.pairwise_append, List.pairwise_cons]
 have mt : ∀ a ∈ xs.toList.take (SetTable.below xs j), a < j := fun a ha => by
  obtain ⟨i, hi, ea⟩ := List.mem_iff_getElem.mp ha
  rw [List.getElem_take] at ea
  rw [List.length_take] at hi
  refine h1 i a (by omega) ?_
  rw [<- ea]
  exact Array.getElem?_eq_getElem (by simp at hi; omega)
 have md : ∀ b ∈ xs.toList.drop (SetTable.below xs j), j < b := fun b hb => by
  obtain ⟨i, hi, eb⟩ := List.mem_iff_getElem.mp hb
  rw [List.getElem_drop] at eb
  rw [List.length_drop] at hi
  have hlt : SetTable.below xs j + i < xs.size := by simp at hi; omega
  have eg : xs[SetTable.below xs j + i]? = some b := by rw [<- eb]; exact Array.getElem?_eq_getElem hlt
  have q := h2 _ b (by omega) eg
  rcases Nat.lt_or_eq_of_le q with q | q
  ·exact q
  ·subst q
   cases i with
   | zero => exact absurd eg hj
   | succ i =>
    have e0 : xs[SetTable.below xs j]? = some xs[SetTable.below xs j] := Array.getElem?_eq_getElem (by omega)
    have := Ris.lt hx (show SetTable.below xs j < SetTable.below xs j + (i + 1) by omega) e0 eg
    have q0 := h2 _ _ (Nat.le_refl _) e0
    omega
 refine ⟨hx.sublist (List.take_sublist _ _), ⟨md, hx.sublist (List.drop_sublist _ _)⟩, fun a ha b hb => ?_⟩
 rcases List.mem_cons.mp hb with rfl | hb
 ·exact mt a ha
 ·exact Nat.lt_trans (mt a ha) (md b hb)
theorem ris_range (n : Nat) : Ris (Array.range n) := by
 unfold Ris
 rw [Array.toList_range]
 exact List.pairwise_lt_range
def free (t : SetTable) (j : Nat) : Prop := t.place[SetTable.below t.place j]? ≠ some j
theorem slot_free {t : SetTable} {j : Nat} (h : ∀ i, t.slot j ≠ .live i) : free t j := by
 intro e
 unfold SetTable.slot at h
 dsimp only at h
 rw [e] at h
 simp at h
theorem probe_free {t : SetTable} {f : Nat -> Int} {h : Int} : ∀ (fuel : Nat) (p : SetTable.Probe), (∀ d, p.dummy = some d -> free t d) -> ∀ j d, SetTable.probe.go t f h fuel p = some (.empty j d) -> free t j /\ ∀ d', d = some d' -> free t d'
 | 0, p, hp, j, d, e => by simp [SetTable.probe.go] at e
 | fuel + 1, p, hp, j, d, e => by
  unfold SetTable.probe.go at e
  split at e
  ·rename_i es
   cases e
   exact ⟨slot_free (fun i z => by rw [es] at z; cases z), hp⟩
  ·rename_i es
   refine probe_free fuel _ (fun d' ed => ?_) j d e
   have : (t.advance { p with dummy := some p.j }).dummy = some p.j := by
    unfold SetTable.advance
    split <;> rfl
   rw [this] at ed
   cases ed
   exact slot_free fun i z => by rw [es] at z; cases z
  ·split at e
   ·cases e
   ·refine probe_free fuel _ (fun d' ed => hp d' ?_) j d e
    have : (t.advance p).dummy = p.dummy := by
     unfold SetTable.advance
     split <;> rfl
    rw [<- this]; exact ed
theorem freeSlot_free {t : SetTable} {h : Int} {j : Nat} {b : Bool} (e : t.freeSlot h = some (j, b)) : free t j := by
 unfold SetTable.freeSlot at e
 split at e
 ·rename_i j' d ep
  cases e
  obtain ⟨f1, f2⟩ := probe_free _ _ (fun d ed => by simp [SetTable.probeStart] at ed) _ _ ep
  cases d with
  | none => exact f1
  | some d => exact f2 d rfl
 ·cases e
def Good (by_ : Bool) (t : SetTable) : Prop := Ris t.place /\ (by_ = false -> t.led = true)
theorem good_standIn {by_ : Bool} {t : SetTable} (h : Good by_ t) (n : Nat) : Good by_ (t.standIn n) := ⟨ris_range n, h.2⟩
theorem good_layNew {by_ : Bool} {t : SetTable} {es : Array (Int × Value)} {h : Int} {x : Value} (g : Good by_ t) : Good by_ (layNew t es h x).2.1 := by
 unfold layNew
 split
 ·rename_i slot wd e
  dsimp only
  have gp : Good by_ (t.put slot).1 := ⟨ris_insert g.1 (freeSlot_free e), g.2⟩
  unfold SetTable.orStandIn
  split
  ·exact gp
  ·exact good_standIn gp _
 ·exact good_standIn g _
theorem ris_live {owner : Array (Option Nat)} (n : Nat) : (((List.range n).filterMap fun j => (owner.getD j none).map (j, ·)).map (·.1)).Pairwise (· < ·) := by
 rw [List.pairwise_map]
 refine List.Pairwise.filterMap (R := (· < ·)) _ (fun a a' hlt b hb b' hb' => ?_) (List.pairwise_lt_range (n := n))
 obtain ⟨_, _, rfl⟩ := Option.map_eq_some_iff.mp hb
 obtain ⟨_, _, rfl⟩ := Option.map_eq_some_iff.mp hb'
 exact hlt
theorem good_relay {by_ : Bool} {t : SetTable} {es : Array (Int × Value)} {n : Nat} (g : Good by_ t) : Good by_ (relayAll t es n).2.1 := by
 unfold relayAll
 split
 ·rename_i t' order e
  dsimp only
  split
  ·unfold SetTable.relaid SetTable.laid at e
   dsimp only at e
   obtain ⟨owner, _, e2⟩ := Option.bind_eq_some_iff.mp e
   cases e2
   refine ⟨?_, g.2⟩
   unfold Ris
   exact ris_live _
  ·exact good_standIn g _
 ·exact good_standIn g _
theorem erase_perm {α : Type} : ∀ (l : List α) (i : Nat) (h : i < l.length), ([l[i]] ++ l.eraseIdx i).Perm l
 | [], i, h => by simp at h
 | x :: l, 0, h => by simp
 | x :: l, i + 1, h => by
  have := erase_perm l i (by simpa using h)
  simp only [List.getElem_cons_succ, List.eraseIdx_cons_succ]
  exact (List.Perm.swap _ _ _).trans (List.Perm.cons _ this)
theorem pick_perm {α : Type} (next : Nat -> Nat) : ∀ (fuel k : Nat) (left : List α) (out : Array α), left.length <= fuel -> (pickOrder.go next fuel k left out).toList.Perm (out.toList ++ left)
 | 0, k, left, out, h => by
  have : left = [] := List.length_eq_zero_iff.mp (by omega)
  subst this
  simp [pickOrder.go]
 | fuel + 1, k, left, out, h => by
  unfold pickOrder.go
  cases left with
  | nil => simp
  | cons y ys =>
   have hl : next k % (y :: ys).length < (y :: ys).length := Nat.mod_lt _ (by simp)
   rw [List.getElem?_eq_getElem hl]
   dsimp only
   refine (pick_perm next fuel (k + 1) _ _ (by rw [List.length_eraseIdx_of_lt hl]; simp at h ⊢; omega)).trans ?_
   rw [Array.toList_push, List.append_assoc]
   exact List.Perm.append_left _ (erase_perm _ _ hl)
theorem pickOrder_perm {α : Type} (next : Nat -> Nat) (xs : Array α) : (pickOrder next xs).toList.Perm xs.toList := by
 unfold pickOrder
 simpa using pick_perm next xs.size 0 xs.toList #[] (by simp)
end ST
namespace ST
open PySem PySem.Spec PyProof.Rows
def valI : Value -> Int
 | .int k _ => k
 | _ => 0
section
variable {prog : Program} {w : World} {A : Around} {E : Value -> Shared -> Prop} {s : Shared}
abbrev txt (w : World) : Bool := w.params.followText "set-order"
structure Parts (prog : Program) (w : World) (o : Obj) (es : Array (Int × Value)) (ep : Nat) (t : SetTable) (ks : List Int) : Prop where
 ex : o.ExactSet
 dat : o.data = .set es ep t
 el : ElemsOf (intKind prog w) es.toList
 ks : (es.toList.map fun e => valI e.2).Perm ks
 few : es.size < scanBound
 fit : t.fits es.size = true
 good : Good (txt w) t
def SetI (prog : Program) (w : World) (h : Heap) (a : Addr) (ks : List Int) : Prop := ∃ o es ep t, h.get? a = some o /\ Parts prog w o es ep t ks
theorem SetI.keep {h h' : Heap} {a : Addr} {ks : List Int} (x : SetI prog w h a ks) (e : ∀ o, h.get? a = some o -> h'.get? a = some o) : SetI prog w h' a ks :=
 let ⟨o, es, ep, t, ho, p⟩ := x; ⟨o, es, ep, t, e o ho, p⟩
theorem int_of {k : Int} {v : Value} (h : (intKind prog w).is k v = true) : ∃ t, v = .int k t := Value.isInt_shape h
theorem el_int {es : List (Int × Value)} (h : ElemsOf (intKind prog w) es) {e : Int × Value} (he : e ∈ es) : ∃ t, e.2 = .int (valI e.2) t := by
 obtain ⟨⟨k, hk, _⟩, _⟩ := h e he
 obtain ⟨t, q⟩ := int_of hk
 exact ⟨t, by rw [q]; rfl⟩
theorem find_none {es : List (Int × Value)} (h : ElemsOf (intKind prog w) es) {k : Int} (hf : es.findIdx? (fun e => (intKind prog w).is k e.2) = none) : k ∉ es.map fun e => valI e.2 := by
 intro z
 obtain ⟨e, he, q⟩ := List.mem_map.mp z
 obtain ⟨t, e2⟩ := el_int h he
 have := List.findIdx?_eq_none_iff.mp hf e he
 rw [e2, q] at this
 rw [intKind_is] at this
 cases this
theorem find_some {es : List (Int × Value)} {k : Int} {j : Nat} (hf : es.findIdx? (fun e => (intKind prog w).is k e.2) = some j) : k ∈ es.map fun e => valI e.2 := by
 obtain ⟨hj, hp, _⟩ := List.findIdx?_eq_some_iff_getElem.mp hf
 obtain ⟨t, q⟩ := int_of hp
 exact List.mem_map.mpr ⟨es[j], List.getElem_mem hj, by rw [q]; rfl⟩
theorem store_parts {a : Addr} {o : Obj} {es es' : Array (Int × Value)} {ep : Nat} {t t' : SetTable} {ks' : List Int} {h : Heap} (ho : h.get? a = some o) (hd : o.data = .set es ep t) (hx : o.ExactSet)
  (p : Parts prog w { o with data := .set es' (ep + 1) t' } es' (ep + 1) t' ks') : (h.update a (Obj.putSet es' t')).get? a = some { o with data := .set es' (ep + 1) t' } :=
 (SetOf_store (knd := intKind prog w) (S' := fun k => decide (k ∈ es'.toList.map fun e => valI e.2)) ho hx hd p.el (fun k => by
  rw [decide_eq_true_eq, List.mem_map]
  constructor
  ·rintro ⟨e, he, rfl⟩
   obtain ⟨q, e2⟩ := el_int p.el he
   exact ⟨e, he, by rw [e2]; exact intKind_is _ _ _ _⟩
  ·rintro ⟨e, he, q⟩
   obtain ⟨tk, e2⟩ := int_of q
   exact ⟨e, he, by rw [e2]; rfl⟩) p.few p.fit).1
theorem add_end {g : Bool -> Sem Unit} (hg : ∀ (b : Bool) (s₁ : Shared) (Q' : Unit -> Shared -> Prop), Q' () s₁ -> wpAny (model prog w) A (g b) Q' E s₁) {a : Addr} {o : Obj} {es es1 : Array (Int × Value)} {ep : Nat} {t t2 : SetTable} {ks' : List Int}
  (ho : s.heap.get? a = some o) (hd : o.data = .set es ep t) (hx : o.ExactSet) (p : Parts prog w { o with data := .set es1 (ep + 1) t2 } es1 (ep + 1) t2 ks') {wd : Bool} {R : Option Bool -> Shared -> Prop}
  (h : ∀ h', Heap.SameBut a s.heap h' -> SetI prog w h' a ks' -> R (some true) { s with heap := h' }) :
  wpAny (model prog w) A (do
   storeSet a es1 t2
   if (!wd && t2.tooFull) = true then do
    g (relayAll t2 es1 (SetTable.grown es1.size)).2.2
    storeSet a (relayAll t2 es1 (SetTable.grown es1.size)).1 (relayAll t2 es1 (SetTable.grown es1.size)).2.1
    pure (some true)
   else pure (some true)) R E s := by
 refine wpAny_bind (wpAny_storeSet_of ho hd ?_ (fits_of_scanBound p.few))
 have ho1 := store_parts ho hd hx p
 have sb1 := Heap.SameBut.update s.heap a (Obj.putSet es1 t2)
 split
 ·have hp := relayAll_perm t2 es1 (SetTable.grown es1.size)
  have hf := relayAll_fits t2 es1 (SetTable.grown es1.size)
  have hgd := good_relay (es := es1) (n := SetTable.grown es1.size) p.good
  have hz : (relayAll t2 es1 (SetTable.grown es1.size)).1.size = es1.size := by simpa using hp.length_eq
  have p2 : Parts prog w { o with data := .set (relayAll t2 es1 (SetTable.grown es1.size)).1 (ep + 1 + 1) (relayAll t2 es1 (SetTable.grown es1.size)).2.1 } (relayAll t2 es1 (SetTable.grown es1.size)).1 (ep + 1 + 1) (relayAll t2 es1 (SetTable.grown es1.size)).2.1 ks' :=
   ⟨hx, rfl, p.el.perm hp, (hp.map _).trans p.ks, by rw [hz]; exact p.few, hf, hgd⟩
  refine wpAny_bind (hg _ _ _ (wpAny_bind (wpAny_storeSet_of ho1 rfl (wpAny_pure (h _ (sb1.trans (Heap.SameBut.update _ a _)) ⟨_, _, _, _, store_parts ho1 rfl hx p2, p2⟩)) (fits_of_scanBound p2.few))))
 ·exact wpAny_pure (h _ sb1 ⟨_, _, _, _, ho1, p⟩)
theorem any_mem {ks : List Int} {k : Int} : (ks.any (· == k)) = decide (k ∈ ks) := by
 rw [Bool.eq_iff_iff, List.any_eq_true, decide_eq_true_eq]
 constructor
 ·rintro ⟨x, hx, e⟩; rw [<- eq_of_beq e]; exact hx
 ·exact fun hx => ⟨k, hx, beq_self_eq_true k⟩
theorem dd_mem {ks : List Int} {k : Int} (h : k ∈ ks) : step_dedup ks k = ks := by unfold step_dedup; rw [any_mem, if_pos (decide_eq_true h)]
theorem dd_new {ks : List Int} {k : Int} (h : k ∉ ks) : step_dedup ks k = ks ++ [k] := by unfold step_dedup; rw [any_mem, if_neg (by rw [decide_eq_true_eq]; exact h)]
theorem add_int {a : Addr} {ks : List Int} {k : Int} {tk : Tok} {Q : Bool -> Shared -> Prop} (hS : SetI prog w s.heap a ks) (room : ks.length + 1 < scanBound)
  (h : ∀ b h', Heap.SameBut a s.heap h' -> SetI prog w h' a (step_dedup ks k) -> Q b { s with heap := h' }) : wpAny (model prog w) A (setAddHashed a (.int k tk) ((intKind prog w).hash k)) Q E s := by
 obtain ⟨o, es, ep, t, ho, p⟩ := hS
 have hk : (intKind prog w).is k (.int k tk) = true := intKind_is _ _ _ _
 have hsz : es.size = ks.length := by have := p.ks.length_eq; simpa using this
 unfold setAddHashed setAddHashedIn
 refine wpAny_holding (wpAny_bind (wpAny_setState_of ho p.dat p.fit ?_))
 dsimp only
 rw [byScan_of (x := .int k tk) rfl p.few p.el]
 simp only [if_true]
 unfold setAddByScan
 refine wpAny_bind (wpAny_bind (wpAny_rule (wpAny_bind (wpAny_setScan_of hk ho p.dat p.fit p.el ?_))))
 cases hr : List.findIdx? (fun e => (intKind prog w).is k e.2) es.toList with
 | some j =>
  have hm : k ∈ ks := p.ks.mem_iff.mp (find_some hr)
  refine wpAny_pure (wpAny_pure ?_)
  have q := h false s.heap (Heap.SameBut.refl a _) (by rw [dd_mem hm]; exact ⟨o, es, ep, t, ho, p⟩)
  cases s
  exact q
 | none =>
  have hm : k ∉ ks := fun z => find_none p.el hr (p.ks.mem_iff.mpr z)
  dsimp only
  have gw : ∀ (b : Bool) {s₁ : Shared} {Q' : Unit -> Shared -> Prop}, Q' () s₁ -> wpAny (model prog w) A (match b with | true => rule "set.scan.the-table-gave-way" | false => pure ()) Q' E s₁ := fun b s₁ Q' q => by
   cases b
   ·exact wpAny_pure q
   ·exact wpAny_rule q
  have lp := layNew_perm t es ((intKind prog w).hash k) (.int k tk)
  have lf := layNew_fits t es ((intKind prog w).hash k) (.int k tk)
  have lg : Good (txt w) (layNew t es ((intKind prog w).hash k) (.int k tk)).2.1 := good_layNew p.good
  generalize layNew t es ((intKind prog w).hash k) (.int k tk) = L at lp lf lg
  obtain ⟨es1, t1, wd, gv⟩ := L
  dsimp only at lp lf lg ⊢
  rw [Array.toList_push] at lp
  have z1 : es1.size = ks.length + 1 := by have := lp.length_eq; simp at this; omega
  have mk : ∀ t2 : SetTable, t2.fits es1.size = true -> Good (txt w) t2 -> Parts prog w { o with data := .set es1 (ep + 1) t2 } es1 (ep + 1) t2 (step_dedup ks k) := fun t2 f2 g2 =>
   ⟨p.ex, rfl, (p.el.push hk rfl).perm lp, by
    rw [dd_new hm]
    refine (lp.map _).trans ?_
    rw [List.map_append]
    exact p.ks.append (List.Perm.refl _), by omega, f2, g2⟩
  refine wpAny_bind (gw _ ?_)
  have fin : ∀ h', Heap.SameBut a s.heap h' -> SetI prog w h' a (step_dedup ks k) -> wpAny (model prog w) A (pure true) (fun b s' => Q b s') E { s with heap := h' } := fun h' b c => wpAny_pure (h true h' b c)
  split
  ·refine wpAny_bind ?_
   rw [hashByValue_scannable 8 (x := .int k tk) rfl]
   refine wpAny_pure (add_end (fun b s₁ Q' q => ?_) ho p.dat p.ex (mk _ ?_ ?_) fun h' b c => wpAny_pure (h _ h' b c))
   ·cases b
    ·exact wpAny_pure q
    ·exact wpAny_rule q
   ·split
    ·exact lf
    ·exact SetTable.fits_plain_off lf
   ·split
    ·exact lg
    ·exact lg
  ·refine wpAny_bind (wpAny_pure ?_)
   simp only [if_true]
   refine add_end (fun b s₁ Q' q => ?_) ho p.dat p.ex (mk _ lf lg) fun h' b c => wpAny_pure (h _ h' b c)
   cases b
   ·exact wpAny_pure q
   ·exact wpAny_rule q
end
end ST
namespace ST
open PySem PySem.Spec PyProof.Rows
section
variable {prog : Program} {w : World} {A : Around} {E : Value -> Shared -> Prop} {s : Shared} {R : Result -> Shared -> Prop}
theorem upd_loop {I : Addr} {fp wr : List Addr} {n : Nat} {P : Nat -> Value -> Prop} {St : Nat -> Heap -> Prop} (W : Walks prog w A.in1 I fp wr n P St) (S : Addr) (hS : S ∉ fp) (val : Nat -> Int) (hval : ∀ i v, P i v -> ∃ t, v = .int (val i) t) (hb : n + 1 < scanBound) :
  ∀ (k i : Nat) (s : Shared), n - i = k -> i <= n -> St i s.heap -> SetI prog w s.heap S (firstMet val i) ->
   (∀ h' tk, SetI prog w h' S (firstMet val n) -> (∀ b o, b ≠ S -> b ∉ wr -> s.heap.get? b = some o -> h'.get? b = some o) -> R (.ok (.ret .none)) { s with heap := h', toks := tk }) ->
   codeAny (model prog w) A (.builtin "set.update.loop" ⟨[.ref S, .ref I], []⟩) R s := by
 have hw : S ∉ wr := fun z => hS (W.sub _ z)
 intro k
 induction k with
 | zero =>
  intro i s hk hi st si hR
  have e : i = n := by omega
  subst e
  refine codeAny_builtin F.entry_set_update_loop ?_
  rw [Around.under_plainId F.plain_set_update_loop _]
  refine wpAny_bind (W.done s _ _ st fun h' tk hm => wpAny_pure ?_)
  exact hR h' tk (si.keep fun o e => hm S o hw e) fun b o _ hb e => hm b o hb e
 | succ k ih =>
  intro i s hk hi st si hR
  have hlt : i < n := by omega
  refine codeAny_builtin F.entry_set_update_loop ?_
  rw [Around.under_plainId F.plain_set_update_loop _]
  refine wpAny_bind (W.item i s _ _ hlt st fun v h1 tk1 hP st1 hm => ?_)
  obtain ⟨t, rfl⟩ := hval i v hP
  have s1 : SetI prog w h1 S (firstMet val i) := si.keep fun o e => hm S o hw e
  have fl := firstMet_length_le val i
  refine wpAny_bind (wpAny_holding ?_)
  unfold setAdd
  refine wpAny_holding (wpAny_bind ((intKind prog w).pyHash (k := val i) (intKind_is _ _ _ _) ?_))
  refine add_int (s := { s with heap := h1, toks := tk1 + 1 }) s1 (by omega) fun b h2 sb s2 => ?_
  rw [<- firstMet_succ] at s2
  refine wpAny_pure ⟨plainId_quiet F.plain_set_update_loop _, ih (i + 1) _ (by omega) hlt (W.frame _ h1 _ st1 fun c hc o e => ?_) s2 fun h3 tk3 s3 k3 => hR h3 tk3 s3 fun c o n1 n2 e => k3 c o n1 n2 ?_⟩
  ·rw [sb.2 c (fun z => hS (by rw [<- z]; exact hc))]; exact e
  ·show h2.get? c = some o
   rw [sb.2 c n1]; exact hm c o n2 e
abbrev newS (w : World) : Obj := { cls := .type "set", dict := none, data := .set #[] 0 (.fresh 0 0 (!txt w)) }
theorem new_parts : Parts prog w (newS w) #[] 0 (.fresh 0 0 (!txt w)) [] where
 ex := ⟨rfl, rfl, rfl⟩
 dat := rfl
 el := fun e he => by simp at he
 ks := by simp
 few := by decide
 fit := rfl
 good := ⟨by simp [Ris, SetTable.fresh], fun e => by rw [e]; rfl⟩
theorem code_new (a : Value) {Q₁ : Value -> Shared -> Prop} (h : Q₁ (.ref s.heap.objs.size) { s with heap := s.heap.push (newS w) }) :
  codeAny (model prog w) A (.call (.builtin "set.__new__") ⟨[.type "set", a], []⟩) (wants Q₁ E) s := by
 refine codeAny_of_tree ?_
 show wpAny _ _ (checkBuiltinCall "set.__new__" ⟨[.type "set", a], []⟩ >>= fun _ => again (.builtin "set.__new__" ⟨[.type "set", a], []⟩)) _ _ s
 refine wpAny_bind (wpAny_of_eq (PySem.F.newCall_set_1 a) (wpAny_pure ⟨plainId_quiet PySem.F.plain_set_new _, codeAny_builtin PySem.F.entry_set_new ?_⟩))
 rw [Around.under_plainId PySem.F.plain_set_new _]
 have sub := sub_set_self
 unfold Builtin.«set.__new__» Builtin.Frozenset.newClass
 obtain ⟨hp, g, d, tk, os⟩ := s
 dsimp only
 wp_walk
 refine wpAny_askSetting (wpAny_pure ?_)
 dsimp only
 simp only [newObj]
 exact wpAny_bind (wpAny_alloc (wpAny_pure (wpAny_pure h)))
theorem range_getD (ns : List Int) : (List.range ns.length).map (fun i => ns.getD i 0) = ns := by
 apply List.ext_getElem
 ·simp
 ·intro i h1 h2
  simp [h2]
def dd (ns : List Int) : List Int := ns.foldl step_dedup []
theorem met_dd (ns : List Int) : firstMet (fun i => ns.getD i 0) ns.length = dd ns := by
 unfold firstMet dd
 rw [range_getD]
theorem call_set_ints {l : Addr} {items : Array Value} {ns : List Int} {Q : Value -> Shared -> Prop} (hh : A.handled = none) (hl : s.heap.IsList l items) (hi : IntsAre items.toList ns) (hb : items.size + 1 < scanBound)
  (h : ∀ h' tk, SetI prog w h' s.heap.objs.size (dd ns) -> (∀ b o, s.heap.get? b = some o -> h'.get? b = some o) -> Q (.ref s.heap.objs.size) { s with heap := h', toks := tk }) :
  wpAny (model prog w) A (call (.type "set") [.ref l]) Q E s := by
 have hnz : ns.length = items.size := by have := IntsAre.length hi; simpa using this.symm
 obtain ⟨c, tl, mro⟩ := PySem.F.called_set.mro
 have made := PySem.F.called_set.made
 have sub := PySem.F.called_set.sub
 refine wpAny_call (codeAny_of_tree (wpAny_pure ⟨Code.quiet_builtin _ (by decide +kernel), codeAny_builtin PySem.F.entry_type_call ?_⟩))
 rw [Around.under_plain (weight_type_call_type "set" [.ref l] []) rfl]
 have h1 := PySem.F.called_set.notType
 have h2 := PySem.F.called_set.canCreate
 have h3 := PySem.F.typeCall_set_1 (.ref l)
 repeat (any_goals (first | assumption | wp_step))
 refine codeAny_mono (code_new (.ref l) (E := E) (Q₁ := fun obj s₁ => obj = .ref s.heap.objs.size /\ s₁ = { s with heap := s.heap.push (newS w) }) ⟨rfl, rfl⟩) fun r s₁ hr => ?_
 cases r with
 | error e => exact hr
 | ok fl =>
  cases fl with
  | ret obj =>
   obtain ⟨rfl, rfl⟩ := hr
   have gS : (s.heap.push (newS w)).get? s.heap.objs.size = some (newS w) := Heap.get?_push_size _ rfl
   have hT : Shared.TypeIs { s with heap := s.heap.push (newS w) } (.ref s.heap.objs.size) "set" := ⟨_, gS, rfl⟩
   have look := PySem.F.called_set.init.lookup
   have bnd := PySem.F.called_set.init.bind (.ref s.heap.objs.size)
   repeat (any_goals (first | assumption | wp_step))
   refine codeAny_mono (codeAny_call_builtin (R := wants (fun r s₂ => r = .none /\ ∃ h' tk, s₂ = { s with heap := h', toks := tk } /\ SetI prog w h' s.heap.objs.size (dd ns) /\ (∀ b o, s.heap.get? b = some o -> h'.get? b = some o)) E)
    PySem.F.called_set.init.plain PySem.F.entry_set_init (check_set_init_1 hT ?_)) fun r₂ s₂ hr₂ => ?_
   ·obtain ⟨ol, hol, hcl, nl, hdl⟩ := hl
    obtain ⟨oc, od, odt, osl⟩ := ol
    dsimp only at hcl hdl
    subst hcl; subst hdl
    have hol2 : (s.heap.push (newS w)).get? l = some { cls := .type "list", dict := od, data := .seq items nl, slots := osl } := Heap.get?_push_of_some _ hol
    have f1 := PySem.F.sub_list_set
    have f2 := PySem.F.sub_list_frozenset
    have f3 : (Value.type "list" == Value.type "dict") = false := by decide
    have il : (s.heap.push (newS w)).IsList l items := ⟨_, hol2, rfl, nl, rfl⟩
    unfold Builtin.«set.__init__» noKeywords Builtin.Frozenset.updateFrom
    generalize hPI : pyIter = PI
    wp_walk
    subst hPI
    refine wpAny_pyIter_list il (wpAny_bind (wpAny_runValue ?_))
    have lt : l < s.heap.objs.size := Heap.lt_size hol
    have sz : (s.heap.push (newS w)).objs.size = s.heap.objs.size + 1 := by rw [Heap.size_push]
    have hne : l ≠ (s.heap.push (newS w)).objs.size := by rw [sz]; exact Nat.ne_of_lt (Nat.lt_succ_of_lt lt)
    have hSf : s.heap.objs.size ∉ [(s.heap.push (newS w)).objs.size, l] := by
     rw [sz]
     simp only [List.mem_cons, List.not_mem_nil, or_false, not_or]
     exact ⟨Nat.ne_of_lt (Nat.lt_succ_self _), Nat.ne_of_gt lt⟩
    refine upd_loop (Walks.list (A := A.in1.in1.in1) (by simp [hh]) _ l hne items) s.heap.objs.size hSf (fun i => ns.getD i 0) (fun i v hv => IntsAre.int_at hi i v (by rw [Array.getElem?_toList]; exact hv)) hb (items.size - 0) 0 _ rfl (Nat.zero_le _)
     ⟨⟨_, Heap.get?_push_size _ rfl, rfl, rfl⟩, il.push _⟩ ⟨_, _, _, _, Heap.get?_push_of_some _ gS, new_parts⟩ fun h' tk si kp => ?_
    rw [<- hnz, met_dd] at si
    refine wpAny_pure (wpAny_pure ⟨rfl, h', tk, rfl, si, fun b o e => ?_⟩)
    have bl : b < s.heap.objs.size := Heap.lt_size e
    refine kp b o (Nat.ne_of_lt bl) ?_ (Heap.get?_push_of_some _ (Heap.get?_push_of_some _ e))
    simp only [List.mem_singleton]
    rw [sz]
    exact Nat.ne_of_lt (Nat.lt_succ_of_lt bl)
   ·cases r₂ with
    | error e => exact hr₂
    | ok fl₂ =>
     cases fl₂ with
     | ret r =>
      obtain ⟨rfl, h', tk, rfl, si, kp⟩ := hr₂
      repeat (any_goals (first | assumption | wp_step))
      exact h _ _ si kp
     | _ => exact hr₂.elim
  | _ => exact hr.elim
end
end ST
namespace ST
open PySem PySem.Spec PyProof.Rows
theorem sl_next : Slot "set_iterator" "__next__" "set_iterator.__next__" :=
 .of (owner := "set_iterator") (n := "__next__") (by rw [typeLookup_type, builtinLookup_eq_fast]; kernel_rfl) (by decide +kernel) (by decide +kernel) (by decide +kernel) (by first | exact .inl (by decide +kernel) | exact .inr (by decide +kernel)) (by rw [isSubtype_type]; kernel_rfl)
theorem en_next : entryFor table "set_iterator.__next__" = some Builtin.«set_iterator.__next__» := entryFor_of_tree (by kernel_rfl)
theorem ow_seti : Manifest.owners.lookup (String.ofList ['r', 'o', 't', 'a', 'r', 'e', 't', 'i', '_', 't', 'e', 's'].reverse) = some Manifest.sig_set_iterator := by kernel_rfl
theorem ar_next (a : Value) : argsOk "set_iterator.__next__" ⟨[a], []⟩ := by
 unfold argsOk
 rw [signature?_of (id := "set_iterator.__next__") (n := ['_', '_', 't', 'x', 'e', 'n', '_', '_']) (o := ['r', 'o', 't', 'a', 'r', 'e', 't', 'i', '_', 't', 'e', 's']) (by kernel_rfl) ow_seti]
 kernel_rfl
theorem en_iter : entryFor table "set.__iter__" = some Builtin.«frozenset.__iter__» := entryFor_alias (id' := "frozenset.__iter__") (by kernel_rfl) (by decide +kernel) (by decide +kernel) (by kernel_rfl)
abbrev itO (f : Value) (i : Nat) (a : Value) (n ep : Nat) : Obj := { cls := .type "set_iterator", dict := none, data := .fields #[f, .int i 0, a, .int n 0, .int ep 0], slots := #[] }
section
variable {prog : Program} {w : World} {A : Around} {E : Value -> Shared -> Prop} {s : Shared} {o : Obj} {es : Array (Int × Value)} {ep : Nat} {t : SetTable} {ks : List Int} {a : Addr}
theorem go_state (ho : s.heap.get? a = some o) (p : Parts prog w o es ep t ks) {Q : (Array (Int × Value) × Nat × SetTable) -> Shared -> Prop} (h : Q (es, ep, t) s) : wpAny (model prog w) A (setState a) Q E s := wpAny_setState_of ho p.dat p.fit h
theorem go_text {Q : Bool -> Shared -> Prop} (h : Q (txt w) s) : wpAny (model prog w) A setsByText Q E s := by
 unfold setsByText
 exact wpAny_bind (wpAny_askSetting (wpAny_pure h))
def isDr (w : World) (es : Array (Int × Value)) (t : SetTable) : Bool := !txt w && (!t.plain && decide (es.size > 1))
theorem go_drawn (ho : s.heap.get? a = some o) (p : Parts prog w o es ep t ks) {Q : Bool -> Shared -> Prop} (h : Q (isDr w es t) s) : wpAny (model prog w) A (setDrawn a) Q E s := by
 unfold setDrawn
 refine wpAny_bind (go_state ho p (wpAny_bind (go_text (wpAny_pure h))))
theorem go_walk (ho : s.heap.get? a = some o) (p : Parts prog w o es ep t ks) (ht : txt w = true) {Q : Array (Int × Value) -> Shared -> Prop} (h : Q (pickOrder (w.params.setOrder a ep) es) s) : wpAny (model prog w) A (setWalk a) Q E s := by
 unfold setWalk
 refine wpAny_bind (go_state ho p (wpAny_bind (go_text ?_)))
 rw [ht, if_pos rfl]
 exact wpAny_bind (wpAny_askSetting (wpAny_pure h))
def ord (w : World) (a : Addr) (ep : Nat) (es : Array (Int × Value)) : Array (Int × Value) := if txt w = true then pickOrder (w.params.setOrder a ep) es else es
def slt (w : World) (t : SetTable) (i : Nat) : Nat := if txt w = true then 0 else slotAt t.place i
theorem go_next (ho : s.heap.get? a = some o) (p : Parts prog w o es ep t ks) (hd : isDr w es t = false) {i : Nat} (hi : i <= es.size) {Q : Option (Value × Nat) -> Shared -> Prop}
  (h : Q ((ord w a ep es)[i]?.map fun e => (e.2, slt w t (i + 1))) s) : wpAny (model prog w) A (setNext a (slt w t i) i ep) Q E s := by
 unfold setNext
 refine wpAny_bind (go_state ho p (wpAny_bind (go_text ?_)))
 unfold ord slt at *
 cases ht : txt w with
 | true =>
  simp only [ht, if_true] at h ⊢
  rw [if_neg (by simp)]
  exact wpAny_bind (go_walk ho p ht (wpAny_pure h))
 | false =>
  simp only [ht, Bool.false_eq_true, if_false] at h ⊢
  have hd' : (!t.plain && decide (es.size > 1)) = false := by unfold isDr at hd; rw [ht] at hd; exact hd
  have led : t.led = true := p.good.2 ht
  have psz : t.place.size = es.size := by
   have f := p.fit
   unfold SetTable.fits at f
   rw [Bool.and_eq_true] at f
   exact eq_of_beq f.1
  refine wpAny_ite_split (fun z => ?_) fun _ => wpAny_bind (wpAny_ite_split (fun z => ?_) fun _ => wpAny_pure ?_)
  ·have z' : (!t.plain && decide (es.size > 1)) = true := z
   rw [hd'] at z'; cases z'
  ·have z' : (!t.led && !es.isEmpty) = true := z
   rw [led] at z'; cases z'
  rw [below_slotAt p.good.1 (by omega)]
  refine wpAny_pure ?_
  by_cases hlt : i < es.size
  ·rw [Array.getElem?_eq_getElem hlt] at h ⊢
   rw [Array.getElem?_eq_getElem (show i < t.place.size by omega)]
   have e1 : slotAt t.place (i + 1) = t.place[i] + 1 := by simp [slotAt, Array.getD, show i < t.place.size by omega]
   rw [e1] at h
   exact h
  ·rw [Array.getElem?_eq_none (by omega)] at h ⊢
   exact h
theorem ord_perm : (ord w a ep es).toList.Perm es.toList := by
 unfold ord
 split
 ·exact pickOrder_perm _ _
 ·exact List.Perm.refl _
theorem ent_of (ho : s.heap.get? a = some o) (p : Parts prog w o es ep t ks) {Q : Array (Int × Value) -> Shared -> Prop} (h : Q es s) : wpAny (model prog w) A (setEntries a) Q E s := by
 unfold setEntries
 exact wpAny_bind (go_state ho p (wpAny_pure h))
theorem stop_of {P : PySem.Fin -> Shared -> Prop} {Q : Option Value -> Shared -> Prop} (hh : A.handled = none) (h : ∀ h', (∀ b o, s.heap.get? b = some o -> h'.get? b = some o) -> Q none { s with heap := h' }) :
  wpAny (model prog w) A.in1 (do let e <- newExc (Value.type "StopIteration") []; raiseNew e) P (fun e s' => wpAny (model prog w) A (do
   let b <- isInstance e (Value.type "StopIteration")
   if b = true then pure none else throw e) Q E s') s := by
 simp only [newExc, newTuple]
 refine wpAny_bind (wpAny_bind (wpAny_newObj_type (wpAny_bind (m := firstArgMember _ _) (wpAny_of_eq (a := Value.none) (by first | rfl | (simp only [firstArgMember]; rfl)) (wpAny_newObj_type ?_ (by size_fits)))) (by size_fits)))
 simp only [raiseNew]
 refine wpAny_bind (wpAny_handled ?_)
 rw [show A.in1.handled = none from hh]
 refine wpAny_bind (wpAny_pure (wpAny_throw ?_))
 refine wpAny_bind (wpAny_isInstance (T := "StopIteration") (b := true) ⟨_, Heap.get?_push_size _ rfl, rfl⟩ isSubtype_stop (wpAny_pure ?_))
 exact h _ fun b o e => Heap.get?_push_of_some _ (Heap.get?_push_of_some _ e)
theorem nx_open {it : Addr} {f : Value} {i : Nat} {Q : Option Value -> Shared -> Prop} (hit : s.heap.get? it = some (itO f i (.ref a) es.size ep)) (ho : s.heap.get? a = some o) (p : Parts prog w o es ep t ks)
  (h : wpAny (model prog w) A.in1 (match f with
   | Value.int slot tok => do
    let r <- setNext a slot.toNat i ep
    match r with
     | some (x, next) => do
      setField (Value.ref it) 0 (rawInt next)
      setField (Value.ref it) 1 (rawInt ((i : Int) + 1))
      ret x
     | none => do
      setField (Value.ref it) 2 Value.none
      let e <- newExc (Value.type "StopIteration") []
      raiseNew e
   | x => do
    let r <- seqItems? f
    match r with
     | some places =>
      match places[i]? with
      | some (Value.int place tok) => do
       let x <- setNextDrawn a place.toNat ep
       setField (Value.ref it) 1 (rawInt ((i : Int) + 1))
       ret x
      | some val => unsupported "internal:set_iterator"
      | none => do
       setField (Value.ref it) 0 (rawInt 0)
       setField (Value.ref it) 2 Value.none
       let e <- newExc (Value.type "StopIteration") []
       raiseNew e
     | x => unsupported "internal:set_iterator")
   (fun fin s' => ∃ v, fin = PySem.Fin.done (Flow.ret v) /\ wpAny (model prog w) A (pure (some v)) Q E s')
   (fun e s' => wpAny (model prog w) A (do
    let b <- isInstance e (Value.type "StopIteration")
    if b = true then pure none else throw e) Q E s') s) : wpAny (model prog w) A (pyNext (.ref it)) Q E s := by
 have hT : s.TypeIs (.ref it) "set_iterator" := ⟨_, hit, rfl⟩
 unfold pyNext
 refine wpAny_bind (wpAny_attempt (wpAny_callSpecial?_slot (name := Str.ofString "__next__") hT sl_next (wpAny_call_entry sl_next hT en_next ?_ (ar_next _))))
 unfold Builtin.«set_iterator.__next__»
 refine wpAny_bind (wpAny_pure (wpAny_bind (wpAny_fieldsOf hit rfl ?_)))
 dsimp only
 refine wpAny_bind (ent_of ho p ?_)
 rw [if_neg (by simp)]
 exact h
theorem rawI (k : Nat) : rawInt ((k : Int) + 1) = .int ((k + 1 : Nat) : Int) 0 := by
 rw [show ((k + 1 : Nat) : Int) = (k : Int) + 1 by omega]; rfl
theorem nxA_item {it : Addr} {i : Nat} {e : Int × Value} {Q : Option Value -> Shared -> Prop} (hd : isDr w es t = false) (hia : a ≠ it) (hit : s.heap.get? it = some (itO (.int (slt w t i) 0) i (.ref a) es.size ep)) (ho : s.heap.get? a = some o) (p : Parts prog w o es ep t ks)
  (hi : (ord w a ep es)[i]? = some e) (hQ : ∀ h', h'.get? it = some (itO (.int (slt w t (i + 1)) 0) (i + 1) (.ref a) es.size ep) -> (∀ b o, b ≠ it -> s.heap.get? b = some o -> h'.get? b = some o) -> Q (some e.2) { s with heap := h' }) :
  wpAny (model prog w) A (pyNext (.ref it)) Q E s := by
 have hz : i < es.size := by
  have := ord_perm (w := w) (a := a) (ep := ep) (es := es) |>.length_eq
  have h2 := (Array.getElem?_eq_some_iff.mp hi).1
  simp at this
  omega
 refine nx_open hit ho p (wpAny_bind ?_)
 rw [Int.toNat_natCast]
 refine go_next ho p hd (by omega) ?_
 rw [hi]
 refine wpAny_bind (wpAny_setField_rec hit (by simp) fun h1 e1 s1 => wpAny_bind (wpAny_setField_rec (s := { s with heap := h1 }) e1 (by simp) fun h2 e2 s2 => wpAny_pure ⟨_, rfl, wpAny_pure (hQ h2 ?_ fun b o hb q => s2.extBut b o hb (s1.extBut b o hb q))⟩))
 rw [rawI] at e2
 exact e2
theorem nxA_end {it : Addr} {Q : Option Value -> Shared -> Prop} (hh : A.handled = none) (hd : isDr w es t = false) (hit : s.heap.get? it = some (itO (.int (slt w t es.size) 0) es.size (.ref a) es.size ep)) (ho : s.heap.get? a = some o) (p : Parts prog w o es ep t ks)
  (hQ : ∀ h', (∀ b o, b ≠ it -> s.heap.get? b = some o -> h'.get? b = some o) -> Q none { s with heap := h' }) : wpAny (model prog w) A (pyNext (.ref it)) Q E s := by
 have hz : (ord w a ep es)[es.size]? = none := by
  have := ord_perm (w := w) (a := a) (ep := ep) (es := es) |>.length_eq
  simp at this
  exact Array.getElem?_eq_none (by omega)
 refine nx_open hit ho p (wpAny_bind ?_)
 rw [Int.toNat_natCast]
 refine go_next ho p hd (Nat.le_refl _) ?_
 rw [hz]
 exact wpAny_bind (wpAny_setField_rec hit (by simp) fun h1 e1 s1 => stop_of (s := { s with heap := h1 }) hh fun h2 k2 => hQ h2 fun b o hb q => k2 b o (s1.extBut b o hb q))
theorem nxB_item {it T : Addr} {ps : List Nat} {oT : Obj} {nT : Nat} {i j : Nat} {e : Int × Value} {Q : Option Value -> Shared -> Prop} (hia : a ≠ it) (hiT : T ≠ it) (hit : s.heap.get? it = some (itO (.ref T) i (.ref a) es.size ep)) (hT : s.heap.get? T = some oT) (hTd : oT.data = .seq (ps.map fun (x : Nat) => rawInt x).toArray nT) (hTc : oT.cls = .type "tuple")
  (ho : s.heap.get? a = some o) (p : Parts prog w o es ep t ks) (hj : ps[i]? = some j) (he : es[j]? = some e)
  (hQ : ∀ h', h'.get? it = some (itO (.ref T) (i + 1) (.ref a) es.size ep) -> (∀ b o, b ≠ it -> s.heap.get? b = some o -> h'.get? b = some o) -> Q (some e.2) { s with heap := h' }) :
  wpAny (model prog w) A (pyNext (.ref it)) Q E s := by
 refine nx_open hit ho p ?_
 dsimp only
 refine wpAny_bind ?_
 unfold seqItems?
 dsimp only
 refine wpAny_bind (wpAny_load hT ?_)
 rw [hTd]
 refine wpAny_pure ?_
 dsimp only
 rw [show ((ps.map fun (x : Nat) => rawInt x).toArray)[i]? = some (Value.int j 0) by simp [hj, rawInt]]
 dsimp only
 refine wpAny_bind ?_
 unfold setNextDrawn
 refine wpAny_bind (go_state ho p ?_)
 dsimp only
 rw [if_neg (by simp), Int.toNat_natCast, he]
 refine wpAny_pure (wpAny_bind (wpAny_setField_rec hit (by simp) fun h1 e1 s1 => wpAny_pure ⟨_, rfl, wpAny_pure (hQ h1 ?_ fun b o hb q => s1.extBut b o hb q)⟩))
 rw [rawI] at e1
 exact e1
theorem nxB_end {it T : Addr} {ps : List Nat} {oT : Obj} {nT : Nat} {Q : Option Value -> Shared -> Prop} (hh : A.handled = none) (hl : ps.length = es.size) (hit : s.heap.get? it = some (itO (.ref T) es.size (.ref a) es.size ep)) (hT : s.heap.get? T = some oT) (hTd : oT.data = .seq (ps.map fun (x : Nat) => rawInt x).toArray nT) (hTc : oT.cls = .type "tuple")
  (ho : s.heap.get? a = some o) (p : Parts prog w o es ep t ks) (hQ : ∀ h', (∀ b o, b ≠ it -> s.heap.get? b = some o -> h'.get? b = some o) -> Q none { s with heap := h' }) : wpAny (model prog w) A (pyNext (.ref it)) Q E s := by
 refine nx_open hit ho p ?_
 dsimp only
 refine wpAny_bind ?_
 unfold seqItems?
 dsimp only
 refine wpAny_bind (wpAny_load hT ?_)
 rw [hTd]
 refine wpAny_pure ?_
 dsimp only
 rw [show ((ps.map fun (x : Nat) => rawInt x).toArray)[es.size]? = none by simp [hl]]
 exact wpAny_bind (wpAny_setField_rec hit (by simp) fun h1 e1 s1 => wpAny_bind (wpAny_setField_rec (s := { s with heap := h1 }) e1 (by simp) fun h2 e2 s2 => stop_of (s := { s with heap := h2 }) hh fun h3 k3 => hQ h3 fun b o hb q => k3 b o (s2.extBut b o hb (s1.extBut b o hb q))))
end
end ST
namespace ST
open PySem PySem.Spec PyProof.Rows
theorem sl_self : Slot "set_iterator" "__iter__" "set_iterator.__iter__" :=
 .of (owner := "set_iterator") (n := "__iter__") (by rw [typeLookup_type, builtinLookup_eq_fast]; kernel_rfl) (by decide +kernel) (by decide +kernel) (by decide +kernel) (by first | exact .inl (by decide +kernel) | exact .inr (by decide +kernel)) (by rw [isSubtype_type]; kernel_rfl)
theorem en_self : entryFor table "set_iterator.__iter__" = some Builtin.«dict_keyiterator.__iter__» := entryFor_alias (id' := "dict_keyiterator.__iter__") (by kernel_rfl) (by decide +kernel) (by decide +kernel) (by kernel_rfl)
theorem ar_self (a : Value) : argsOk "set_iterator.__iter__" ⟨[a], []⟩ := by
 unfold argsOk
 rw [signature?_of (id := "set_iterator.__iter__") (n := ['_', '_', 'r', 'e', 't', 'i', '_', '_']) (o := ['r', 'o', 't', 'a', 'r', 'e', 't', 'i', '_', 't', 'e', 's']) (by kernel_rfl) ow_seti]
 kernel_rfl
section
variable {prog : Program} {w : World} {A : Around} {E : Value -> Shared -> Prop} {s : Shared} {o : Obj} {es : Array (Int × Value)} {ep : Nat} {t : SetTable} {ks : List Int} {a : Addr}
theorem self_of {it : Addr} {x : Value} {f : Value} {i n : Nat} {Q : Value -> Shared -> Prop} (st : s.heap.get? it = some (itO f i x n ep)) (hQ : Q (.ref it) s) : wpAny (model prog w) A (pyIter (.ref it)) Q E s := by
 have hT : s.TypeIs (.ref it) "set_iterator" := ⟨_, st, rfl⟩
 refine wpAny_pyIter_slot hT sl_self (wpAny_call_entry sl_self hT en_self ?_ (ar_self _))
 show wpAny _ _ (ret (.ref it)) _ _ s
 exact wpAny_pure ⟨_, rfl, "set_iterator", _, hT, sl_next.lookup, hQ⟩
theorem walkA (hh : A.handled = none) (hd : isDr w es t = false) (p : Parts prog w o es ep t ks) (it : Addr) (hia : a ≠ it) :
  Walks prog w A it [it, a] [it] es.size (fun i v => ((ord w a ep es).toList.map (·.2))[i]? = some v) (fun i h => h.get? it = some (itO (.int (slt w t i) 0) i (.ref a) es.size ep) /\ h.get? a = some o) where
 sub := fun b hb => by simp at hb; simp [hb]
 frame := fun i h h' st k => ⟨k it (by simp) _ st.1, k a (by simp) _ st.2⟩
 item := fun i s Q E hi st hQ => by
  have hz := (ord_perm (w := w) (a := a) (ep := ep) (es := es)).length_eq
  simp at hz
  have e1 : (ord w a ep es)[i]? = some (ord w a ep es)[i] := Array.getElem?_eq_getElem (by omega)
  refine nxA_item hd hia st.1 st.2 p e1 fun h' k1 k2 => hQ _ h' s.toks ?_ ⟨k1, k2 a o hia st.2⟩ fun b o hb e => k2 b o (by simpa using hb) e
  rw [List.getElem?_map, Array.getElem?_toList, e1]; rfl
 done := fun s Q E st hQ => nxA_end hh hd st.1 st.2 p fun h' k => hQ h' s.toks fun b o hb e => k b o (by simpa using hb) e
 self := fun i s Q E st hQ => self_of st.1 hQ
theorem walkB (hh : A.handled = none) (p : Parts prog w o es ep t ks) (it T : Addr) (ps : List Nat) (hp : ps.Perm (List.range es.size)) (hia : a ≠ it) (hiT : T ≠ it) :
  Walks prog w A it [it, a, T] [it] es.size (fun i v => (ps.filterMap fun j => es[j]?.map (·.2))[i]? = some v) (fun i h => h.get? it = some (itO (.ref T) i (.ref a) es.size ep) /\ h.get? a = some o /\ ∃ oT nT, h.get? T = some oT /\ oT.data = .seq (ps.map fun (x : Nat) => rawInt x).toArray nT /\ oT.cls = .type "tuple") where
 sub := fun b hb => by simp at hb; simp [hb]
 frame := fun i h h' st k => ⟨k it (by simp) _ st.1, k a (by simp) _ st.2.1, let ⟨oT, nT, e, r⟩ := st.2.2; ⟨oT, nT, k T (by simp) _ e, r⟩⟩
 item := fun i s Q E hi st hQ => by
  obtain ⟨st1, st2, oT, nT, e, r1, r2⟩ := st
  have hl : ps.length = es.size := by simpa using hp.length_eq
  have hm : ∀ j ∈ ps, ∃ x, es[j]? = some x := fun j hj => ⟨es[j]'(by simpa using hp.mem_iff.mp hj), Array.getElem?_eq_getElem _⟩
  have ej : ps[i]? = some ps[i] := List.getElem?_eq_getElem (by omega)
  obtain ⟨x, ex⟩ := hm _ (List.getElem_mem (show i < ps.length by omega))
  refine nxB_item hia hiT st1 e r1 r2 st2 p ej ex fun h' k1 k2 => hQ _ h' s.toks ?_ ⟨k1, k2 a o hia st2, oT, nT, k2 T _ hiT e, r1, r2⟩ fun b o hb e => k2 b o (by simpa using hb) e
  have gen : ∀ (l : List Nat) (k : Nat) (j : Nat) (x : Int × Value), (∀ j ∈ l, ∃ x, es[j]? = some x) -> l[k]? = some j -> es[j]? = some x -> (l.filterMap fun j => es[j]?.map (·.2))[k]? = some x.2 := by
   intro l
   induction l with
   | nil => intro k j x _ h; simp at h
   | cons y l ih =>
    intro k j x hm h1 h2
    obtain ⟨z, hz⟩ := hm y List.mem_cons_self
    rw [List.filterMap_cons, hz]
    cases k with
    | zero =>
     simp at h1
     subst h1
     rw [h2] at hz
     cases hz
     rfl
    | succ k => exact ih k j x (fun j hj => hm j (List.mem_cons_of_mem _ hj)) (by simpa using h1) h2
  exact gen ps i _ x hm ej ex
 done := fun s Q E st hQ => by
  obtain ⟨st1, st2, oT, nT, e, r1, r2⟩ := st
  have hl : ps.length = es.size := by simpa using hp.length_eq
  exact nxB_end hh hl st1 e r1 r2 st2 p fun h' k => hQ h' s.toks fun b o hb e => k b o (by simpa using hb) e
 self := fun i s Q E st hQ => self_of st.1 hQ
theorem draw_of {α : Type} : ∀ (n : Nat) (xs : List α) (s : Shared) (Q : List α -> Shared -> Prop), n = xs.length -> (∀ ys dr, ys.Perm xs -> Q ys { s with drawn := dr }) -> wpAny (model prog w) A (drawOrder n xs) Q E s
 | 0, xs, s, Q, hn, h => by
  have : xs = [] := List.length_eq_zero_iff.mp hn.symm
  subst this
  unfold drawOrder
  exact wpAny_pure (h [] s.drawn (List.Perm.refl _))
 | n + 1, [], s, Q, hn, h => by simp at hn
 | n + 1, x :: xs, s, Q, hn, h => by
  unfold drawOrder
  have h0 : ∀ i, i < (x :: xs).length -> wpAny (model prog w) A (match (x :: xs)[i]? with
   | some y => do
    let r <- drawOrder n ((x :: xs).eraseIdx i)
    pure (y :: r)
   | none => unsupported "internal:drawOrder") Q E { s with drawn := s.drawn.bump .order } := by
   intro i hi
   rw [List.getElem?_eq_getElem hi]
   refine wpAny_bind (draw_of n _ _ _ (by rw [List.length_eraseIdx_of_lt hi]; simp at hn ⊢; omega) fun ys dr hy => wpAny_pure (h _ dr ?_))
   exact (List.Perm.cons _ hy).trans (erase_perm _ _ hi)
  refine wpAny_bind (show wpAny (model prog w) A (choose .order (x :: xs).length) _ _ _ from fun Γ p hΓ => ⟨by simp, ?_⟩)
  rw [Sem.wp_pure]
  exact h0 _ (Nat.mod_lt _ (by simp))
theorem filt_perm (ps : List Nat) (hp : ps.Perm (List.range es.size)) : (ps.filterMap fun j => es[j]?.map (·.2)).Perm (es.toList.map (·.2)) := by
 refine (hp.filterMap _).trans (List.Perm.of_eq ?_)
 have := filterMap_getElem?_range es
 rw [<- this, List.map_filterMap]
theorem iter_set (hh : A.handled = none) (ho : s.heap.get? a = some o) (p : Parts prog w o es ep t ks) {Q : Value -> Shared -> Prop}
  (h : ∀ (I : Addr) (fp : List Addr) (St : Nat -> Heap -> Prop) (vs : List Value) (h' : Heap) dr, vs.Perm (es.toList.map (·.2)) -> Walks prog w A I fp [I] es.size (fun i v => vs[i]? = some v) St -> St 0 h' -> (∀ b o, s.heap.get? b = some o -> h'.get? b = some o) ->
   s.heap.objs.size <= I -> (∀ b ∈ fp, b = a \/ s.heap.objs.size <= b) -> Q (.ref I) { s with heap := h', drawn := dr }) : wpAny (model prog w) A (pyIter (.ref a)) Q E s := by
 have hT : s.TypeIs (.ref a) "set" := ⟨_, ho, p.ex.1⟩
 have hlt : a < s.heap.objs.size := Heap.lt_size ho
 refine wpAny_pyIter_slot hT PySem.F.slot_set_iter (wpAny_call_entry PySem.F.slot_set_iter hT en_iter ?_ (PySem.F.args_set_iter_1 _))
 unfold Builtin.«frozenset.__iter__»
 refine wpAny_bind (wpAny_pure ?_)
 unfold Builtin.Frozenset.sizeOf
 refine wpAny_bind (wpAny_bind (ent_of ho p (wpAny_pure ?_)))
 refine wpAny_bind (go_drawn ho p ?_)
 cases hd : isDr w es t with
 | true =>
  rw [if_pos rfl]
  refine wpAny_bind (draw_of _ _ _ _ (by simp) fun ps dr hp => ?_)
  refine wpAny_bind (wpAny_newTuple (items := ps.map fun (i : Nat) => rawInt i) ?_ (by
   have := hp.length_eq
   simp at this ⊢
   rw [this]
   exact fits_of_scanBound p.few))
  unfold newFields
  refine wpAny_bind (wpAny_setEpoch_of (Heap.get?_push_of_some _ ho) p.dat p.fit ?_)
  refine wpAny_bind (wpAny_newObj_type (wpAny_pure ⟨_, rfl, "set_iterator", _, ⟨_, Heap.get?_push_size _ rfl, rfl⟩, sl_next.lookup, ?_⟩))
  refine h _ _ _ (ps.filterMap fun j => es[j]?.map (·.2)) _ dr (filt_perm ps hp) (walkB hh p _ s.heap.objs.size ps hp (by rw [Heap.size_push]; exact Nat.ne_of_lt (Nat.lt_succ_of_lt hlt)) (by rw [Heap.size_push]; exact Nat.ne_of_lt (Nat.lt_succ_self _)))
   ⟨Heap.get?_push_size _ rfl, Heap.get?_push_of_some _ (Heap.get?_push_of_some _ ho), _, _, Heap.get?_push_of_some _ (Heap.get?_push_size _ rfl), rfl, rfl⟩ (fun b o e => Heap.get?_push_of_some _ (Heap.get?_push_of_some _ e)) (by rw [Heap.size_push]; exact Nat.le_succ _) fun b hb => ?_
  simp only [List.mem_cons, List.not_mem_nil, or_false] at hb
  rcases hb with rfl | rfl | rfl
  ·exact .inr (by rw [Heap.size_push]; exact Nat.le_succ _)
  ·exact .inl rfl
  ·exact .inr (Nat.le_refl _)
 | false =>
  rw [if_neg (by simp)]
  refine wpAny_bind (wpAny_pure ?_)
  unfold newFields
  refine wpAny_bind (wpAny_setEpoch_of ho p.dat p.fit ?_)
  refine wpAny_bind (wpAny_newObj_type (wpAny_pure ⟨_, rfl, "set_iterator", _, ⟨_, Heap.get?_push_size _ rfl, rfl⟩, sl_next.lookup, ?_⟩))
  refine h _ _ _ ((ord w a ep es).toList.map (·.2)) _ s.drawn (ord_perm.map _) (walkA hh hd p s.heap.objs.size (Nat.ne_of_lt hlt)) ⟨?_, Heap.get?_push_of_some _ ho⟩ (fun b o e => Heap.get?_push_of_some _ e) (Nat.le_refl _) fun b hb => ?_
  ·simp only [List.mem_cons, List.not_mem_nil, or_false] at hb
   rcases hb with rfl | rfl
   ·exact .inr (Nat.le_refl _)
   ·exact .inl rfl
  ·have e0 : slt w t 0 = 0 := by unfold slt; split <;> rfl
   rw [e0]
   exact Heap.get?_push_size _ rfl
end
end ST
namespace ST
open PySem PySem.Spec PyProof.Rows
section
variable {prog : Program} {w : World} {A : Around} {E : Value -> Shared -> Prop} {s : Shared} {o : Obj} {es : Array (Int × Value)} {ep : Nat} {t : SetTable} {ks : List Int} {a : Addr}
theorem hint_set {Q : Bool -> Shared -> Prop} (hT : s.TypeIs (.ref a) "set") (h : Q false s) : wpAny (model prog w) A (Builtin.List.listLengthHint (.ref a)) Q E s := by
 unfold Builtin.List.listLengthHint
 refine wpAny_bind (wpAny_specialOf hT PySem.F.slot_set_len.lookup ?_)
 generalize hid : ("set.__len__" : String) = id0
 wp_delta
 rw [show splitId id0 = some ("set", "__len__") from by subst hid; decide +kernel]
 subst hid
 refine wpAny_bind (wpAny_isInstance (T := "set") (b := true) hT (by rw [isSubtype_type]; kernel_rfl) (wpAny_ite_split (fun z => absurd z (by decide)) fun _ => wpAny_ite_split (fun _ => ?_) fun z => absurd (by decide +kernel) z))
 exact wpAny_bind (wpAny_typeOf hT (wpAny_pure h))
theorem collect_set (hh : A.handled = none) (ho : s.heap.get? a = some o) (p : Parts prog w o es ep t ks) {R : List Value -> Shared -> Prop}
  (h : ∀ (vs : List Value) h' dr tk, vs.Perm (es.toList.map (·.2)) -> s.heap.objs.size <= h'.objs.size -> (∀ b o, s.heap.get? b = some o -> h'.get? b = some o) -> R vs { s with heap := h', drawn := dr, toks := tk }) : wpAny (model prog w) A (collect (.ref a)) R E s := by
 have hn : es.size <= sizeLine := fits_of_scanBound p.few
 have hlt : a < s.heap.objs.size := Heap.lt_size ho
 unfold collect
 refine wpAny_bind (wpAny_runValue (codeAny_builtin PySem.F.entry_proto_collect ?_))
 rw [Around.under_plainId PySem.F.plain_proto_collect _]
 refine wpAny_bind (wpAny_newObj_type (wpAny_pure ⟨plainId_quiet PySem.F.plain_list_iadd _, codeAny_builtin PySem.F.entry_list_iadd ?_⟩))
 rw [Around.under_plainId PySem.F.plain_list_iadd _]
 show wpAny _ _ (Builtin.List.listExtendWith (.ref s.heap.objs.size) (.ref a) (.ref s.heap.objs.size)) _ _ _
 unfold Builtin.List.listExtendWith
 have ho1 : (s.heap.push { cls := .type "list", data := .seq ([] : List Value).toArray }).get? a = some o := Heap.get?_push_of_some _ ho
 have hT : Shared.TypeIs { s with heap := s.heap.push { cls := .type "list", data := .seq ([] : List Value).toArray } } (.ref a) "set" := ⟨_, ho1, p.ex.1⟩
 refine wpAny_bind (wpAny_typeOf hT ?_)
 have n1 : Builtin.List.listSameRef (.ref s.heap.objs.size) (.ref a) = false := by simp [Builtin.List.listSameRef, Nat.ne_of_gt hlt]
 simp only [n1, show (Value.type "set" == Value.type "list") = false by decide, show (Value.type "set" == Value.type "tuple") = false by decide, Bool.or_false, Bool.false_eq_true, if_false]
 refine wpAny_bind (iter_set (A := A.in1) hh ho1 p fun I fp St vs h1 dr hp W st k1 hI hfp => ?_)
 have hS1 : h1.get? s.heap.objs.size = some { cls := .type "list", data := .seq #[] } := k1 _ _ (Heap.get?_push_size _ rfl)
 have sz : (s.heap.push { cls := .type "list", data := .seq ([] : List Value).toArray }).objs.size = s.heap.objs.size + 1 := by rw [Heap.size_push]
 have hSf : s.heap.objs.size ∉ fp := fun z => by
  rcases hfp _ z with e | e
  ·exact absurd e (Nat.ne_of_gt hlt)
  ·rw [sz] at e; exact absurd e (Nat.not_succ_le_self _)
 have hIs : s.heap.objs.size < I := by rw [sz] at hI; exact hI
 refine wpAny_bind (wpAny_holding (hint_set (s := { s with heap := h1, drawn := dr }) ⟨_, k1 a o ho1, p.ex.1⟩ ?_))
 have key : ∀ (h2 : Heap) (c : Nat), St 0 h2 -> (∀ b o, b ≠ s.heap.objs.size -> h1.get? b = some o -> h2.get? b = some o) -> h2.get? s.heap.objs.size = some { cls := .type "list", data := .seq #[] c } ->
   codeAny (model prog w) A (.builtin "list.extend.loop" ⟨[.ref s.heap.objs.size, .ref I, .ref s.heap.objs.size], []⟩) (fun r s' => match r with
    | .ok (.ret v) => wpAny (model prog w) A (do
      let o <- load s.heap.objs.size
      match o.data with
      | .seq xs _ => pure xs.toList
      | _ => unsupported "internal:collect") R E s' /\ v = .ref s.heap.objs.size
    | _ => False) { s with heap := h2, drawn := dr } := fun h2 c st2 k2 hS2 => by
  refine codeAny_extend_loopS W.toS hn _ hSf _ es.size 0 _ #[] c rfl (Nat.zero_le _) st2 hS2 (ItemsOf.nil _) fun s' acc c' hm hS' hacc => ⟨wpAny_bind (wpAny_load hS' (wpAny_pure ?_)), rfl⟩
  have hv : acc.toList = vs := by
   apply List.ext_getElem?
   intro i
   by_cases hi : i < acc.size
   ·rw [Array.getElem?_toList]
    have e1 : acc[i]? = some acc[i] := Array.getElem?_eq_getElem hi
    rw [e1, hacc.2 i _ e1]
   ·have l1 := hacc.1
    have l2 := hp.length_eq
    rw [List.getElem?_eq_none (by simp; omega), List.getElem?_eq_none (by simp at l2; omega)]
  have e := Moved.eq_with hm
  rw [e]
  show R acc.toList _
  rw [hv]
  refine h vs s'.heap dr s'.toks hp (Nat.le_of_lt (Heap.lt_size hS')) fun b o e => ?_
  have bl := Heap.lt_size e
  refine hm.heap b o ?_ (k2 b o (Nat.ne_of_lt bl) (k1 b o (Heap.get?_push_of_some _ e)))
  simp only [List.mem_cons, List.not_mem_nil, or_false, not_or]
  exact ⟨Nat.ne_of_lt bl, Nat.ne_of_lt (Nat.lt_trans bl hIs)⟩
 refine wpAny_ite_split (fun _ => ?_) fun _ => wpAny_pure ⟨plainId_quiet PySem.F.plain_extend_loop _, codeAny_mono (key h1 0 st (fun b o _ e => e) hS1) fun r s' hr => ?_⟩
 ·refine wpAny_bind (wpAny_rule (wpAny_bind ?_))
  show wpAny _ _ (updateSeq s.heap.objs.size (·.push .none) >>= fun _ => updateSeq s.heap.objs.size (·.pop)) _ _ _
  have hS2 := Heap.get?_update_self (Obj.mapSeq (·.push Value.none)) hS1 rfl
  have hS3 := Heap.get?_update_self (Obj.mapSeq (·.pop)) hS2 rfl
  have oth : ∀ b o, b ≠ s.heap.objs.size -> h1.get? b = some o -> ((h1.update s.heap.objs.size (Obj.mapSeq (·.push Value.none))).update s.heap.objs.size (Obj.mapSeq (·.pop))).get? b = some o := fun b o hb e =>
   (Heap.get?_update_other _ _ (Ne.symm hb)).trans ((Heap.get?_update_other _ _ (Ne.symm hb)).trans e)
  refine wpAny_bind (wpAny_updateSeq hS1 rfl (wpAny_updateSeq (hz := by seq_fits) hS2 rfl (wpAny_pure ⟨plainId_quiet PySem.F.plain_extend_loop _, codeAny_mono (key _ _ (W.frame 0 _ _ st fun b hb o e => oth b o (fun z => hSf (by rw [<- z]; exact hb)) e) oth hS3) fun r s' hr => ?_⟩)))
  cases r with
  | error e => exact hr.elim
  | ok fl =>
   cases fl with
   | ret v => obtain ⟨q1, rfl⟩ := hr; exact q1
   | _ => exact hr.elim
 ·cases r with
  | error e => exact hr.elim
  | ok fl =>
   cases fl with
   | ret v => obtain ⟨q1, rfl⟩ := hr; exact q1
   | _ => exact hr.elim
theorem ints_map {vs : List Value} (h : ∀ v ∈ vs, ∃ tk, v = .int (valI v) tk) : IntsAre vs (vs.map valI) := by
 induction vs with
 | nil => exact .nil
 | cons v r ih =>
  obtain ⟨tk, e⟩ := h v List.mem_cons_self
  have q := ih fun u hu => h u (List.mem_cons_of_mem _ hu)
  rw [List.map_cons]
  generalize valI v = k at e
  subst e
  exact .cons _ _ q
theorem sorted_by {x : Value} {Q : Value -> Shared -> Prop} {n : Nat} (h64 : n < 64)
  (hc : ∀ R, (∀ (vs : List Value) (ns : List Int) h' dr tk, IntsAre vs ns -> vs.length = n -> ns.Perm ks -> s.heap.objs.size <= h'.objs.size -> (∀ b o, s.heap.get? b = some o -> h'.get? b = some o) -> R vs { s with heap := h', drawn := dr, toks := tk }) -> wpAny (model prog w) A.in1 (collect x) R E s)
  (h : ∀ (a : Addr) (vs : List Value) (ns : List Int) (c : Nat) h' dr tk, IntsAre vs ns -> ns.Perm ks -> ns.Pairwise (· <= ·) -> s.heap.objs.size <= a -> h'.get? a = some (seqObj "list" vs.toArray c) -> (∀ b o, s.heap.get? b = some o -> h'.get? b = some o) -> Q (.ref a) { s with heap := h', drawn := dr, toks := tk }) :
  wpAny (model prog w) A (call (.builtin "sorted") [x]) Q E s := by
 refine Calls.call_function_entry kind_sorted plain_sorted entry_sorted (args_sorted1 _) ?_
 unfold Builtin.«sorted»
 refine wpAny_bind (m := checkCount "sorted" 1 1 _) (wpAny_pure (wpAny_bind (hc _ fun vs ns h1 dr tk hi hl hp sle k1 => ?_)))
 refine wpAny_bind (wpAny_newList ?_ (by rw [hl, sizeLine_eq]; omega))
 have hoL : (h1.push (seqObj "list" vs.toArray 0)).get? h1.objs.size = some (seqObj "list" vs.toArray 0) := Heap.get?_push_size _ rfl
 refine wpAny_bind (wpAny_holding (wpAny_call_entry slot_list_sort ⟨_, hoL, rfl⟩ entry_list_sort (list_sort_tree hoL hi (by omega) fun out ns' a1 a2 a3 => ⟨_, rfl, ?_⟩) (args_list_sort _)))
 obtain ⟨c, ec⟩ := sortedHeap_at (out := out) hoL
 refine wpAny_pure ⟨_, rfl, h h1.objs.size out.toList ns' c _ dr tk a1 (a2.trans hp) a3 sle (by rw [Array.toArray_toList]; exact ec) fun b o e => ?_⟩
 have bl : b < h1.objs.size := Heap.lt_size (k1 b o e)
 rw [sortedHeap_old (Nat.ne_of_lt bl) (by rw [size_push']; exact Nat.lt_succ_of_lt bl)]
 exact Heap.get?_push_of_some _ (k1 b o e)
theorem sorted_set (hh : A.handled = none) (hs : SetI prog w s.heap a ks) (h64 : ks.length < 64) {Q : Value -> Shared -> Prop}
  (h : ∀ (b : Addr) (vs : List Value) (ns : List Int) (c : Nat) h' dr tk, IntsAre vs ns -> ns.Perm ks -> ns.Pairwise (· <= ·) -> s.heap.objs.size <= b -> h'.get? b = some (seqObj "list" vs.toArray c) -> (∀ b o, s.heap.get? b = some o -> h'.get? b = some o) -> Q (.ref b) { s with heap := h', drawn := dr, toks := tk }) :
  wpAny (model prog w) A (call (.builtin "sorted") [.ref a]) Q E s := by
 obtain ⟨o, es, ep, t, ho, p⟩ := hs
 have hl : es.size = ks.length := by have := p.ks.length_eq; simpa using this
 refine sorted_by (n := es.size) (by omega) (fun R hR => collect_set (A := A.in1) (by simp [hh]) ho p fun vs h' dr tk hp z k => hR vs (vs.map valI) h' dr tk (ints_map fun v hv => ?_) ?_ ?_ z k) h
 ·obtain ⟨e, he, rfl⟩ := List.mem_map.mp (hp.mem_iff.mp hv)
  exact el_int p.el he
 ·simpa using hp.length_eq
 ·refine (hp.map valI).trans ?_
  rw [List.map_map]
  exact p.ks
end
end ST
namespace L2
open PySem PySem.Spec PyProof.Rows ST
section
variable {X : Cx}
theorem Inv.drw {pins : List (Addr × Obj)} {σ : St} {H : Hp} {s : Shared} {d : Drawn} (I : Inv X pins σ H s) : Inv X pins σ H { s with drawn := d } :=
 ⟨I.ok, I.os, I.bare, I.base, I.loc, I.cell, I.free, I.freeC, I.pin, I.hok, I.len⟩
theorem splice1 {e : Expr} {pos : Pos} {P : List Value -> Shared -> Prop} {E : Value -> Shared -> Prop} {s : Shared} (hs : starEach [e] X.env = [(false, eval e X.env)]) (h : wpAny (model X.prog X.w) X.A (eval e X.env) (fun v s1 => P [v] s1) E s) :
  wpAny (model X.prog X.w) X.A (spliced (backTo pos (starEach [e] X.env))) P E s := by
 rw [hs]
 show wpAny _ _ (spliced ((false, eval e X.env) :: backTo pos [])) _ _ s
 exact Calls.spliced_cons (thn h fun u s1 q => wpAny_pure q)
theorem ints_of {ns : List Int} : ∀ {its : List Value}, Vals (ns.map V.int) its -> IntsAre its ns := by
 induction ns with
 | nil => intro its h; cases h; exact .nil
 | cons k r ih =>
  intro its h
  cases h with
  | cons q t =>
   obtain ⟨tk, rfl⟩ := q
   exact .cons _ _ (ih t)
theorem vals_of : ∀ {its : List Value} {ns : List Int}, IntsAre its ns -> Vals (ns.map V.int) its
 | _, _, .nil => .nil
 | _, _, .cons n t h => .cons ⟨t, rfl⟩ (vals_of h)
theorem lst_new {H : Hp} {h' : Heap} {b : Addr} {vs : List Value} {ns : List Int} {c : Nat} (hi : IntsAre vs ns) (hz : ns.length <= sizeLine) (hb : h'.get? b = some (seqObj "list" vs.toArray c)) :
  ObjOk X.prog X.w H h' b (.lst (ns.map V.int)) := ⟨by rw [List.length_map]; exact hz, vs, c, vals_of hi, hb⟩
def srt (ns : List Int) : List Int := ns.mergeSort fun a b => decide (a <= b)
theorem srt_perm (ns : List Int) : (srt ns).Perm ns := List.mergeSort_perm _ _
theorem srt_le (ns : List Int) : (srt ns).Pairwise (· <= ·) := by
 have h := List.pairwise_mergeSort (le := fun a b : Int => decide (a <= b)) (fun a b c h1 h2 => by simp at *; omega) (fun a b => by simp; omega) ns
 exact h.imp fun h => by simpa using h
theorem srt_only {a ns : List Int} (p : a.Perm ns) (o : a.Pairwise (· <= ·)) : a = srt ns := (p.trans (srt_perm ns).symm).eq_of_pairwise (fun a b _ _ h1 h2 => Int.le_antisymm h1 h2) o (srt_le ns)
theorem dd_len (ns : List Int) : (dd ns).length <= ns.length := by
 rw [<- met_dd]
 exact firstMet_length_le _ _
def tSS (K : PySem.W.Frag) (t : TA) : TE := fun σ H Q => t σ H fun vs H1 => ∃ a ns, vs = [.ref a] /\ SqL K H1 a (ns.map V.int) /\ ns.length <= 62 /\ ∀ b, H1 b = none -> Q (.ref b) (upd H1 b (.lst ((srt (dd ns)).map V.int)))
theorem pe_sset {e : Expr} {t : TA} {p p2 pos pos2 : Pos} (hc : X.calm = true) (hg : Gl X "sorted") (hm : X.mg "sorted" = none) (hg2 : Gl X "set") (hm2 : X.mg "set" = none) (ha : PA X [e] t) (hs : starEach [e] X.env = [(false, eval e X.env)]) :
  PE X (.Call (.Name "sorted" p) [.Call (.Name "set" p2) [e] [] pos2] [] pos) (tSS X.K t) := by
 intro pins s σ H Q I h
 refine wpAny_Call_Name_kw (ld_blt (u := .builtin "sorted") I hg hm (by decide +kernel) ?_ (by decide) (by decide))
 refine PyProof.Rows.callWith_builtin1 (splice1 (by rfl) ?_) rfl rfl
 refine wpAny_Call_Name_kw (ld_blt (u := .type "set") I hg2 hm2 (by decide +kernel) ?_ (by decide) (by decide))
 refine PyProof.Rows.callWith_type1 (thn (ha pos2 pins s σ H _ I h) fun us s1 ⟨vs, H1, I1, r1, a, ns, e1, sq, hn, q⟩ => ?_) hs rfl
 subst e1
 obtain ⟨u, rfl, ru⟩ := vals1 r1
 cases ru
 obtain ⟨its, rv, pl, hz⟩ := I1.list sq
 have hl := rv.length
 rw [List.length_map] at hl
 have sb : scanBound = 4096 := rfl
 refine call_set_ints (I.ok.hd hc) pl.isList (by simpa using ints_of rv) (by simp; omega) fun h2 tk2 si k2 => ?_
 refine sorted_set (I.ok.hd hc) si (by have := dd_len ns; omega) fun b vs' ns' c h3 dr tk3 hi hp ho sz hb k3 => ?_
 have e2 := srt_only hp ho
 subst e2
 have hz3 : (srt (dd ns)).length <= sizeLine := by
  have := dd_len ns
  have e3 := (srt_perm (dd ns)).length_eq
  rw [sizeLine_eq]; omega
 have hb1 : s1.heap.objs.size <= b := Nat.le_trans (Nat.le_of_lt (by
  obtain ⟨o, _, _, _, e, _⟩ := si
  exact Heap.lt_size e)) sz
 have I3 : Inv X pins σ (upd H1 b (.lst ((srt (dd ns)).map V.int))) { s1 with heap := h3, drawn := dr, toks := tk3 } :=
  Inv.drw (d := dr) (I1.laid (t' := tk3) (fun x u e => k3 x u (k2 x u e)) hb1 (lst_new hi hz3 hb))
 exact ⟨.ref b, _, I3, rfl, q b (I1.hok.fresh hb1)⟩
end
end L2
namespace ST
open PySem PySem.Spec PyProof.Rows
section
variable {prog : Program} {w : World} {A : Around} {E : Value -> Shared -> Prop} {s : Shared}
end
section
variable {prog : Program} {w : World} {A : Around} {E : Value -> Shared -> Prop} {s : Shared}
end
end ST
namespace L2
open PySem PySem.Spec PyProof.Rows ST
section
variable {X : Cx}
end
end L2
namespace PySem
open PySem.Spec PyProof.Rows
section
variable {prog : Program} {w : World} {A : Around} {E : Value -> Shared -> Prop} {s : Shared}
end
end PySem
namespace PySem
open PySem.Spec PyProof.Rows
section
variable {prog : Program} {w : World} {A : Around} {E : Value -> Shared -> Prop} {s : Shared} {R : Result -> Shared -> Prop} {b c : Bool} {z TI TO i1 i2 l1 l2 S lo : Addr} {xs ys : Array Value} {as bs : List Addr} {cnt : Nat}
end
end PySem
namespace PySem
open PySem.Spec PyProof.Rows
section
variable {prog : Program} {w : World} {A : Around} {E : Value -> Shared -> Prop} {s : Shared} {R : Result -> Shared -> Prop} {b c : Bool} {z TI TO i1 i2 l1 l2 S lo : Addr} {xs ys : Array Value}
end
end PySem
namespace L2
open PySem PySem.Spec PyProof.Rows ST
section
variable {X : Cx} {pins : List (Addr × Obj)} {σ : St} {H : Hp} {s : Shared} {h' : Heap} {news : List (Addr × HO)}
end
end L2
namespace DL
open PySem PySem.Spec PyProof.Rows L2 ST
def intsD : List PyData -> Option (List Int)
 | [] => some []
 | .int i :: r => (intsD r).map (i :: ·)
 | _ => none
section
variable {K : PySem.W.Frag} {A μ : List Addr} {H H' : Hp} {h : Cells}
theorem ints_reps : ∀ {xs : List PyData} {ns : List Int} {vs : List V}, intsD xs = some ns -> Reps K A H xs vs -> vs = ns.map V.int
 | [], ns, vs, e, r => by cases e; rw [Reps] at r; exact r
 | x :: xs, ns, vs, e, r => by
  unfold intsD at e
  split at e
  ·rename_i q; cases q
  ·rename_i i r0 q
   cases q
   obtain ⟨ms, e2, rfl⟩ := Option.map_eq_some_iff.mp e
   rw [Reps] at r
   obtain ⟨v, r', rfl, r1, r2⟩ := r
   rw [Rep] at r1
   subst r1
   rw [ints_reps e2 r2]
   rfl
  ·cases e
theorem reps_ints : ∀ ns : List Int, Reps K A H (ns.map .int) (ns.map V.int)
 | [] => .nil
 | n :: r => .cons (by rw [Rep]) (reps_ints r)
theorem rep_list {p : Addr} {xs : List PyData} {vs : List V} (R : HeapRep K A μ h H) (hp : H p = none) (r : Reps K A H xs vs) : Rep K A (upd H p (.lst vs)) (.list xs) (.ref p) := by
 rw [Rep]
 exact ⟨p, vs, rfl, .inl ⟨R.notA hp, .inl upd_same⟩, r.ext (ext_fresh (μ := μ) hp) R.sub⟩
end
section
variable {X : Cx}
def dSSet (t : DTA) : DTE := fun δ h Q => t δ h fun ws h1 => ∃ w xs ns, ws = [w] /\ ref h1 w = some (.list xs) /\ intsD xs = some ns /\ ns.length <= 62 /\ Q (.d (.list ((srt (dd ns)).map .int))) h1
theorem de_sset {e : Expr} {t : DTA} {p p2 pos pos2 : Pos} (hc : X.calm = true) (hg : Gl X "sorted") (hm : X.mg "sorted" = none) (hg2 : Gl X "set") (hm2 : X.mg "set" = none) (ha : DA X [e] t) (hs : starEach [e] X.env = [(false, eval e X.env)]) :
  DE X (.Call (.Name "sorted" p) [.Call (.Name "set" p2) [e] [] pos2] [] pos) (dSSet t) := pe_mono (pe_sset hc hg hm hg2 hm2 ha hs) fun σ H Q q => by
 obtain ⟨δ, h, A, μ, k, R, q, c⟩ := q
 refine ⟨δ, h, A, μ, _, R, q, fun ws h1 vs H1 A1 μ1 q1 x1 R1 r1 => ?_⟩
 obtain ⟨w, xs, ns, rfl, er, en, hl, q1⟩ := q1
 obtain ⟨v, rfl, rv⟩ := repWs1 r1
 obtain ⟨a, vs, rfl, sq, rs⟩ := ref_list R1 rv er
 have ev := ints_reps en rs
 subst ev
 exact ⟨a, ns, rfl, sq, hl, fun b hb => c _ h1 _ _ A1 μ1 q1 (x1.trans (ext_fresh hb)) (R1.fresh hb) (rep_list R1 hb (reps_ints _))⟩
end
end DL
namespace PySem
open PySem.Spec PyProof.Rows
theorem SqAt.ob {b : Bool} {h : Heap} {l : Addr} {xs : Array Value} (x : SqAt b h l xs) : ∃ o, h.get? l = some o := by cases b <;> exact ⟨_, x.choose_spec.1⟩
theorem ItAt.ob {b : Bool} {h : Heap} {it l : Addr} {i : Nat} (x : ItAt b h it l i) : ∃ o, h.get? it = some o := by cases b <;> exact ⟨_, x.choose_spec.1⟩
theorem enum_new (b : Bool) (l : Addr) (xs : Array Value) : Meets (Builtin.«enumerate.__new__» ⟨[.type "enumerate", .ref l], []⟩) fun _ R s => SqAt b s.heap l xs /\
  R (.ok (.ret (.ref (s.heap.push (sqIt b l)).objs.size))) { s with heap := (s.heap.push (sqIt b l)).push { cls := .type "enumerate", data := .fields #[.none, .bool false, .ref s.heap.objs.size, rawInt 0, .none, .none] } } := by
 refine Meets.of_wp fun prog w A R s h => ?_
 obtain ⟨h1, h⟩ := h
 obtain ⟨o, ho⟩ := h1.ob
 obtain ⟨hp, g, d, tk, os⟩ := s
 have hsub := sub_enumerate
 wp_walk using AutoSeq1.wpAny_loadPart' ho
 refine wpAny_stack_any fun st => wpAny_pure ?_
 split
 ·rename_i c _ _ _ _ _
  cases (c == Value.type "enumerate")
  ·wp_walk using AutoSeq1.wpAny_loadPart' ho, pyIter_sq h1
   exact ⟨_, rfl, h⟩
  ·wp_walk using AutoSeq1.wpAny_loadPart' ho, pyIter_sq h1
   exact ⟨_, rfl, h⟩
 ·wp_walk using AutoSeq1.wpAny_loadPart' ho, pyIter_sq h1
  exact ⟨_, rfl, h⟩
section
variable {prog : Program} {w : World} {A : Around} {E : Value -> Shared -> Prop} {s : Shared}
theorem en_item {b : Bool} {e it l : Addr} {i : Nat} {items : Array Value} {x old : Value} {Q : Option Value -> Shared -> Prop}
  (he : IsEnum s.heap e it i old) (hit : ItAt b s.heap it l i) (hl : SqAt b s.heap l items) (hx : items[i]? = some x) (hne : e ≠ it)
  (hQ : ∀ h', IsEnumOut h' e it ((i : Int) + 1) x s.heap.objs.size -> ItAt b h' it l (i + 1) -> h'.get? s.heap.objs.size = some { cls := .type "tuple", data := .seq #[.int i s.toks, x] } -> h'.objs.size = s.heap.objs.size + 1 ->
   (∀ c o, c ≠ e -> c ≠ it -> s.heap.get? c = some o -> h'.get? c = some o) -> Q (some (.ref s.heap.objs.size)) { s with heap := h', toks := s.toks + 1 }) : wpAny (model prog w) A (pyNext (.ref e)) Q E s := by
 have hT : s.TypeIs (.ref e) "enumerate" := ⟨_, he, rfl⟩
 have ne' : ∀ {h1 h2 : Heap}, Heap.SameBut e h1 h2 -> ∀ o, h1.get? it = some o -> h2.get? it = some o := fun sb o q => (sb.2 _ hne.symm).trans q
 unfold pyNext
 refine wpAny_bind (wpAny_attempt (wpAny_callSpecial?_slot (name := Str.ofString "__next__") hT F.slot_enumerate_next (wpAny_call_entry F.slot_enumerate_next hT F.entry_enumerate_next ?_ (F.args_enumerate_next_1 _))))
 unfold Builtin.«enumerate.__next__»
 refine wpAny_bind (wpAny_pure (a := (Value.ref e, [])) (wpAny_bind (wpAny_field he rfl (x := .ref it) rfl (wpAny_bind (nextOf_item hit hl hx fun H1 it1 e1 => ?_)))))
 have he1 : IsEnum H1 e it i old := (e1.2 _ hne).trans he
 refine wpAny_bind (wpAny_field he1 rfl (x := rawInt i) rfl ?_)
 dsimp only [rawInt]
 refine wpAny_bind (wpAny_field he1 rfl (x := .none) rfl ?_)
 rw [if_pos (by rfl)]
 refine wpAny_bind (wpAny_mkInt ?_)
 refine wpAny_bind (wpAny_setField_rec he1 (by simp) fun H2 he2 s2 => wpAny_bind (wpAny_setField_rec (s := { s with heap := H2, toks := s.toks + 1 }) he2 (by simp) fun H3 he3 s3 => ?_))
 have he3' : IsEnum H3 e it ((i : Int) + 1) old := he3
 have z3 : H3.objs.size = s.heap.objs.size := by
  have q2 : H2.objs.size = H1.objs.size := s2.1
  have q3 : H3.objs.size = H2.objs.size := s3.1
  rw [q3, q2]; exact e1.1
 refine wpAny_bind (wpAny_newTuple (items := [.int i s.toks, x]) ?_)
 have he4 : IsEnum (H3.push { cls := .type "tuple", data := .seq #[.int i s.toks, x] }) e it ((i : Int) + 1) old := Heap.get?_push_of_some _ he3'
 have g4 : (H3.push { cls := .type "tuple", data := .seq #[.int i s.toks, x] }).get? s.heap.objs.size = some { cls := .type "tuple", data := .seq #[.int i s.toks, x] } := by rw [<- z3]; exact Heap.get?_push_size _ rfl
 have z4 : (H3.push { cls := .type "tuple", data := .seq #[.int i s.toks, x] }).objs.size = s.heap.objs.size + 1 := by rw [Heap.size_push, z3]
 have k4 : ∀ c o, c ≠ e -> c ≠ it -> s.heap.get? c = some o -> (H3.push { cls := .type "tuple", data := .seq #[.int i s.toks, x] }).get? c = some o := fun c o n1 n2 q => Heap.get?_push_of_some _ ((s3.2 _ n1).trans ((s2.2 _ n1).trans ((e1.2 _ n2).trans q)))
 have it4 : ItAt b (H3.push { cls := .type "tuple", data := .seq #[.int i s.toks, x] }) it l (i + 1) := it1.keep fun o q => Heap.get?_push_of_some _ (ne' s3 o (ne' s2 o q))
 refine wpAny_bind ?_
 unfold Builtin.SmallTypes.ownedTupleIsFree
 refine wpAny_bind (wpAny_field he4 rfl (x := .none) rfl (wpAny_pure ?_))
 rw [if_pos rfl]
 have el : s.heap.objs.size ≠ e := Nat.ne_of_gt (Heap.lt_size he)
 refine wpAny_bind (wpAny_rule (wpAny_bind (wpAny_field he4 rfl (x := old) rfl (wpAny_bind (wpAny_setField_rec (s := { s with heap := H3.push { cls := .type "tuple", data := .seq #[.int i s.toks, x] }, toks := s.toks + 1 }) he4 (by simp) fun H5 he5 s5 => wpAny_bind ?_)))))
 unfold Builtin.SmallTypes.ownedTupleHandOut
 rw [z3]
 refine wpAny_bind (wpAny_setField_rec (s := { s with heap := H5, toks := s.toks + 1 }) he5 (by simp) fun H6 he6 s6 => wpAny_setField_rec (s := { s with heap := H6, toks := s.toks + 1 }) he6 (by simp) fun H7 he7 s7 => wpAny_bind (wpAny_letGo (wpAny_pure ⟨_, rfl, wpAny_pure (hQ H7 he7 ?_ ?_ ?_ fun c o n1 n2 q => ?_)⟩)))
 ·exact it4.keep fun o q => ne' s7 o (ne' s6 o (ne' s5 o q))
 ·exact (s7.2 _ el).trans ((s6.2 _ el).trans ((s5.2 _ el).trans g4))
 ·have q5 : H5.objs.size = _ := s5.1
  have q6 : H6.objs.size = H5.objs.size := s6.1
  have q7 : H7.objs.size = H6.objs.size := s7.1
  rw [q7, q6, q5]; exact z4
 ·exact (s7.2 _ n1).trans ((s6.2 _ n1).trans ((s5.2 _ n1).trans (k4 c o n1 n2 q)))
theorem en_end {b : Bool} {e it l : Addr} {i : Nat} {items : Array Value} {old : Value} {Q : Option Value -> Shared -> Prop} (hh : A.handled = none) (he : IsEnum s.heap e it i old) (hit : ItAt b s.heap it l i) (hl : SqAt b s.heap l items) (hx : items[i]? = none)
  (hQ : ∀ h', (∀ c o, c ≠ it -> s.heap.get? c = some o -> h'.get? c = some o) -> Q none { s with heap := h' }) : wpAny (model prog w) A (pyNext (.ref e)) Q E s := by
 have hT : s.TypeIs (.ref e) "enumerate" := ⟨_, he, rfl⟩
 unfold pyNext
 refine wpAny_bind (wpAny_attempt (wpAny_callSpecial?_slot (name := Str.ofString "__next__") hT F.slot_enumerate_next (wpAny_call_entry F.slot_enumerate_next hT F.entry_enumerate_next ?_ (F.args_enumerate_next_1 _))))
 unfold Builtin.«enumerate.__next__»
 refine wpAny_bind (wpAny_pure (a := (Value.ref e, [])) (wpAny_bind (wpAny_field he rfl (x := .ref it) rfl (wpAny_bind (nextOf_end (A := A.in1) hh hit hl hx fun H1 x k1 ⟨o, ho, hc⟩ => ?_)))))
 exact wpAny_bind (wpAny_isInstance ⟨o, ho, hc⟩ isSubtype_stop (wpAny_pure (hQ H1 k1)))
end
end PySem
namespace L2
open PySem PySem.Spec PyProof.Rows ST
def Ite (K : PySem.W.Frag) (b : Bool) (l : Addr) : It :=
 ⟨fun i H => ∃ xs x, SqB K b H l xs /\ xs[i]? = some x,
  fun i H v H' => ∃ p x, v = .ref p /\ H p = none /\ H' = upd H p (.tup [.int i, x]) /\ ∀ xs, SqB K b H l xs -> xs[i]? = some x,
  fun i H => ∃ xs, SqB K b H l xs /\ xs.length <= i⟩
def ESt (b : Bool) (e it l : Addr) (i : Nat) (h : Heap) : Prop := (∃ old, IsEnum h e it i old) /\ ItAt b h it l i
theorem turn_enum {P : Program} {w : World} {K : PySem.W.Frag} {elts : List Expr} {n : Nat} {pos : Pos} (b : Bool) (e it l : Addr) (hne : e ≠ it) : Turn P w K (.Tuple elts n pos) (Ite K b l) [e, it] e (ESt b e it l) where
 mem := by simp
 obj := fun i h st a ha => by
  obtain ⟨⟨old, s1⟩, s2⟩ := st
  simp only [List.mem_cons, List.not_mem_nil, or_false] at ha
  rcases ha with rfl | rfl
  ·exact ⟨_, s1, fun v z => by cases z⟩
  ·cases b <;> · obtain ⟨o, e, _, d⟩ := s2; exact ⟨o, e, fun v z => by rw [d] at z; cases z⟩
 keep := fun i h h' st k => by
  obtain ⟨⟨old, s1⟩, s2⟩ := st
  exact ⟨⟨old, k e (by simp) _ s1⟩, s2.keep fun o q => k it (by simp) o q⟩
 item := by
  intro X hP hw hK hc i pins s σ H E I hf st hg
  subst hP hw hK
  obtain ⟨xs, x, hq, hx⟩ := hg
  obtain ⟨⟨old, s1⟩, s2⟩ := st
  obtain ⟨its, rv, p1, hz⟩ := I.sqB hq
  obtain ⟨u, hu, ru⟩ := rv.get hx
  refine en_item s1 s2 p1 (x := u) (by simpa using hu) hne fun h' a1 a2 a3 a4 a5 => ⟨_, rfl, wpAny_letOwnedTupleGo_enum (s := { s with heap := h', toks := s.toks + 1 }) a1 fun h'' b1 b2 => ?_⟩
  have nz : ∀ {a o}, s.heap.get? a = some o -> a ≠ s.heap.objs.size := fun q => Nat.ne_of_lt (Heap.lt_size q)
  have I1 : Inv X pins σ (upd H s.heap.objs.size (.tup [.int i, x])) { s with heap := s.heap.push { cls := .type "tuple", data := .seq #[.int i s.toks, u] }, toks := s.toks + 1 } :=
   I.laid (t' := s.toks + 1) (fun b o q => Heap.get?_push_of_some _ q) (Nat.le_refl _) (show ObjOk X.prog X.w _ _ _ (.tup [.int i, x]) from ⟨by simp [sizeLine_eq], [.int i s.toks, u], .cons ⟨_, rfl⟩ (.cons ru .nil), IsTupD.new _ _⟩)
  have ob : ∀ a ∈ [e, it], ∃ o, s.heap.get? a = some o := fun a ha => by
   simp only [List.mem_cons, List.not_mem_nil, or_false] at ha
   rcases ha with rfl | rfl
   ·exact ⟨_, s1⟩
   ·exact s2.ob
  have un : ∀ a ∈ [e, it], upd H s.heap.objs.size (.tup [.int i, x]) a = none := fun a ha => by
   obtain ⟨o, q⟩ := ob a ha
   rw [upd_ne (nz q)]
   exact (hf a ha).1
  have hf1 : ∀ a ∈ [e, it], FpOk X pins (upd H s.heap.objs.size (.tup [.int i, x])) a := fun a ha => ⟨un a ha, (hf a ha).2⟩
  have I2 : Inv X pins σ (upd H s.heap.objs.size (.tup [.int i, x])) { s with heap := h'', toks := s.toks + 1 } := Inv.turnedL (s := { s with heap := s.heap.push { cls := .type "tuple", data := .seq #[.int i s.toks, u] }, toks := s.toks + 1 }) I1 (t' := s.toks + 1) (ch := [e, it]) (fun a o ha q => by
   simp only [List.mem_cons, List.not_mem_nil, or_false, not_or] at ha
   refine (b2.2 a ha.1).trans ?_
   by_cases hs : a = s.heap.objs.size
   ·subst hs
    have q' : (s.heap.push { cls := .type "tuple", data := .seq #[.int i s.toks, u] }).get? s.heap.objs.size = some o := q
    rw [Heap.get?_push_size _ rfl] at q'
    cases q'
    exact a3
   ·have q' : (s.heap.push { cls := .type "tuple", data := .seq #[.int i s.toks, u] }).get? a = some o := q
    rw [Heap.get?_push_ne _ _ _ hs] at q'
    exact a5 a o ha.1 ha.2 q') hf1
  refine ⟨.ref s.heap.objs.size, _, I2, rfl, ⟨_, x, rfl, I.hok.fresh (Nat.le_refl _), rfl, fun zs hz => ?_⟩, ⟨⟨u, ?_⟩, ?_⟩, un⟩
  ·rw [I.sqB_inj hz hq]; exact hx
  ·have : ((i + 1 : Nat) : Int) = (i : Int) + 1 := by omega
   unfold IsEnum
   rw [this]
   exact b1
  ·exact a2.keep fun o q => (b2.2 _ hne.symm).trans q
 done := by
  intro X hP hw hK hc i pins s σ H E I hf st hg
  subst hP hw hK
  obtain ⟨xs, hq, hl⟩ := hg
  obtain ⟨⟨old, s1⟩, s2⟩ := st
  obtain ⟨its, rv, p1, hz⟩ := I.sqB hq
  have l1 := rv.length
  refine en_end (I.ok.hd hc) s1 s2 p1 (by simp; omega) fun h' kk => ⟨rfl, ?_⟩
  exact I.turnedL (t' := s.toks) (ch := [e, it]) (fun a o ha q => by
   simp only [List.mem_cons, List.not_mem_nil, or_false, not_or] at ha
   exact kk a o ha.2 q) hf
 self := fun _ _ s _ _ st h => by
  obtain ⟨⟨old, s1⟩, s2⟩ := st
  have hT : s.TypeIs (.ref e) "enumerate" := ⟨_, s1, rfl⟩
  refine wpAny_pyIter_slot hT PySem.F.slot_enumerate_iter (wpAny_call_entry PySem.F.slot_enumerate_iter hT PySem.F.entry_enumerate_iter ?_ (PySem.F.args_enumerate_iter_1 _))
  show wpAny _ _ (ret (.ref e)) _ _ s
  exact wpAny_pure ⟨_, rfl, "enumerate", _, hT, PySem.F.slot_enumerate_next.lookup, h⟩
section
variable {X : Cx} {elts : List Expr} {n : Nat} {tpos : Pos}
def iEnum (K : PySem.W.Frag) (t : TA) : TI := fun σ H R => t σ H fun vs H1 => ∃ p b xs, vs = [.ref p] /\ SqB K b H1 p xs /\ (xs.length <= sizeLine -> R (Ite K b p) H1)
theorem pi_enum {a : Expr} {ta : TA} {p pos : Pos} (hg : Gl X "enumerate") (hm : X.mg "enumerate" = none) (ha : PA X [a] ta) (hs : starEach [a] X.env = [(false, eval a X.env)]) :
  PI X (.Tuple elts n tpos) (.Call (.Name "enumerate" p) [a] [] pos) (iEnum X.K ta) := by
 intro pins s σ H R I h
 refine Call_ (ld_blt (u := .type "enumerate") I hg hm (by decide +kernel) (PyProof.Rows.callWith_type1 (thn (ha pos pins s σ H _ I h) fun us s1 ⟨vs, H1, I1, r1, q1⟩ => ?_) hs rfl))
 obtain ⟨l, b, xs, e, hq, q⟩ := q1
 subst e
 obtain ⟨u, rfl, ru⟩ := vals1 r1
 cases ru
 obtain ⟨its, rv, p1, hz⟩ := I1.sqB hq
 refine callType_new PySem.F.called_enumerate (by decide) (PySem.F.typeCall_enumerate_1 _) (PySem.F.newCall_enumerate_1 _) (fun obj => PySem.F.args_object_init_2 obj _) PySem.F.entry_enumerate_new (enum_new b l its.toArray) ⟨p1, ⟨_, Heap.get?_push_size _ rfl, rfl⟩, ?_⟩
 have z1 : (s1.heap.push (sqIt b l)).objs.size = s1.heap.objs.size + 1 := by rw [Heap.size_push]
 have ge : ((s1.heap.push (sqIt b l)).push { cls := .type "enumerate", data := .fields #[.none, .bool false, .ref s1.heap.objs.size, rawInt 0, .none, .none] }).get? (s1.heap.push (sqIt b l)).objs.size = some { cls := .type "enumerate", data := .fields #[.none, .bool false, .ref s1.heap.objs.size, rawInt 0, .none, .none] } := Heap.get?_push_size _ rfl
 have gi : ((s1.heap.push (sqIt b l)).push { cls := .type "enumerate", data := .fields #[.none, .bool false, .ref s1.heap.objs.size, rawInt 0, .none, .none] }).get? s1.heap.objs.size = some (sqIt b l) := Heap.get?_push_of_some _ (Heap.get?_push_size _ rfl)
 have I2 : Inv X pins σ H1 { s1 with heap := (s1.heap.push (sqIt b l)).push { cls := .type "enumerate", data := .fields #[.none, .bool false, .ref s1.heap.objs.size, rawInt 0, .none, .none] } } := I1.kept (t' := s1.toks) fun c o e => Heap.get?_push_of_some _ (Heap.get?_push_of_some _ e)
 have hne : (s1.heap.push (sqIt b l)).objs.size ≠ s1.heap.objs.size := by rw [z1]; exact Nat.succ_ne_self _
 refine wpAny_pyIter_enum (s := { s1 with heap := _ }) ge ⟨_, _, _, _, H1, rfl, I2, turn_enum b _ s1.heap.objs.size l hne, ⟨⟨.none, ge⟩, ItAt.new gi⟩, fun x hx => ?_, q hz⟩
 have hx' : s1.heap.objs.size <= x := by
  simp only [List.mem_cons, List.not_mem_nil, or_false] at hx
  rcases hx with rfl | rfl
  ·rw [z1]; exact Nat.le_succ _
  ·exact Nat.le_refl _
 obtain ⟨f0, f1, f2, f3, f4, f5⟩ := I1.fpOk (H' := H1) hx' (I1.hok.fresh hx')
 exact ⟨f0, f1, f2, f3, f4, f5⟩
end
end L2
namespace DL
open PySem PySem.Spec PyProof.Rows L2 ST
section
variable {X : Cx} {elts : List Expr} {n : Nat} {tpos : Pos}
def enumF (k : Nat) : List PyData -> List PyData
 | [] => []
 | x :: r => .tuple [.int k, x] :: enumF (k + 1) r
def enumD (xs : List PyData) : List PyData := enumF 0 xs
theorem enumF_get : ∀ {xs : List PyData} {k i : Nat} {z : PyData}, (enumF k xs)[i]? = some z -> ∃ x, xs[i]? = some x /\ z = .tuple [.int (k + i : Nat), x]
 | [], k, i, z, e => by simp [enumF] at e
 | x :: r, k, 0, z, e => by simp [enumF] at e; exact ⟨x, rfl, by rw [<- e]; rfl⟩
 | x :: r, k, i + 1, z, e => by
  rw [enumF] at e
  obtain ⟨y, e1, e2⟩ := enumF_get (xs := r) (k := k + 1) (i := i) (by simpa using e)
  exact ⟨y, by simpa using e1, by rw [e2, show k + 1 + i = k + (i + 1) by omega]⟩
theorem enumF_len : ∀ (xs : List PyData) (k : Nat), (enumF k xs).length = xs.length
 | [], _ => rfl
 | x :: r, k => by rw [enumF, List.length_cons, enumF_len, List.length_cons]
def dEnum (t : DTA) : DTI := fun δ h Q => t δ h fun ws h1 => ∃ u xs, ws = [u] /\ seqD u = some xs /\ Q (enumD xs) none h1
theorem ite_ok {K : PySem.W.Frag} {A μ : List Addr} {H : Hp} {h : Cells} {u : W} {p : Addr} {xs : List PyData} (R : HeapRep K A μ h H) (e1 : seqD u = some xs) (r1 : RepW K A μ H u (.ref p)) :
  ItOk K A μ H (Ite K (seqK u) p) (enumD xs) none := fun A' μ' H' h' y R' _ => by
 obtain ⟨p', vs, ep, sq1, rr1⟩ := seq_rep e1 (r1.ext y R.sub)
 cases ep
 have l1 := rr1.length
 refine ⟨fun i z ez => ?_, fun i hi => ⟨vs, sq1, ?_⟩⟩
 ·obtain ⟨x, ex, rfl⟩ := enumF_get ez
  obtain ⟨vx, hvx, rx⟩ := rr1.get ex
  refine ⟨⟨vs, vx, sq1, hvx⟩, fun v H2 hy => ?_⟩
  obtain ⟨a, x', rfl, ha, rfl, g1⟩ := hy
  have c1 := g1 vs sq1
  rw [hvx] at c1
  cases c1
  refine ⟨ext_fresh ha, R'.fresh ha, rep_tuple R' ha (.cons ?_ (.one rx))⟩
  rw [Rep, Nat.zero_add]
 ·unfold enumD at hi
  rw [enumF_len] at hi
  omega
theorem di_enum {a : Expr} {t : DTA} {p pos : Pos} (hm : X.mg "enumerate" = none) (ha : DA X [a] t) (hg : Gl X "enumerate") (hs : starEach [a] X.env = [(false, eval a X.env)]) :
  DI X (.Tuple elts n tpos) (.Call (.Name "enumerate" p) [a] [] pos) (dEnum t) :=
 pi_mono (pi_enum hg hm ha hs) fun σ H R q => by
  obtain ⟨δ, h, A, μ, k, Rr, q, c⟩ := q
  refine ⟨δ, h, A, μ, _, Rr, q, fun ws h1 vs H1 A1 μ1 q1 x1 R1 r1 => ?_⟩
  obtain ⟨u, xs, rfl, e1, q1⟩ := q1
  obtain ⟨v, rfl, rv⟩ := repWs1 r1
  obtain ⟨p, vs, rfl, sq1, rr1⟩ := seq_rep e1 rv
  refine ⟨p, _, vs, rfl, sq1, fun hz => c _ _ h1 _ H1 A1 μ1 q1 x1 R1 ?_ trivial (ite_ok R1 e1 rv)⟩
  unfold enumD
  rw [enumF_len]
  have l1 := rr1.length
  omega
end
end DL
namespace L2
open PySem PySem.Spec PyProof.Rows
section
variable {prog : Program} {w : World} {A : Around} {E : Value -> Shared -> Prop} {s : Shared}
end
end L2
namespace DL
open PySem PySem.Spec PyProof.Rows L2 ST
section
variable {X : Cx}
theorem range_any {f : Nat -> Bool} (bs : List Bool) (h : ∀ i b, bs[i]? = some b -> f i = b) : (List.range bs.length).any f = bs.any id := by
 rw [Bool.eq_iff_iff, List.any_eq_true, List.any_eq_true]
 constructor
 ·rintro ⟨i, hi, e⟩
  have hi' : i < bs.length := by simpa using hi
  rw [h i bs[i] (by simp [hi'])] at e
  exact ⟨_, List.getElem_mem hi', e⟩
 ·rintro ⟨b, hb, e⟩
  obtain ⟨i, hi, rfl⟩ := List.mem_iff_getElem.mp hb
  exact ⟨i, by simpa using hi, by rw [h i bs[i] (by simp [hi])]; exact e⟩
theorem call_anyB (hc : X.calm = true) : CallR X (.builtin "any") (fun xs H Q => ∃ (p : Addr) (bs : List Bool), xs = [.ref p] /\ SqL X.K H p (bs.map V.bl) /\ Q (.bl (bs.any id)) H) := by
 intro pins s σ H xs us Q I r h
 obtain ⟨p, bs, rfl, sq, q⟩ := h
 obtain ⟨u, rfl, ru⟩ := vals1 r
 cases ru
 obtain ⟨its, rv, pl, hz⟩ := I.list sq
 have hl := rv.length
 rw [List.length_map] at hl
 have hlt : p < s.heap.objs.size := by obtain ⟨o, n, e, _⟩ := pl; exact Heap.lt_size e
 refine call_any_walk (wpAny_pyIter_list pl.isList ⟨s.heap.objs.size, _, _, its.toArray.size, _, _, fun i => (bs[i]?).getD true, rfl, Walks.list (A := X.A.in1) (I.ok.hd hc) s.heap.objs.size p (Nat.ne_of_lt hlt) its.toArray, ⟨⟨_, Heap.get?_push_size _ rfl, rfl, rfl⟩, ?_⟩, fun i v s' Q' E' hP hQ => ?_, fun h' tk hk => ?_⟩)
 ·obtain ⟨o, ho, r⟩ := pl.isList
  exact ⟨o, Heap.get?_push_of_some _ ho, r⟩
 ·have hi : i < its.length := by
   have := (Array.getElem?_eq_some_iff.mp hP).1
   simpa using this
  have eb : bs[i]? = some (bs[i]'(by omega)) := by simp
  obtain ⟨u', e1, e2⟩ := rv.get (i := i) (x := V.bl (bs[i]'(by omega))) (by rw [List.getElem?_map, eb]; rfl)
  have e3 : v = u' := by
   have hP' : its[i]? = some v := by simpa using hP
   rw [hP'] at e1
   exact Option.some.inj e1
  subst e3
  cases e2
  dsimp only at hQ
  rw [eb] at hQ
  exact wpAny_truthy_bool hQ
 ·have e : (List.range its.toArray.size).any (fun i => (bs[i]?).getD true) = bs.any id := by
   have := range_any (f := fun i => (bs[i]?).getD true) bs (fun i b e => by simp [e])
   rw [List.size_toArray, <- hl]
   exact this
  refine ⟨.bl (bs.any id), H, I.kept fun b o eo => hk b o ?_ (Heap.get?_push_of_some _ eo), by rw [e]; rfl, q⟩
  intro z
  rw [List.mem_singleton.mp z] at eo
  exact absurd (Heap.lt_size eo) (Nat.lt_irrefl _)
def xAny : List W -> Cells -> Option (W × Cells)
 | [w], h => (match ref h w with
  | some (.list xs) => (bools xs).map fun bs => (.d (.bool (bs.any id)), h)
  | _ => none)
 | _, _ => none
abbrev OfX (f : List W -> Cells -> Option (W × Cells)) : DC := fun ws h Q => ∃ r h', f ws h = some (r, h') /\ Q r h'
theorem call_dAny (hc : X.calm = true) : CallR X (.builtin "any") (upC X.K (OfX xAny)) := by
 intro pins s σ H xs us Q I r h
 obtain ⟨ws, h, A, μ, k, R, rw', ⟨rr, h', e, q⟩, c⟩ := h
 unfold xAny at e
 split at e
 ·rename_i w h0
  obtain ⟨v, rfl, rv⟩ := repWs1 rw'
  split at e
  ·rename_i ys ey
   obtain ⟨bs, eb, e2⟩ := Option.map_eq_some_iff.mp e
   cases e2
   obtain ⟨p, vs, rfl, sq, rr⟩ := ref_list R rv ey
   have ev := bools_reps eb rr
   subst ev
   exact call_anyB hc pins s σ H _ us Q I r ⟨p, bs, rfl, sq, c _ _ _ _ _ _ q .refl R repW_bl⟩
  ·cases e
 ·cases e
end
end DL
namespace ST
open PySem PySem.Spec PyProof.Rows PySem.W
end ST
namespace ST
open PySem PySem.Spec PyProof.Rows PySem.W
section
variable {prog : Program} {w : World} {A : Around} {E : Value -> Shared -> Prop} {s : Shared}
end
end ST
namespace ST
open PySem PySem.Spec PyProof.Rows PySem.W
section
variable {prog : Program} {w : World} {A : Around} {E : Value -> Shared -> Prop} {s : Shared}
end
end ST
namespace L2
open PySem PySem.Spec PyProof.Rows ST
section
variable {X : Cx}
end
end L2
namespace L2
open PySem PySem.Spec PyProof.Rows
section
variable {X : Cx}
def rSetU : V -> V -> V -> Hp -> (Hp -> Prop) -> Prop := fun o i v H Q => rSetL o i v H Q \/ ∃ a k kvs, o = .ref a /\ i = kV k /\ H a = some (.dK kvs) /\ kvs.length < sizeLine /\ Q (upd H a (.dK (putK kvs k v)))
theorem set_U : PSet X rSetU := by
 intro pins s σ H o i v ov iv u Q I ro ri rv h
 rcases h with h | ⟨a, k, kvs, rfl, rfl, e, l, q⟩
 ·exact set_list pins s σ H o i v ov iv u Q I ro ri rv h
 ·cases ro
  obtain ⟨z, hd, vs, rel, dd⟩ := dk_of I.hok e
  have hz : vs.length <= sizeLine := by rw [<- rel.length]; exact z
  have hl : (putK kvs k v).length <= sizeLine := by have := length_putK kvs k v; omega
  refine wpAny_setItem_pairs (hsz := hz) (kV_is ri) dd fun h' dd' hs => ⟨_, ?_, q⟩
  have he : ∃ q, h'.get? a = some q := let ⟨q, _, _, hq, _⟩ := dd'; ⟨q, hq⟩
  exact d_write I (by rw [e]; exact True.intro) hs he (dk_new hl hd (rel.put k rv) dd')
end
end L2
namespace DL
open PySem PySem.Spec PyProof.Rows L2 ST
variable {X : Cx} {e : Expr} {pos : Pos}
def dSetU (to ti : DTE) : DTG := fun v δ h Q => to δ h fun o h1 => ti δ h1 fun i h2 => match o, i, v with
 | .c j, .d y, .d x => (match h2[j]?, y with
  | some (.l xs), .int k => (match ixN xs.length k with
   | some n => Q δ (h2.set j (.l (xs.set n x)))
   | none => False)
  | some (.k kvs), _ => (keyD y).isSome = true /\ kvs.length < sizeLine /\ Q δ (h2.set j (.k (putD kvs y x)))
  | _, _ => False)
 | _, _, _ => False
theorem rep_key {K : PySem.W.Frag} {A : List Addr} {H : Hp} {y : PyData} {v : V} {q : Key} (r : Rep K A H y v) (hk : keyD y = some q) : v = kV q := by
 cases y <;> first | (simp [keyD] at hk; done) | skip
 ·rw [Rep] at r
  simp only [keyD, Option.some.injEq] at hk
  subst hk
  exact r
 ·rw [Rep] at r
  simp only [keyD] at hk
  rw [if_pos r.2] at hk
  cases hk
  exact r.1
theorem repKs_len {K : PySem.W.Frag} {A : List Addr} {H : Hp} : ∀ {kvs : List (PyData × PyData)} {r : List (Key × V)}, RepKs K A H kvs r -> r.length = kvs.length
 | [], r, h => by rw [repKs_nil.mp h]; rfl
 | p :: kvs, r, h => by
  obtain ⟨q', r', rfl, h1, h3⟩ := repKs_cons.mp h
  simp [repKs_len h3]
theorem dg_subU {o i : Expr} {to ti : DTE} (ho : DE X o to) (hi : DE X i ti)
  (ha : ∀ v, assign (.Subscript o i pos) X.env v = (do
   let ov <- holding [v] (eval o X.env)
   let iv <- holding [v, ov] (eval i X.env)
   standAt pos
   holding [v, ov, iv] (setItem ov iv v)
   release [v, ov, iv] []) := by intro _; rfl) : DG X (.Subscript o i pos) (dSetU to ti) := pg_mono (pg_sub ho hi set_U ha) fun v σ H Q q => by
 obtain ⟨w, δ, h, A, μ, k, R, r, q, c⟩ := q
 refine ⟨δ, h, A, μ, _, R, q, fun o h1 vo H1 A1 μ1 q1 x1 R1 r1 => ?_⟩
 refine ⟨δ, h1, A1, μ1, _, ⟨R1, R.2.ext x1 R.1.sub⟩, q1, fun i h2 vi H2 A2 μ2 q2 x2 R2 r2 => ?_⟩
 have x12 := x1.trans x2
 split at q2
 ·rename_i j y x
  split at q2
  ·rename_i xs kk ex
   split at q2
   ·rename_i n en
    obtain ⟨a, ea, rfl⟩ := r1.ext x2 R1.sub
    have ei := repW_int r2
    subst ei
    obtain ⟨vs, hv, rr⟩ := R2.val j a xs ea ex
    refine .inl ⟨a, vs, kk, n, rfl, rfl, hv, by rw [rr.length]; exact en, ?_⟩
    have rx : Rep X.K A2 H2 x v := r.ext x12 R.1.sub
    have hm := List.mem_of_getElem? ea
    have y := ext_write (A := A2) (o := .lst (vs.set n v)) hm hv
    exact c _ _ _ _ A2 μ2 q2 (x12.trans y) ⟨heap_write R2 ea (rr.set rx n), (R.2.ext x12 R.1.sub).ext y R2.sub⟩
   ·exact q2.elim
  ·rename_i kvs ex
   obtain ⟨hk, hl, q2⟩ := q2
   obtain ⟨kq, hk⟩ := Option.isSome_iff_exists.mp hk
   obtain ⟨a, ea, rfl⟩ := r1.ext x2 R1.sub
   have ei := rep_key (K := X.K) (A := A2) (H := H2) r2 hk
   subst ei
   obtain ⟨vs, hv, rr⟩ := R2.vad j a kvs ea ex
   refine .inr ⟨a, kq, vs, rfl, rfl, hv, by rw [repKs_len rr]; exact hl, ?_⟩
   have rx : Rep X.K A2 H2 x v := r.ext x12 R.1.sub
   have hm := List.mem_of_getElem? ea
   have y := ext_write (A := A2) (o := .dK (putK vs kq v)) hm hv
   exact c _ _ _ _ A2 μ2 q2 (x12.trans y) ⟨heap_writeK R2 ea (repKs_put hk rx rr), (R.2.ext x12 R.1.sub).ext y R2.sub⟩
  ·exact q2.elim
 ·exact q2.elim
def dCelK : DTE := fun δ h Q => Q (.c h.length) (h ++ [Cell.k []])
theorem ds_celK {i : Nat} {x : Str} {pos' pos2 : Pos} (hN : X.N.Nodup) (hi : X.N[i]? = some x) (hx : Loc X.env.scope x) (hs : swapsWith (.Dict [] [] pos2) (some (.Name x pos')) pos.line X.env = pure false)
  (hf : X.fn x = true \/ X.env.scope.names.lookup x = some .local) : DS X (.Assign [.Name x pos'] (.Dict [] [] pos2) pos) (dAsg dCelK (dName i)) := ps_mono (ps_set hN hi hx pe_dict0 hs hf) fun D σ H q => by
 obtain ⟨δ, h, A, μ, E, R, q, L⟩ := q
 intro p hp
 have hl : μ.length = h.length := R.1.len
 have x := ext_cell (μ := μ) (A := A) (o := .dK []) hp
 exact L.nx _ _ _ _ (p :: A) (μ ++ [p]) q x ⟨heap_cellK R.1 hp (repKs_nil.mpr rfl), (R.2.ext x R.1.sub).set i ⟨p, by rw [<- hl]; simp, rfl⟩⟩
end DL
namespace DL
open PySem PySem.Spec PyProof.Rows L2 ST
section
variable {X : Cx}
def dPop (to : DTE) (t : DTA) : DTE := fun δ h Q => to δ h fun o h1 => match o with
 | .c j => (match h1[j]? with
  | some (.l _) => t δ h1 fun ws h2 => (match ws, h2[j]? with
   | [.d (.int i)], some (.l xs) => ∃ n x, ixN xs.length i = some n /\ xs[n]? = some x /\ -(2 ^ 63) <= i /\ i < 2 ^ 63 /\ Q (.d x) (h2.set j (.l (xs.eraseIdx n)))
   | _, _ => False)
  | _ => False)
 | _ => False
theorem reps_erase {K : PySem.W.Frag} {A : List Addr} {H : Hp} : ∀ {xs : List PyData} {vs : List V} (n : Nat), Reps K A H xs vs -> Reps K A H (xs.eraseIdx n) (vs.eraseIdx n)
 | [], vs, n, r => by
  rw [Reps] at r
  subst r
  exact .nil
 | x :: xs, vs, 0, r => by
  rw [Reps] at r
  obtain ⟨v, vr, rfl, _, r⟩ := r
  exact r
 | x :: xs, vs, n + 1, r => by
  rw [Reps] at r
  obtain ⟨v, vr, rfl, r1, r2⟩ := r
  exact .cons r1 (reps_erase n r2)
theorem de_pop {o e0 : Expr} {es : List Expr} {to : DTE} {t : DTA} {apos cpos : Pos} (ho : DE X o to) (ha : DA X (e0 :: es) t)
  (hbase : attributeBase o "pop" X.env (eval o X.env) = eval o X.env := by rfl)
  (hfew : ((backTo cpos (starEach (e0 :: es) X.env)).all (fun x => !x.1) && (backToKw cpos (keywordEach [] X.env)).all (fun x => x.1.isSome)
   && decide ((e0 :: es).length + ([] : List Keyword).length + (if ([] : List Keyword).isEmpty then 0 else 1) < 30)) = true := by rfl)
  (hline : (apos.endLine == cpos.line) = true := by rfl) (hs : starEach (e0 :: es) X.env = (false, eval e0 X.env) :: starEach es X.env := by rfl) (hplain : (backTo cpos (starEach es X.env)).any (·.1) = false := by rfl) :
  DE X (.Call (.Attribute o "pop" apos) (e0 :: es) [] cpos) (dPop to t) := pe_mono (pe_bm PySem.F.plainAttrs_list PySem.F.slot_list_pop PySem.F.type_list_pop mt_popAt ho ha hbase hfew hline hs hplain) fun σ H Q q => by
 obtain ⟨δ, h, A, μ, k, R, q, c⟩ := q
 refine ⟨δ, h, A, μ, _, R, q, fun o h1 vo H1 A1 μ1 q1 x1 R1 r1 => ?_⟩
 split at q1
 ·rename_i j
  obtain ⟨a, ea, rfl⟩ := r1
  split at q1
  rotate_left
  ·exact q1.elim
  rename_i xs1 ex1
  obtain ⟨vs1, hv1, _⟩ := R1.val j a xs1 ea ex1
  refine ⟨.inl ⟨rfl, _, SqL.of hv1⟩, δ, h1, A1, μ1, _, ⟨R1, R.2.ext x1 R.1.sub⟩, q1, fun ws h2 vs H2 A2 μ2 q2 x2 R2 r2 => ?_⟩
  split at q2
  ·rename_i i xs ex
   obtain ⟨n, x, e1, e2, i1, i2, q2⟩ := q2
   obtain ⟨v, rfl, rv⟩ := repWs1 r2
   have ei := repW_int rv
   subst ei
   have ea2 : μ2[j]? = some a := by
    obtain ⟨ν, e1, _⟩ := x2.pre
    rw [e1, List.getElem?_append_left (List.getElem?_eq_some_iff.mp ea).1]
    exact ea
   obtain ⟨vs, hv, rr⟩ := R2.val j a xs ea2 ex
   obtain ⟨y, ey, ry⟩ := rr.get e2
   refine ⟨a, vs, i, n, y, rfl, rfl, hv, i1, i2, by rw [rr.length]; exact (ixN_seq e1).1, ey, ?_⟩
   have hm := List.mem_of_getElem? ea2
   exact c _ _ _ _ A2 μ2 q2 ((x1.trans x2).trans (ext_write hm hv)) (heap_write R2 ea2 (reps_erase n rr)) (ry.upd (R2.sub a hm))
  ·exact q2.elim
 ·exact q1.elim
theorem tuple_once (l : Addr) (items : Array Value) (n : Nat) (dd : Option Addr) (sl : Array (Option Value)) (u : Tok) :
  Meets (Builtin.«tuple.__mul__» ⟨[.ref l, .int 1 u], []⟩) (fun _ R s => s.heap.get? l = some { cls := .type "tuple", dict := dd, data := .seq items n, slots := sl } /\ R (.ok (.ret (.ref l))) s) :=
 .of_wp fun prog w A R s h => by
  obtain ⟨hp, g, d, tk, os⟩ := s
  obtain ⟨hl, h⟩ := h
  have f2 := AutoSeq1.sub_tuple_tuple
  wp_walk
  exact ⟨_, rfl, h⟩
theorem op_repT1 : OpR X (binaryOp .Mult) (fun x y H Q => ∃ l xs, x = .ref l /\ y = .int 1 /\ SqT X.K H l xs /\ Q (.ref l) H) := by
 intro pins s σ H x y v u Q I rx ry h
 obtain ⟨l, xs, rfl, rfl, sq, q⟩ := h
 cases rx
 obtain ⟨t, rfl⟩ := ry
 obtain ⟨its, r, p, hz0⟩ := I.tuple sq
 obtain ⟨⟨cls, dd, data, sl⟩, ho, hc, n, hd⟩ := id p
 simp only at hc hd
 subst hc hd
 refine wpAny_binaryOp_repeat_ref (T := "tuple") (U := "int") (by decide) ⟨_, ho, rfl⟩ (fun s' => typeIs_int s' 1 t) fill_tuple_mul PySem.F.fills_int_mul PySem.F.slot_int_rmul repeats_tuple PySem.F.slot_int_index.lookup
  (call_meets PySem.F.slot_int_rmul (typeIs_int s 1 t) PySem.F.entry_int_rmul (PySem.F.args_int_rmul_2 _ _) (int_rmul_tuple 1 t l its.toArray n dd sl)
   ⟨ho, rfl, ⟨_, ho, rfl⟩, call_meets PySem.F.slot_tuple_mul ⟨_, ho, rfl⟩ PySem.F.entry_tuple_mul (PySem.F.args_tuple_mul_2 _ _) (tuple_once l its.toArray n dd sl t) ⟨ho, ?_⟩⟩)
 exact ⟨.ref l, H, I, rfl, q⟩
def dMulU : D2
 | .d (.tuple xs), .d (.int k), h, Q => (k = 1 /\ Q (.d (.tuple xs)) h) \/ ((xs ≠ [] /\ 1 < k /\ k < 2 ^ 63 /\ xs.length * k.toNat <= sizeLine) /\ Q (.d (.tuple (List.replicate k.toNat xs).flatten)) h)
 | _, _, _, _ => False
theorem op_dMulU : OpR X (binaryOp .Mult) (upR X.K dMulU) := by
 intro pins s σ H x y v u Q I rx ry h
 obtain ⟨a, b, h, A, μ, k, R, ra, rb, q, c⟩ := h
 unfold dMulU at q
 split at q
 ·rename_i xs n
  rcases q with ⟨e, q⟩ | q
  ·obtain ⟨p, vs, rfl, ta, sa⟩ := ref_tuple (h := h) ra rfl
   have eb := repW_int rb
   subst eb
   subst e
   exact op_repT1 pins s σ H _ _ v u Q I rx ry ⟨p, vs, rfl, rfl, ta.sq, c _ _ _ _ _ _ q .refl R ra⟩
  ·exact op_dMulT pins s σ H x y v u Q I rx ry ⟨.d (.tuple xs), .d (.int n), h, A, μ, k, R, ra, rb, q, c⟩
 ·exact q.elim
end
end DL
namespace DL
open PySem PySem.Spec PyProof.Rows L2 ST
abbrev DSpF := List W -> Cells -> (List PyData -> Cells -> Prop) -> Prop
def upSpF (K : PySem.W.Frag) (d : DSpF) : Sp := fun vs H Q _ => ∃ (ws : List W) (h : Cells) (A μ : List Addr) (k : List PyData -> Cells -> Prop), HeapRep K A μ h H /\ RepWs K A μ H ws vs /\ d ws h k /\
 ∀ xs h' a H' A', k xs h' -> Ext A A' μ (μ ++ [a]) H H' -> H a = none -> HeapRep K A' (μ ++ [a]) (h' ++ [Cell.l xs]) H' -> Q (.ref a) H'
structure DFnF (P : Program) (w : World) (K : PySem.W.Frag) (mg : Str -> Option Value) (base : Heap) (k : Nat) (x : Str) (d : DSpF) : Prop where
 ok : ∃ (f : Addr) (fd : FuncData) (ps : List Str), FnOk P w K mg base CX0 k f fd ps (upSpF K d) /\ mg x = some (.ref f) /\ PySem.W.keepIn K (.ref f) = true /\ Binds K fd ps []
def dCallF (d : DSpF) (t : DTA) : DTF := fun δ h Q => t δ h fun ws h1 => d ws h1 Q
theorem up_callF {K : PySem.W.Frag} {d : DSpF} {t : DTA} {σ : L2.St} {H : Hp} {Q : VK} (q : upF K (dCallF d t) σ H Q) : tCall (upSpF K d) [] E0 (upA K t) σ H Q := by
 obtain ⟨δ, h, A, μ, k, R, q, c⟩ := q
 refine ⟨δ, h, A, μ, _, R, q, fun ws h1 vs H1 A1 μ1 q1 x1 R1 r1 => ?_⟩
 show upSpF K d (vs ++ []) H1 Q E0
 rw [List.append_nil]
 refine ⟨ws, h1, A1, μ1, _, R1, r1, q1, fun xs h2 a H2 A2 q2 x2 ha R2 => ?_⟩
 obtain ⟨ν, e, _⟩ := x1.pre
 exact c xs h2 a H2 A2 μ1 q2 (x1.trans x2) ⟨ν, e⟩ (x1.back ha) R2
section
variable {X : Cx} {x : Str} {p pos : Pos} {e : Expr} {es : List Expr} {t : DTA} {d : DSpF} {k : Nat}
theorem df_call (F : DFnF X.prog X.w X.K X.mg X.base k x d) (hr : Room k X.A) (ha : DA X (e :: es) t) (hg : Gl X x := by rfl) (hdb : (x == ("__debug__" : Str)) = false := by decide)
  (he : starEach (e :: es) X.env = (false, eval e X.env) :: starEach es X.env := by rfl) (hpl : (backTo pos (starEach es X.env)).any (·.1) = false := by rfl) : DF X (.Call (.Name x p) (e :: es) [] pos) (dCallF d t) := by
 obtain ⟨f, fd, ps, h1, h2, h3, h4⟩ := F.ok
 exact pe_mono (pe_call h1 hr hg h2 h3 h4 .nil pass0 ha hdb he hpl) fun _ _ _ q => up_callF q
end
def dendsF (n : Nat) (k : List PyData -> Cells -> Prop) : DEnds where
 nx := fun _ _ => False
 rt := fun w h => match w with
  | .c i => (match h[i]? with
   | some (.l xs) => n <= i /\ k xs (h.take n)
   | _ => False)
  | _ => False
theorem leave_cell {K : PySem.W.Frag} {A A1 μ μ1 : List Addr} {h h1 : Cells} {H H1 : Hp} {i : Nat} {a : Addr} {xs : List PyData} (R : HeapRep K A μ h H) (R1 : HeapRep K A1 μ1 h1 H1) (x : Ext A A1 μ μ1 H H1) (ea : μ1[i]? = some a) (ei : h1[i]? = some (.l xs)) (hi : h.length <= i) :
  H a = none /\ Ext A (a :: A) μ (μ ++ [a]) H H1 /\ HeapRep K (a :: A) (μ ++ [a]) (h1.take h.length ++ [Cell.l xs]) H1 := by
 obtain ⟨ν, e, n⟩ := x.pre
 have ha : H a = none := by
  rw [e, List.getElem?_append_right (by rw [R.len]; exact hi)] at ea
  exact n a (List.mem_of_getElem? ea)
 have haA : a ∉ A := fun z => by
  obtain ⟨o, q⟩ := R.trk a z
  rw [ha] at q; cases q
 have sub : ∀ b ∈ a :: A, b ∈ A1 := fun b hb => by
  rcases List.mem_cons.mp hb with rfl | hb
  ·exact R1.sub _ (List.mem_of_getElem? ea)
  ·exact x.sub b hb
 have hle : μ.length <= h1.length := by
  rw [<- R1.len, e, List.length_append]
  omega
 have tl : (h1.take h.length).length = μ.length := by rw [List.length_take, <- R.len]; omega
 refine ⟨ha, ⟨fun _ z => List.mem_cons_of_mem _ z, fun b hb => ?_, ⟨[a], rfl, fun b hb => by rw [List.mem_singleton.mp hb]; exact ha⟩, x.keep, x.trk⟩, ⟨by rw [List.length_append, List.length_append, tl]; rfl, ?_, fun b hb => ?_, fun b hb => ?_, fun j b c e1 e2 => ?_⟩⟩
 ·rcases List.mem_cons.mp hb with rfl | hb
  ·exact .inr ha
  ·exact .inl hb
 ·rw [List.nodup_append]
  refine ⟨R.nd, by simp, fun b hb c hc => ?_⟩
  rw [List.mem_singleton.mp hc]
  exact fun z => haA (by rw [<- z]; exact R.sub b hb)
 ·rcases List.mem_append.mp hb with hb | hb
  ·exact List.mem_cons_of_mem _ (R.sub b hb)
  ·rw [List.mem_singleton.mp hb]; exact List.mem_cons_self
 ·exact R1.trk b (sub b hb)
 ·by_cases hj : j < μ.length
  ·rw [List.getElem?_append_left hj] at e1
   rw [List.getElem?_append_left (by rw [tl]; exact hj), List.getElem?_take_of_lt (by rw [<- R.len]; exact hj)] at e2
   exact (R1.cel j b c (by rw [e, List.getElem?_append_left hj]; exact e1) e2).anti sub
  ·rw [List.getElem?_append_right (by omega)] at e1
   rw [List.getElem?_append_right (by rw [tl]; omega), tl] at e2
   have hz : j - μ.length = 0 := by
    have := (List.getElem?_eq_some_iff.mp e1).1
    simp at this
    omega
   rw [hz] at e1 e2
   simp at e1 e2
   subst e1 e2
   exact (R1.cel i a _ ea ei).anti sub
section
variable {P : Program} {w : World} {K : PySem.W.Frag} {mg : Str -> Option Value} {base : Heap}
theorem dfnF {x qual : Str} {st : Stmt} {f : Addr} {fd : FuncData} {N ps : List Str} {k : Nat} {d : DSpF} (F : Fun K x qual st f fd) (S : FnScope N ps (defScope st)) (len : ∀ ws h k, d ws h k -> ws.length = ps.length)
  (hbody : ∀ (cdv : Value) (A : Around) (outer : List Env) (s : Shared) (H : Hp) (E : XK), fd.code = cdv -> Room k (A.deeper (envOfC qual (defScope st) s.heap.objs.size f cdv)) ->
   ∃ t, DSs (cxOf CX0 P w K mg base N qual (defScope st) f cdv A outer s H E).nox (defBody st) t /\ ∀ ws h kk, d ws h kk -> t (dendsF h.length kk) (dstart N ws) h) : FnOk P w K mg base CX0 (k + 1) f fd ps (upSpF K d) := by
 refine funC F S (fun vs H Q E ⟨ws, h, A, μ, kk, R, r, q, c⟩ => by rw [repWs_len r]; exact len _ _ _ q) fun cdv A outer s H vs Q E hcd hr hsp => ?_
 obtain ⟨ws, h, B, μ, kk, R, r, q, c⟩ := hsp
 obtain ⟨t, ht, hq⟩ := hbody cdv A outer s H E hcd hr
 refine ⟨_, ht, dstart N ws, h, B, μ, dendsF h.length kk, ⟨R, start_rep r⟩, hq ws h kk q, ⟨fun δ' h' σ' H' A' μ' q' x' R' => q'.elim, fun δ' h' σ' H' A' μ' q' x' R' => q'.elim, fun δ' h' σ' H' A' μ' q' x' R' => q'.elim, fun z h' v H' A' μ' q' x' R' r' => ?_⟩⟩
 cases z with
 | d z => exact (show False from q').elim
 | v u => exact (show False from q').elim
 | c i =>
  have q2 : (match h'[i]? with
   | some (.l xs) => h.length <= i /\ kk xs (h'.take h.length)
   | _ => False) := q'
  obtain ⟨a, ea, rfl⟩ := r'
  cases e : h'[i]? with
  | none => simp only [e] at q2
  | some cc =>
   cases cc with
   | k kvs => simp only [e] at q2
   | t _ _ _ => simp only [e] at q2
   | l xs =>
    simp only [e] at q2
    obtain ⟨hi, q3⟩ := q2
    obtain ⟨ha, y, R2⟩ := leave_cell R R' x' ea e hi
    exact c xs _ a _ _ q3 y ha R2
end
end DL
namespace L2
open PySem PySem.Spec PyProof.Rows ST
theorem tup_at {prog : Program} {w : World} {A : Around} {E : Value -> Shared -> Prop} {s : Shared} {T : Addr} {its : List Value} {i : Int} {t : Tok} {z : Value} {value slice : Expr} {Q : Value -> Shared -> Prop} (ht : IsTup s.heap T its.toArray) (hz : its.length <= sizeLine) (hi : atI its i = some z)
  (hs : subscripted slice false (.ref T) (.int i t) = operate [.ref T, .int i t] (getItem (.ref T) (.int i t))) (h : Q z s) : wpAny (model prog w) A (subscriptTail value slice (.ref T) (.int i t)) Q E s := by
 obtain ⟨j, h1, h2, h3, h4, h5⟩ := atI_get hi
 have hn := line63
 exact subscriptTail_builtinR (x := z) ht.typeIs slot_tuple_getitem.lookup
  (getItem_tuple (j := j) (Q := fun r s' => r = z /\ Q r s') ht (by omega) (by omega) (by rw [List.size_toArray]; exact h1) (by simpa using h2) ⟨rfl, h⟩) hs
theorem lam_body {prog : Program} {w : World} {A : Around} {E : Value -> Shared -> Prop} {s : Shared} {env : Env} {x y : Str} {p1 p2 p3 p4 p5 : Pos} {k : Nat} {c i : Int} {ti : Tok} {ca T R : Addr} {m : Str -> Option Value} {rows cols : List Value} {z : Value} {Q : Value -> Shared -> Prop}
  (hk : env.scope.kind = .function) (hx : env.kindOf x = some .local) (hn : s.heap.Ns env.locals m) (hm : m x = some (.int i ti)) (hy : env.kindOf y = some .free) (hc : env.cells.lookup y = some ca) (hcell : s.heap.IsCell ca (some (.ref T)))
  (dx : (x == ("__debug__" : Str)) = false) (dy : (y == ("__debug__" : Str)) = false) (cy : (y == ("__classdict__" : Str)) = false)
  (hT : IsTup s.heap T rows.toArray) (zT : rows.length <= sizeLine) (eT : atI rows i = some (.ref R)) (hR : IsTup s.heap R cols.toArray) (zR : cols.length <= sizeLine) (eR : atI cols c = some z)
  (h : ∀ tk, Q z { s with toks := tk }) : wpAny (model prog w) A (eval (.Subscript (.Subscript (.Name y p1) (.Name x p2) p3) (.Constant (.int c) k p4) p5) env) Q E s := by
 refine Subscript_ (Subscript_ (wpAny_Name (wpAny_loadName_free hk hy hc hcell (wpAny_Name (wpAny_loadName_local hk hx hn hm ?_) dx) cy) dy))
 refine tup_at hT zT eT (by rfl) ?_
 refine wpAny_Constant_int ?_
 exact tup_at (s := { s with toks := s.toks + 1 }) hR zR eR (by rfl) (h _)
theorem lam_call {prog : Program} {w : World} {A : Around} {s : Shared} {f c' : Addr} {name qual : Str} {params : Arguments} {scope : Scope} {cl : List (Str × Addr)} {pm ctv : Value} {x y : Str} {p1 p2 p3 p4 p5 : Pos} {k : Nat} {c i key : Int} {ti tz : Tok} {ca T R : Addr} {rows cols : List Value} {Q : Value -> Shared -> Prop} {E : Value -> Shared -> Prop}
  (hroom : A.depth < recursionLimit) (lim : s.heap.NoLimit)
  (ho : s.heap.get? f = some (PySem.W.kla_obj name qual params (.Subscript (.Subscript (.Name y p1) (.Name x p2) p3) (.Constant (.int c) k p4) p5) scope cl pm c' ctv)) (hcd : s.heap.CodeRec (.ref c') qual)
  (hb : ∀ fd : FuncData, fd.params = params -> fd.defaults = .none -> fd.kwdefaults = .none -> ∀ u : Value, bindArgs fd ⟨[u], []⟩ = pure [(x, u)])
  (hco : scope.isCoroutine = false) (hgen : scope.isGenerator = false) (hk : scope.kind = .function) (hcell : ∀ z ∈ scope.names, z.2 ≠ .cell) (hx : scope.names.lookup x = some .local) (hy : scope.names.lookup y = some .free)
  (hc : cl.lookup y = some ca) (hca : s.heap.IsCell ca (some (.ref T)))
  (dx : (x == ("__debug__" : Str)) = false) (dy : (y == ("__debug__" : Str)) = false) (cy : (y == ("__classdict__" : Str)) = false)
  (hT : IsTup s.heap T rows.toArray) (zT : rows.length <= sizeLine) (eT : atI rows i = some (.ref R)) (hR : IsTup s.heap R cols.toArray) (zR : cols.length <= sizeLine) (eR : atI cols c = some (.int key tz))
  (h : ∀ h' tk, (∀ b o, s.heap.get? b = some o -> h'.get? b = some o) -> Q (.int key tz) { s with heap := h', toks := tk }) : wpAny (model prog w) A (call (.ref f) [.int i ti]) Q E s := by
 refine wpAny_call (PySem.W.kla_callFunE hroom ho rfl hco hgen rfl hcd ?_)
 rw [hb _ rfl rfl rfl]
 refine wpAny_pure (wpAny_newFunctionEnv hcell (fun z hz => ?_) (fun h₁ hns hsb => ?_) hk)
 ·rw [List.mem_singleton.mp hz]; exact hx
 have hk₁ : ∀ b o, s.heap.get? b = some o -> h₁.get? b = some o := fun b o e => hsb.extBut b o (Nat.ne_of_lt (Heap.lt_size e)) (Heap.get?_push_of_some _ e)
 refine ⟨lim.keeps hk₁, ?_⟩
 have keepT : ∀ {a : Addr} {its : Array Value}, IsTup s.heap a its -> IsTup h₁ a its := fun ⟨o, e, r⟩ => ⟨o, hk₁ _ _ e, r⟩
 have keepC : h₁.IsCell ca (some (.ref T)) := let ⟨o, e, r⟩ := hca; ⟨o, hk₁ _ _ e, r⟩
 show codeAny _ _ (.expr _ (PySem.W.envX qual scope s.heap.objs.size f (.ref c') cl)) _ _
 refine PySem.W.kla_codeExpr (lam_body (ti := ti) (i := i) (m := fun z => [(x, Value.int i ti)].reverse.lookup z) hk hx hns (by simp [List.lookup]) hy hc keepC dx dy cy (keepT hT) zT eT (keepT hR) zR eR fun tk => h h₁ _ hk₁)
theorem lam_bind {x : Str} {a : Option Expr} {pa : Pos} (fd : FuncData) (hp : fd.params = ⟨[], [⟨x, a, pa⟩], none, [], [], none, []⟩) (h1 : fd.defaults = .none) (h2 : fd.kwdefaults = .none) (u : Value) : bindArgs fd ⟨[u], []⟩ = pure [(x, u)] := by
 unfold bindArgs
 rw [hp, h1, h2]
 simp [show seqItems? Value.none = pure none from rfl, List.lookup]
theorem lam_clos {x y : Str} {env : Env} {ca : Addr} (h : env.cells.lookup y = some ca) : closureFor ⟨.function, [(x, .local), (y, .free)], false, false, []⟩ env = pure [(y, ca)] := by
 unfold closureFor
 simp [cellOf, h]
def restOf (base h : Heap) (L : Addr) : List (Addr × Obj) := (List.range h.objs.size).filterMap fun b => match h.get? b with
 | some o => if b = L \/ (base.get? b).isSome = true then none else some (b, o)
 | none => none
theorem rest_mem {base h : Heap} {L b : Addr} {o : Obj} : (b, o) ∈ restOf base h L ↔ h.get? b = some o /\ b ≠ L /\ base.get? b = none := by
 unfold restOf
 rw [List.mem_filterMap]
 constructor
 ·rintro ⟨c, hc, e⟩
  split at e
  ·rename_i o' eo
   split at e
   ·cases e
   ·rename_i hn
    cases e
    refine ⟨eo, fun z => hn (.inl z), ?_⟩
    cases q : base.get? b with
    | none => rfl
    | some _ => exact (hn (.inr (by rw [q]; rfl))).elim
  ·cases e
 ·rintro ⟨h1, h2, h3⟩
  refine ⟨b, List.mem_range.mpr (Heap.lt_size h1), ?_⟩
  rw [h1]
  dsimp only
  rw [if_neg]
  rintro (z | z)
  ·exact h2 z
  ·rw [h3] at z; cases z
theorem rest_news {base h : Heap} {L : Addr} : News base L h (restOf base h L) := fun p hp => rest_mem.mp hp
theorem rest_all {base h h' : Heap} {L : Addr} {m m' : Str -> Option Value} {more : List (Addr × Obj)} (F : Fr base L h m) (F' : Fr base L h' m') (N : News base L h' more) (hm : ∀ p ∈ restOf base h L, p ∈ more) (b : Addr) (o : Obj) (hb : b ≠ L) (e : h.get? b = some o) : h'.get? b = some o := by
 cases q : base.get? b with
 | none => exact (N _ (hm _ (rest_mem.mpr ⟨e, hb, q⟩))).1
 | some o' =>
  have := F.keep b o' q
  rw [e] at this; cases this
  exact F'.keep b _ q
def srtK (ks ns : List Int) : List Int := ((ks.zip ns).mergeSort fun a b => decide (a.1 <= b.1)).map (·.2)
theorem fst_inj {α : Type} : ∀ {l : List (Int × α)}, (l.map (·.1)).Nodup -> ∀ a ∈ l, ∀ b ∈ l, a.1 = b.1 -> a = b
 | [], _, _, h, _, _, _ => nomatch h
 | x :: l, nd, a, ha, b, hb, e => by
  rw [List.map_cons, List.nodup_cons] at nd
  rcases List.mem_cons.mp ha with q1 | q1
  ·rcases List.mem_cons.mp hb with q2 | q2
   ·rw [q1, q2]
   ·exact (nd.1 (by rw [<- q1, e]; exact List.mem_map_of_mem q2)).elim
  ·rcases List.mem_cons.mp hb with q2 | q2
   ·exact (nd.1 (by rw [<- q2, <- e]; exact List.mem_map_of_mem q1)).elim
   ·exact fst_inj nd.2 a q1 b q2 e
theorem zip_fst : ∀ (ks ns : List Int), ks.length = ns.length -> (ks.zip ns).map (·.1) = ks
 | [], [], _ => rfl
 | k :: ks, n :: ns, h => by rw [List.zip_cons_cons, List.map_cons, zip_fst ks ns (Nat.succ.inj h)]
theorem srtK_only {ks ns : List Int} {ps : List (Int × Int)} (hl : ks.length = ns.length) (nd : ks.Nodup) (p : ps.Perm (ks.zip ns)) (o : ps.Pairwise fun a b => a.1 <= b.1) : ps.map (·.2) = srtK ks ns := by
 have p2 : ((ks.zip ns).mergeSort fun a b => decide (a.1 <= b.1)).Perm (ks.zip ns) := List.mergeSort_perm _ _
 have o2 : ((ks.zip ns).mergeSort fun a b => decide (a.1 <= b.1)).Pairwise fun a b => a.1 <= b.1 := by
  have h := List.pairwise_mergeSort (le := fun a b : Int × Int => decide (a.1 <= b.1)) (fun a b c h1 h2 => by simp at *; omega) (fun a b => by simp; omega) (ks.zip ns)
  exact h.imp fun h => by simpa using h
 have e : ps = (ks.zip ns).mergeSort fun a b => decide (a.1 <= b.1) := (p.trans p2.symm).eq_of_pairwise (fun a b ha hb h1 h2 =>
  fst_inj (l := ks.zip ns) (by rw [zip_fst ks ns hl]; exact nd) a (p.mem_iff.mp ha) b (p2.mem_iff.mp hb) (Int.le_antisymm h1 h2)) o o2
 rw [e]; rfl
theorem srtK_perm {ks ns : List Int} (hl : ks.length = ns.length) : (srtK ks ns).Perm ns := by
 unfold srtK
 refine ((List.mergeSort_perm (ks.zip ns) _).map _).trans ?_
 rw [List.map_snd_zip (by omega)]
theorem ints_val : ∀ {vs : List Value} {ns : List Int}, IntsAre vs ns -> vs.map valI = ns
 | _, _, .nil => rfl
 | _, _, .cons n t h => by rw [List.map_cons, ints_val h]; rfl
theorem ints_mem : ∀ {vs : List Value} {ns : List Int}, IntsAre vs ns -> ∀ v ∈ vs, ∃ tk, v = .int (valI v) tk
 | _, _, .nil, _, h => nomatch h
 | _, _, .cons n t h, v, hv => by
  rcases List.mem_cons.mp hv with rfl | hv
  ·exact ⟨t, rfl⟩
  ·exact ints_mem h v hv
theorem out_ints {ks ns : List Int} {vs out : List Value} (hi : IntsAre vs ns) (hl : ks.length = ns.length) (nd : ks.Nodup) (h : KskOut false ks vs out) : IntsAre out (srtK ks ns) := by
 obtain ⟨ps, p, rfl, o⟩ := h
 have e : srtK ks ns = (ps.map Prod.snd).map valI := by
  rw [<- srtK_only (ps := ps.map fun q => (q.1, valI q.2)) hl nd, List.map_map, List.map_map]
  ·rfl
  ·have := p.map fun q => (q.1, valI q.2)
   refine this.trans ?_
   rw [<- ints_val hi, List.zip_map_right]
   exact List.Perm.of_eq (List.map_congr_left fun q _ => rfl)
  ·rw [List.pairwise_map]
   exact o.imp fun h => by simpa using h
 rw [e]
 refine ints_map fun v hv => ints_mem hi v ?_
 obtain ⟨q, hq, rfl⟩ := List.mem_map.mp hv
 exact (List.of_mem_zip (p.mem_iff.mp hq)).2
theorem atI_vals {xs : List V} {us : List Value} {i : Int} {v : V} (r : Vals xs us) (h : atI xs i = some v) : ∃ u, atI us i = some u /\ RelV v u := by
 unfold atI at h ⊢
 rw [<- r.length]
 cases e : ixN xs.length i with
 | none => rw [e] at h; cases h
 | some j => rw [e] at h; exact r.get h
section
variable {P : Program} {w : World} {H : Hp} {h : Heap} {a : Addr} {o : HO}
theorem ObjOk.ob (x : ObjOk P w H h a o) : ∃ u, h.get? a = some u := by
 cases o with
 | lst xs => obtain ⟨_, _, _, _, e⟩ := x; exact ⟨_, e⟩
 | tup xs => obtain ⟨_, _, _, o, e, _⟩ := x; exact ⟨_, e⟩
 | dK kvs => obtain ⟨_, _, _, _, o, _, _, e, _⟩ := x; exact ⟨_, e⟩
 | dT kvs => obtain ⟨_, _, _, _, o, _, _, e, _⟩ := x; exact ⟨_, e⟩
 | set S n => obtain ⟨o, _, _, _, e, _⟩ := x; exact ⟨_, e⟩
 | ins C dx fs => obtain ⟨_, _, _, e, _⟩ := x; exact ⟨_, e⟩
 | own y => exact x
 | xd fs => obtain ⟨_, ⟨o, _, _, e, _⟩, _⟩ := x; exact ⟨_, e⟩
 | rng lo hi => obtain ⟨_, _, _, e⟩ := x; exact ⟨_, e⟩
 | frz ob u => exact ⟨_, x.1⟩
 | tbl ps => exact ⟨_, x⟩
 | met f y => exact ⟨_, x⟩
 | ext φ => exact x.2.1
end
section
variable {X : Cx} {pins : List (Addr × Obj)} {σ : St} {H : Hp} {s : Shared} {E : Value -> Shared -> Prop}
abbrev lamQ (X : Cx) : Str := X.env.qual ++ "<lambda>"
abbrev lamE (q : Str) (cc : Addr) : HO := .ext fun h => h.CodeRec (.ref cc) q
theorem lam_make {params : Arguments} {body : Expr} {scope : Scope} {pos : Pos} {P c0 : Addr} {ps : Array Value} {clos : List (Str × Addr)} {Q : Value -> Shared -> Prop} (I : Inv X pins σ H s) (hcl : closureFor scope X.env = pure clos) (hcode : X.env.code = .ref c0)
  (hK : PySem.W.codeHdIn X.K c0 P = true) (hP : H P = some (.tbl ps)) (ht : TriplesOk ps.toList) (hbm : X.base.BuiltinsAt X.mg P) (hdef : defaultsOf params X.env = ([], []))
  (h : (∃ cc, codeAmong pos ps.toList = some (.ref cc) /\ H cc = some (lamE (lamQ X) cc) /\ ∀ f pm ctv s', X.env.locals < f -> Inv X pins σ H s' -> s'.heap.get? f = some (PySem.W.kla_obj "<lambda>" (lamQ X) params body scope clos pm cc ctv) -> s'.heap.CodeRec (.ref cc) (lamQ X) -> Q (.ref f) s') \/
   (codeAmong pos ps.toList = none /\ ∀ cc, H cc = none -> ∀ f pm ctv s', X.env.locals < f -> Inv X pins σ (upd (upd H P (.tbl (ps ++ #[rawInt pos.line, rawInt pos.col, .ref cc]))) cc (lamE (lamQ X) cc)) s' -> s'.heap.get? f = some (PySem.W.kla_obj "<lambda>" (lamQ X) params body scope clos pm cc ctv) -> s'.heap.CodeRec (.ref cc) (lamQ X) -> Q (.ref f) s')) :
  wpAny (model X.prog X.w) X.A (eval (.Lambda params body scope pos) X.env) Q E s := by
 refine PySem.W.kla_eval hdef ?_
 have C := PySem.W.codeHd_of_K I.kIn hK
 have oP : s.heap.get? P = some (PySem.W.tabObj ps) := I.hok P _ hP
 have bm : s.heap.BuiltinsAt X.mg P := by
  obtain ⟨b, o, h1, h2, h3, h4, h5, h6⟩ := hbm
  exact ⟨b, o, h1, h2, h3, h4, I.bk _ _ h5, h6⟩
 have hg : s.heap.Ns mainGlobals X.mg := I.mod.glob.keeps I.bk
 have hgP : mainGlobals ≠ P := fun q => by
  obtain ⟨o, es, ep, e, hd, _⟩ := hg
  rw [q, oP] at e; cases e; cases hd
 have lt := I.lt
 rcases h with ⟨cc, e1, e2, h⟩ | ⟨e1, h⟩
 ·refine PySem.W.kla_makeFunctionHit hcl I.ok.glob hg hcode C oP ht e1 bm fun ctv h' tk k sz => ?_
  have kk : ∀ b o, s.heap.get? b = some o -> (h'.push (PySem.W.kla_obj "<lambda>" (lamQ X) params body scope clos ((X.mg "__name__").getD .none) cc ctv)).get? b = some o := fun b o e => Heap.get?_push_of_some _ (k b o e)
  refine h h'.objs.size _ ctv _ (Nat.lt_of_lt_of_le lt sz) (I.kept (t' := tk) kk) (Heap.get?_push_size _ rfl) ?_
  obtain ⟨cr, _⟩ := I.hok cc _ e2
  obtain ⟨c, o, vs, t, q1, q2, q3⟩ := cr
  exact ⟨c, o, vs, t, q1, kk _ _ q2, q3⟩
 ·refine PySem.W.kla_makeFunction hcl I.ok.glob hg hcode C oP ht e1 hgP bm fun cc ctv h' tk hx hge hlt hrec htb => ?_
  have n1 : H cc = none := I.hok.fresh hge
  have nP : ∀ b, H b = none -> b ≠ P := fun b n z => by rw [z, hP] at n; cases n
  have kk : ∀ b o, b ≠ P -> s.heap.get? b = some o -> (h'.push (PySem.W.kla_obj "<lambda>" (lamQ X) params body scope clos ((X.mg "__name__").getD .none) cc ctv)).get? b = some o := fun b o hb e => Heap.get?_push_of_some _ (hx b o hb e)
  have cP : cc ≠ P := nP _ n1
  have rec' : (h'.push (PySem.W.kla_obj "<lambda>" (lamQ X) params body scope clos ((X.mg "__name__").getD .none) cc ctv)).CodeRec (.ref cc) (lamQ X) := by
   obtain ⟨c, o, vs, t, q1, q2, q3⟩ := hrec
   exact ⟨c, o, vs, t, q1, Heap.get?_push_of_some _ q2, q3⟩
  have nc : ∀ {b : Addr} {u : HO}, H b = some u -> b ≠ cc := fun e z => by rw [z, n1] at e; cases e
  have up : ∀ {b : Addr} {u : HO}, H b = some u -> b ≠ P -> upd (upd H P (.tbl (ps ++ #[rawInt pos.line, rawInt pos.col, .ref cc]))) cc (lamE (lamQ X) cc) b = some u := fun e hb => by rw [upd_ne (nc e), upd_ne hb]; exact e
  have I2 : Inv X pins σ (upd (upd H P (.tbl (ps ++ #[rawInt pos.line, rawInt pos.col, .ref cc]))) cc (lamE (lamQ X) cc)) { s with heap := h'.push (PySem.W.kla_obj "<lambda>" (lamQ X) params body scope clos ((X.mg "__name__").getD .none) cc ctv), toks := tk } := by
   refine I.un (t' := tk) ⟨fun b o e n _ _ => kk b o (nP b n) e, fun b o e n _ _ => ⟨o.slots, kk b o (nP b n) e⟩, fun b o e n _ => ?_, fun b o e _ => ?_, fun b xs e => up e ?_, fun b o u e => up e ?_, fun b qs e => ?_⟩ fun b u e => ?_
   ·rw [upd_ne (Nat.ne_of_lt (Nat.lt_of_lt_of_le (Heap.lt_size e) hge)), upd_ne (nP b n)]; exact n
   ·by_cases hb : b = P
    ·subst hb; exact ⟨_, Heap.get?_push_of_some _ htb⟩
    ·exact ⟨o, kk b o hb e⟩
   ·rintro rfl; rw [hP] at e; cases e
   ·rintro rfl; rw [hP] at e; cases e
   ·by_cases hb : b = P
    ·subst hb
     rw [hP] at e; cases e
     exact ⟨_, by rw [upd_ne cP.symm, upd_same]⟩
    ·exact ⟨#[], by rw [up e hb]; simp⟩
   ·by_cases hc : b = cc
    ·subst hc
     rw [upd_same] at e; cases e
     refine ⟨rec', ?_, fun h1 h2 q1 q2 => ?_⟩
     ·obtain ⟨c, o, vs, t, q1, q2, q3⟩ := rec'
      cases q1
      exact ⟨o, q2⟩
     ·obtain ⟨c, o, vs, t, q3, q4, q5⟩ := q1
      cases q3
      exact ⟨_, o, vs, t, rfl, q2 o q4, q5⟩
    ·rw [upd_ne hc] at e
     by_cases hb : b = P
     ·subst hb
      rw [upd_same] at e; cases e
      exact Heap.get?_push_of_some _ htb
     ·rw [upd_ne hb] at e
      refine (I.hok b u e).stay (fun c v q1 q2 => kk c v ?_ q2) (fun c q => up q ?_) fun c xs q => up q ?_
      ·rcases q1 with q1 | q1
       ·rw [q1]; exact hb
       ·rintro rfl; rw [hP] at q1; cases q1
      ·rintro rfl; rw [hP] at q; cases q
      ·rintro rfl; rw [hP] at q; cases q
  have sz : s.heap.objs.size <= h'.objs.size := Nat.le_trans hge (Nat.le_of_lt hlt)
  exact h cc n1 h'.objs.size _ ctv _ (Nat.lt_of_lt_of_le lt sz) I2 (Heap.get?_push_size _ rfl) rec'
theorem sort_call {y x : Str} {a : Option Expr} {pa p1 p2 p3 p4 p5 : Pos} {kk i : Nat} {c : Int} {f cc l T ca : Addr} {pm ctv : Value} {q : Str} {ns ks : List Int} {rows : List V} {Q : Value -> Shared -> Prop} (I : Inv X pins σ H s) (hr : X.A.depth < recursionLimit) (hfL : X.env.locals < f)
  (ho : s.heap.get? f = some (PySem.W.kla_obj "<lambda>" q ⟨[], [⟨x, a, pa⟩], none, [], [], none, []⟩ (.Subscript (.Subscript (.Name y p1) (.Name x p2) p3) (.Constant (.int c) kk p4) p5) ⟨.function, [(x, .local), (y, .free)], false, false, []⟩ [(y, ca)] pm cc ctv)) (hcr : s.heap.CodeRec (.ref cc) q)
  (hxy : x ≠ y) (dx : (x == ("__debug__" : Str)) = false) (dy : (y == ("__debug__" : Str)) = false) (cy : (y == ("__classdict__" : Str)) = false)
  (sq : SqL X.K H l (ns.map V.int)) (hn : ns.length <= 62) (hl : ks.length = ns.length) (nd : ks.Nodup)
  (hN : X.N[i]? = some y) (hv : X.env.kindOf y = some .cell) (hca : X.env.cells.lookup y = some ca) (hσ : σ[i]? = some (some (.ref T))) (hT : SqT X.K H T rows)
  (hrow : ∀ (j : Nat) n k, ns[j]? = some n -> ks[j]? = some k -> ∃ R cols, atI rows n = some (.ref R) /\ SqT X.K H R cols /\ atI cols c = some (.int k))
  (h : ∀ b, H b = none -> ∀ s', Inv X pins σ (upd H b (.lst ((srtK ks ns).map V.int))) s' -> Q (.ref b) s') :
  wpAny (model X.prog X.w) X.A (call (.builtin "sorted") [.ref l] [(Str.ofString "key", .ref f)]) Q E s := by
 obtain ⟨m, F⟩ := I.fr
 obtain ⟨its, rv, pl, hz⟩ := I.list sq
 have hi : IntsAre its ns := ints_of rv
 have hlen : its.length = ns.length := by have := rv.length; rw [List.length_map] at this; exact this.symm
 have noL : ∀ {t : Addr} {xs : Array Value}, IsTup s.heap t xs -> t ≠ X.env.locals := fun {t xs} ⟨o, e, _, n, d⟩ z => by
  obtain ⟨o', es, ep, e', d', _⟩ := F.ns
  rw [z, e'] at e; cases e
  rw [d] at d'; cases d'
 have hcaT : s.heap.IsCell ca (some (.ref T)) := by
  obtain ⟨m', _, hl'⟩ := I.loc
  obtain ⟨u, ru, lk⟩ := hl' i y _ hN hσ (.inr (.inl hv))
  cases ru
  rcases lk with ⟨q1, _⟩ | ⟨_, c2, q2, q3⟩
  ·rw [hv] at q1; cases q1
  ·rw [hca] at q2; cases q2; exact q3
 have caL := I.cne y ca hca
 obtain ⟨tI, rT, pT, zT⟩ := I.tuple hT
 refine ksk_sorted (kz := ks) (f := .ref f) (b := false) (news := restOf X.base s.heap X.env.locals) F rest_news pl.isList (by rw [hl, hlen]) (by omega) (ksk_s1 _ _) (fun _ => ksk_l1 _ _) (fun x => ksk_t1 f x) (fun j v k ev ek h1 tk own F1 N1 => ?_) fun D h1 tk out c1 F1 N1 hD ko => ?_
 ·have kp := fun b o hb e => rest_all F F1 N1 (fun p hp => List.mem_append_left _ hp) b o hb e
  obtain ⟨n, en⟩ : ∃ n, ns[j]? = some n := ⟨_, List.getElem?_eq_getElem (by rw [<- hlen]; exact (List.getElem?_eq_some_iff.mp ev).1)⟩
  obtain ⟨R, cols, r1, r2, r3⟩ := hrow j n k en ek
  obtain ⟨t0, rfl⟩ : ∃ t0, v = .int n t0 := by
   obtain ⟨u, eu, t0, rfl⟩ := rv.get (i := j) (x := V.int n) (by rw [List.getElem?_map, en]; rfl)
   rw [ev] at eu; cases eu
   exact ⟨t0, rfl⟩
  obtain ⟨cI, rR, pR, zR⟩ := I.tuple r2
  obtain ⟨u1, e1, ru1⟩ := atI_vals rT r1
  cases ru1
  obtain ⟨u2, e2, tz, rfl⟩ := atI_vals rR r3
  have kt : ∀ {t : Addr} {xs : Array Value}, IsTup s.heap t xs -> IsTup h1 t xs := fun {t xs} p => by
   have ne := noL p
   obtain ⟨o, e, r⟩ := p
   exact ⟨o, kp _ _ ne e, r⟩
  have crL : h1.CodeRec (.ref cc) q := by
   obtain ⟨c3, o, vs, t, q1, q2, q3, q4⟩ := hcr
   refine ⟨c3, o, vs, t, q1, kp _ _ (fun z => ?_) q2, q3, q4⟩
   obtain ⟨o', es, ep, e', d', _⟩ := F.ns
   rw [z, e'] at q2; cases q2
   rw [q3] at d'; cases d'
  have ctL : h1.IsCell ca (some (.ref T)) := by
   obtain ⟨o, e, r⟩ := hcaT
   exact ⟨o, kp _ _ caL e, r⟩
  refine lam_call (s := { s with heap := h1, toks := tk }) (rows := tI) (cols := cI) (by exact hr) (I.ok.mod.nolimit.keeps F1.keep) (kp _ _ (Nat.ne_of_gt hfL) ho) crL (fun fd e1 e2 e3 u => lam_bind fd e1 e2 e3 u) rfl rfl rfl (by simp) (by simp) (by simp [List.lookup, beq_eq_false_iff_ne.mpr (Ne.symm hxy)]) (by simp) ctL dx dy cy (kt pT) (by rw [<- rT.length]; exact zT) e1 (kt pR) (by rw [<- rR.length]; exact zR) e2 fun h2 tk2 k2 => ?_
  exact ⟨h2, tk2, tz, rfl, rfl, F1.kept k2, N1.grown k2⟩
 ·have kp := fun b o hb e => rest_all F F1 N1 (fun p hp => List.mem_cons_of_mem _ hp) b o hb e
  have nf := N1 _ (List.mem_cons_self ..)
  have fD : f < D := by
   refine hD (f, _) (rest_mem.mpr ⟨ho, Nat.ne_of_gt hfL, ?_⟩)
   exact Heap.get?_none_of_le (Nat.le_trans F.above (Nat.le_of_lt hfL))
  have lD : ∀ b o, s.heap.get? b = some o -> b < D := fun b o e => by
   by_cases hb : b = X.env.locals
   ·rw [hb]; exact Nat.lt_trans hfL fD
   ·cases qb : X.base.get? b with
    | none => exact hD (b, o) (rest_mem.mpr ⟨e, hb, qb⟩)
    | some o' => exact Nat.lt_trans (Nat.lt_of_lt_of_le (Heap.lt_size qb) F.above) (Nat.lt_trans hfL fD)
  have HD : H D = none := by
   cases e : H D with
   | none => rfl
   | some u =>
    obtain ⟨o, eo⟩ := (I.hok D u e).ob
    exact absurd (lD D o eo) (Nat.lt_irrefl _)
  have nHL : ∀ {b : Addr} {u : HO}, H b = some u -> b ≠ X.env.locals := fun e z => by rw [z, I.free] at e; cases e
  have hs3 : (srtK ks ns).length <= sizeLine := by rw [(srtK_perm hl).length_eq, sizeLine_eq]; omega
  refine h D HD _ (I.step (g' := s.gens) (d' := s.drawn) (t' := tk) (ch := []) (fun _ z => nomatch z) (fun b o hb _ _ e _ => kp b o hb e) (fun b o hb _ _ e _ => ⟨o.slots, kp b o hb e⟩) (fun b o _ e n => ?_) (fun b o _ e => ?_) (fun b xs e => ?_) (fun b o u e => ?_) (fun b qs e => ?_) (fun m' hm' => ?_) (fun b u e => ?_) I.bare)
  ·rw [upd_ne (Nat.ne_of_lt (lD b o e))]; exact n
  ·by_cases hb : b = X.env.locals
   ·obtain ⟨o', es, ep, e', _⟩ := F1.ns
    rw [hb]; exact ⟨o', e'⟩
   ·exact ⟨o, kp b o hb e⟩
  ·rw [upd_ne (ne_of_none e HD)]; exact e
  ·rw [upd_ne (ne_of_none e HD)]; exact e
  ·exact ⟨#[], by rw [upd_ne (ne_of_none e HD), e]; simp⟩
  ·have : m' = m := hm'.eq_nsMap.trans F.ns.eq_nsMap.symm
   rw [this]; exact F1.ns
  ·by_cases hb : b = D
   ·subst hb
    rw [upd_same] at e; cases e
    exact lst_new (X := X) (out_ints hi (by rw [hl]) nd ko) hs3 (by rw [Array.toArray_toList]; exact nf.1)
   ·rw [upd_ne hb] at e
    refine (I.hok b u e).stay (fun c2 v q1 q2 => kp c2 v ?_ q2) (fun c2 q1 => ?_) fun c2 xs q1 => ?_
    ·rcases q1 with q1 | q1
     ·rw [q1]; exact nHL e
     ·exact nHL q1
    ·rw [upd_ne (ne_of_none q1 HD)]; exact q1
    ·rw [upd_ne (ne_of_none q1 HD)]; exact q1
end
end L2
namespace L2
open PySem PySem.Spec PyProof.Rows ST
section
variable {X : Cx}
def lamOf (x y : Str) (a : Option Expr) (c : Int) (pa p1 p2 p3 p4 p5 lp : Pos) (kk : Nat) : Expr :=
 .Lambda ⟨[], [⟨x, a, pa⟩], none, [], [], none, []⟩ (.Subscript (.Subscript (.Name y p1) (.Name x p2) p3) (.Constant (.int c) kk p4) p5) ⟨.function, [(x, .local), (y, .free)], false, false, []⟩ lp
def tSK (K : PySem.W.Frag) (t : TA) (i : Nat) (c : Int) (P : Addr) (lp : Pos) (q : Str) : TE := fun σ H Q => t σ H fun vs H1 => ∃ l ns ks T rows ps, vs = [.ref l] /\ SqL K H1 l (ns.map V.int) /\ ns.length <= 62 /\ ks.length = ns.length /\ ks.Nodup /\ σ[i]? = some (some (.ref T)) /\ SqT K H1 T rows /\
 (∀ (j : Nat) n k, ns[j]? = some n -> ks[j]? = some k -> ∃ R cols, atI rows n = some (.ref R) /\ SqT K H1 R cols /\ atI cols c = some (.int k)) /\ H1 P = some (.tbl ps) /\ TriplesOk ps.toList /\
 ((∃ cc, codeAmong lp ps.toList = some (.ref cc) /\ H1 cc = some (lamE q cc) /\ ∀ b, H1 b = none -> Q (.ref b) (upd H1 b (.lst ((srtK ks ns).map V.int)))) \/
  (codeAmong lp ps.toList = none /\ ∀ cc, H1 cc = none -> ∀ b, upd (upd H1 P (.tbl (ps ++ #[rawInt lp.line, rawInt lp.col, .ref cc]))) cc (lamE q cc) b = none ->
   Q (.ref b) (upd (upd (upd H1 P (.tbl (ps ++ #[rawInt lp.line, rawInt lp.col, .ref cc]))) cc (lamE q cc)) b (.lst ((srtK ks ns).map V.int)))))
theorem pe_sortk {e : Expr} {t : TA} {p pos kp pa p1 p2 p3 p4 p5 lp : Pos} {x y : Str} {a : Option Expr} {c : Int} {kk i : Nat} {P c0 : Addr} (hg : Gl X "sorted") (hm : X.mg "sorted" = none) (ha : PA X [e] t) (hs : starEach [e] X.env = [(false, eval e X.env)]) (hr : X.A.depth < recursionLimit)
  (hcode : X.env.code = .ref c0) (hK : PySem.W.codeHdIn X.K c0 P = true) (hbm : X.base.BuiltinsAt X.mg P) (hN : X.N[i]? = some y) (hv : X.env.kindOf y = some .cell)
  (hxy : x ≠ y) (dx : (x == ("__debug__" : Str)) = false) (dy : (y == ("__debug__" : Str)) = false) (cy : (y == ("__classdict__" : Str)) = false) :
  PE X (.Call (.Name "sorted" p) [e] [⟨some "key", lamOf x y a c pa p1 p2 p3 p4 p5 lp kk, kp⟩] pos) (tSK X.K t i c P lp (lamQ X)) := by
 intro pins s σ H Q I h
 refine wpAny_Call_Name_kw (ld_blt (u := .builtin "sorted") I hg hm (by decide +kernel) ?_ (by decide) (by decide))
 refine callWith_kw (e := e) (rest := []) ?_ (by rw [hs]; rfl) (by rw [hs]; rfl) (by rfl) (by rfl)
 refine thn (ha pos pins s σ H _ I h) fun us s1 ⟨vs, H1, I1, r1, l, ns, ks, T, rows, ps, e1, sq, hn, hl, nd, hσ, hT, hrow, hP, ht, q⟩ => ?_
 subst e1
 obtain ⟨u, rfl, ru⟩ := vals1 r1
 cases ru
 obtain ⟨ca, hca⟩ := I.ok.has y (.inl hv)
 show wpAny _ _ (evalAll [(do let v <- eval (lamOf x y a c pa p1 p2 p3 p4 p5 lp kk) X.env; standAt pos; pure v)]) _ _ s1
 refine evalAll_cons (wpAny_bind ?_)
 unfold lamOf
 refine lam_make (pos := lp) I1 (lam_clos hca) hcode hK hP ht hbm rfl ?_
 rcases q with ⟨cc, q1, q2, q⟩ | ⟨q1, q⟩
 ·refine .inl ⟨cc, q1, q2, fun f pm ctv s2 hf I2 o2 r2 => wpAny_bind (wpAny_standAt (wpAny_pure (evalAll_nil ?_)))⟩
  show wpAny _ _ (call (.builtin "sorted") [.ref l] [(Str.ofString "key", .ref f)]) _ _ s2
  exact sort_call I2 hr hf o2 r2 hxy dx dy cy sq hn hl nd hN hv hca hσ hT hrow fun b hb s3 I3 => ⟨.ref b, _, I3, rfl, q b hb⟩
 ·refine .inr ⟨q1, fun cc hcc f pm ctv s2 hf I2 o2 r2 => wpAny_bind (wpAny_standAt (wpAny_pure (evalAll_nil ?_)))⟩
  show wpAny _ _ (call (.builtin "sorted") [.ref l] [(Str.ofString "key", .ref f)]) _ _ s2
  have up : ∀ {b : Addr} {u : HO}, H1 b = some u -> b ≠ P -> upd (upd H1 P (.tbl (ps ++ #[rawInt lp.line, rawInt lp.col, .ref cc]))) cc (lamE (lamQ X) cc) b = some u := fun {b u} e hb => by
   rw [upd_ne (fun z => by rw [z, hcc] at e; cases e), upd_ne hb]; exact e
  have upL : ∀ {b : Addr} {xs : List V}, SqL X.K H1 b xs -> SqL X.K (upd (upd H1 P (.tbl (ps ++ #[rawInt lp.line, rawInt lp.col, .ref cc]))) cc (lamE (lamQ X) cc)) b xs := fun {b xs} z => by
   rcases z with (z | ⟨o, z⟩) | z
   ·exact .inl (.inl (up z (fun w => by rw [w, hP] at z; cases z)))
   ·exact .inl (.inr ⟨o, up z (fun w => by rw [w, hP] at z; cases z)⟩)
   ·exact .inr z
  have upT : ∀ {b : Addr} {xs : List V}, SqT X.K H1 b xs -> SqT X.K (upd (upd H1 P (.tbl (ps ++ #[rawInt lp.line, rawInt lp.col, .ref cc]))) cc (lamE (lamQ X) cc)) b xs := fun {b xs} z => by
   rcases z with (z | ⟨o, z⟩) | z
   ·exact .inl (.inl (up z (fun w => by rw [w, hP] at z; cases z)))
   ·exact .inl (.inr ⟨o, up z (fun w => by rw [w, hP] at z; cases z)⟩)
   ·exact .inr z
  exact sort_call I2 hr hf o2 r2 hxy dx dy cy (upL sq) hn hl nd hN hv hca hσ (upT hT) (fun j n k e1 e2 => by
   obtain ⟨R, cols, a1, a2, a3⟩ := hrow j n k e1 e2
   exact ⟨R, cols, a1, upT a2, a3⟩) fun b hb s3 I3 => ⟨.ref b, _, I3, rfl, q cc hcc b hb⟩
end
end L2
namespace DL
open PySem PySem.Spec PyProof.Rows L2 ST
def keysD (rows : List PyData) (c : Int) : List Int -> Option (List Int)
 | [] => some []
 | n :: r => (match atI rows n with
  | some (.tuple cols) => (match atI cols c with
   | some (.int k) => (keysD rows c r).map (k :: ·)
   | _ => none)
  | _ => none)
theorem keysD_len {rows : List PyData} {c : Int} : ∀ {ns ks : List Int}, keysD rows c ns = some ks -> ks.length = ns.length
 | [], ks, h => by cases h; rfl
 | n :: r, ks, h => by
  unfold keysD at h
  split at h
  ·split at h
   ·obtain ⟨z, e, rfl⟩ := Option.map_eq_some_iff.mp h
    rw [List.length_cons, List.length_cons, keysD_len e]
   ·cases h
  ·cases h
theorem keysD_get {rows : List PyData} {c : Int} : ∀ {ns ks : List Int}, keysD rows c ns = some ks -> ∀ (j : Nat) n k, ns[j]? = some n -> ks[j]? = some k -> ∃ cols, atI rows n = some (.tuple cols) /\ atI cols c = some (.int k)
 | [], ks, h, j, n, k, e1, e2 => by simp at e1
 | m :: r, ks, h, j, n, k, e1, e2 => by
  unfold keysD at h
  split at h
  ·rename_i cols q1
   split at h
   ·rename_i k0 q2
    obtain ⟨z, e, rfl⟩ := Option.map_eq_some_iff.mp h
    cases j with
    | zero => simp at e1 e2; subst e1 e2; exact ⟨cols, q1, q2⟩
    | succ j => simp at e1 e2; exact keysD_get e j n k e1 e2
   ·cases h
  ·cases h
theorem triples_snoc {c : Value} {i j : Int} {t u : Tok} : ∀ (l : List Value), TriplesOk l -> TriplesOk (l ++ [.int i t, .int j u, c])
 | [], _ => trivial
 | .int _ _ :: .int _ _ :: _ :: rest, h => triples_snoc rest h
def dSK (t : DTA) (i : Nat) (c : Int) (P : Addr) (lp : Pos) (q : Str) : DTE := fun δ h Q => t δ h fun ws h1 => ∃ w xs ns ks rows, ws = [w] /\ ref h1 w = some (.list xs) /\ intsD xs = some ns /\ ns.length <= 62 /\ δ[i]? = some (some (.d (.tuple rows))) /\ keysD rows c ns = some ks /\ ks.Nodup /\
 h1[0]? = some (.t P lp q) /\ Q (.d (.list ((srtK ks ns).map .int))) h1
theorem upd_comm {H : Hp} {a b : Addr} {o u : HO} (h : a ≠ b) : upd (upd H a o) b u = upd (upd H b u) a o := by
 funext c
 by_cases h1 : c = a
 ·subst h1; rw [upd_ne h, upd_same, upd_same]
 ·by_cases h2 : c = b
  ·subst h2; rw [upd_same, upd_ne h1, upd_same]
  ·rw [upd_ne h2, upd_ne h1, upd_ne h1, upd_ne h2]
section
variable {X : Cx}
theorem de_sortk {e : Expr} {t : DTA} {p pos kp pa p1 p2 p3 p4 p5 lp : Pos} {x y : Str} {a : Option Expr} {c : Int} {kk i : Nat} {P c0 : Addr} (hg : Gl X "sorted") (hm : X.mg "sorted" = none) (ha : DA X [e] t) (hs : starEach [e] X.env = [(false, eval e X.env)]) (hr : X.A.depth < recursionLimit)
  (hcode : X.env.code = .ref c0) (hK : PySem.W.codeHdIn X.K c0 P = true) (hbm : X.base.BuiltinsAt X.mg P) (hN : X.N[i]? = some y) (hv : X.env.kindOf y = some .cell)
  (hxy : x ≠ y) (dx : (x == ("__debug__" : Str)) = false) (dy : (y == ("__debug__" : Str)) = false) (cy : (y == ("__classdict__" : Str)) = false) :
  DE X (.Call (.Name "sorted" p) [e] [⟨some "key", lamOf x y a c pa p1 p2 p3 p4 p5 lp kk, kp⟩] pos) (dSK t i c P lp (lamQ X)) := pe_mono (pe_sortk hg hm ha hs hr hcode hK hbm hN hv hxy dx dy cy) fun σ H Q q => by
 obtain ⟨δ, h, A, μ, k, R, q, c1⟩ := q
 refine ⟨δ, h, A, μ, _, R, q, fun ws h1 vs H1 A1 μ1 q1 x1 R1 r1 => ?_⟩
 obtain ⟨w, xs, ns, ks, rows, rfl, er, en, hl, eδ, ek, nd, et, q1⟩ := q1
 obtain ⟨v, rfl, rv⟩ := repWs1 r1
 obtain ⟨l, vs, rfl, sq, rs⟩ := ref_list R1 rv er
 have ev := ints_reps en rs
 subst ev
 obtain ⟨v, eσ, rT⟩ := (R.2.ext x1 R.1.sub).val i _ eδ
 obtain ⟨T, rv2, rfl, sT, rr⟩ := ref_tuple (h := h1) rT rfl
 obtain ⟨a0, ea⟩ : ∃ a0, μ1[0]? = some a0 := ⟨_, List.getElem?_eq_getElem (by rw [R1.len]; exact (List.getElem?_eq_some_iff.mp et).1)⟩
 obtain ⟨rfl, ps, hP, ht, hh⟩ := R1.cel 0 a0 _ ea et
 have aA : a0 ∈ A1 := R1.sub _ (List.mem_of_getElem? ea)
 refine ⟨l, ns, ks, T, rv2, ps, rfl, sq, hl, keysD_len ek, nd, eσ, sT.sq, fun j n k e1 e2 => ?_, hP, ht, ?_⟩
 ·obtain ⟨cols, a1, a2⟩ := keysD_get ek j n k e1 e2
  obtain ⟨v1, b1, b2⟩ := atI_reps rr a1
  obtain ⟨R2, vs2, rfl, s2, r2⟩ := ref_tuple (μ := μ1) (h := h1) (w := .d (.tuple cols)) b2 rfl
  obtain ⟨v3, b3, b4⟩ := atI_reps r2 a2
  rw [Rep] at b4
  subst b4
  exact ⟨R2, vs2, b1, s2.sq, b3⟩
 ·rcases hh with e0 | ⟨cc, e1, e2, e3⟩
  ·refine .inr ⟨e0, fun cc hcc b hb => ?_⟩
   have ne : cc ≠ a0 := fun z => by rw [z, hP] at hcc; cases hcc
   rw [upd_comm ne.symm] at hb ⊢
   have R2 : HeapRep X.K A1 μ1 h1 (upd H1 cc (lamE (lamQ X) cc)) := R1.fresh hcc
   have R3 : HeapRep X.K A1 μ1 (h1.set 0 (.t a0 lp (lamQ X))) (upd (upd H1 cc (lamE (lamQ X) cc)) a0 (.tbl (ps ++ #[rawInt lp.line, rawInt lp.col, .ref cc]))) := by
    refine heap_writeC R2 ea ⟨rfl, _, upd_same, ?_, .inr ⟨cc, ?_, R1.notA hcc, ?_⟩⟩
    ·rw [Array.toList_append]; exact triples_snoc _ ht
    ·rw [Array.toList_append]; exact codeAmong_snoc _ ht e0
    ·rw [upd_ne ne, upd_same]
   have e4 : h1.set 0 (.t a0 lp (lamQ X)) = h1 := by
    obtain ⟨h0, e5⟩ := List.getElem?_eq_some_iff.mp et
    rw [<- e5, List.set_getElem_self]
   rw [e4] at R3
   have x3 : Ext A1 A1 μ1 μ1 H1 (upd (upd H1 cc (lamE (lamQ X) cc)) a0 (.tbl (ps ++ #[rawInt lp.line, rawInt lp.col, .ref cc]))) :=
    (ext_fresh hcc).trans (ext_write (List.mem_of_getElem? ea) (o0 := .tbl ps) (by rw [upd_ne ne.symm]; exact hP))
   exact c1 _ h1 _ _ A1 μ1 q1 ((x1.trans x3).trans (ext_fresh hb)) (R3.fresh hb) (rep_list R3 hb (reps_ints _))
  ·exact .inl ⟨cc, e1, e3, fun b hb => c1 _ h1 _ _ A1 μ1 q1 (x1.trans (ext_fresh hb)) (R1.fresh hb) (rep_list R1 hb (reps_ints _))⟩
end
end DL
namespace L2
open PySem PySem.Spec PyProof.Rows ST
section
variable {X : Cx}
def mxI (ns : List Int) : Int := ns.getD (argBest (fun i j => decide (ns.getD i 0 > ns.getD j 0)) (ns.length - 1)) 0
theorem mxI_ge {ns : List Int} {n : Int} (h : n ∈ ns) : n <= mxI ns := by
 obtain ⟨i, hi, rfl⟩ := List.mem_iff_getElem.mp h
 have := (argBest_gt (fun i => ns.getD i 0) (ns.length - 1)).2 i (by omega)
 simpa [mxI, List.getD_eq_getElem?_getD, hi] using this
theorem call_maxI (hc : X.calm = true) : CallR X (.builtin "max") (fun xs H Q => ∃ (p : Addr) (ns : List Int), xs = [.ref p] /\ SqL X.K H p (ns.map V.int) /\ ns ≠ [] /\ Q (.int (mxI ns)) H) := by
 intro pins s σ H xs us Q I r h
 obtain ⟨p, ns, rfl, sq, hne, q⟩ := h
 obtain ⟨u, rfl, ru⟩ := vals1 r
 cases ru
 obtain ⟨its, rv, pl, hz⟩ := I.list sq
 have hl := rv.length
 rw [List.length_map] at hl
 have hp : 0 < ns.length := List.length_pos_iff.mpr hne
 have hlt : p < s.heap.objs.size := by obtain ⟨o, n, e, _⟩ := pl; exact Heap.lt_size e
 have hval : ∀ (i : Nat) (v : Value), its.toArray[i]? = some v -> ∃ t, v = Value.int (ns.getD i 0) t := fun i v hP => by
  have hP' : its[i]? = some v := by simpa using hP
  have hi : i < its.length := (List.getElem?_eq_some_iff.mp hP').1
  have eb : ns[i]? = some (ns[i]'(by omega)) := by simp
  obtain ⟨u', e1, t, e2⟩ := rv.get (i := i) (x := V.int (ns[i]'(by omega))) (by rw [List.getElem?_map, eb]; rfl)
  rw [hP'] at e1
  cases e1
  exact ⟨t, by rw [List.getD_eq_getElem?_getD, eb]; exact e2⟩
 refine call_max_walk (wpAny_pyIter_list pl.isList ⟨s.heap.objs.size, _, _, its.toArray.size, _, _, fun i j => decide (ns.getD i 0 > ns.getD j 0), rfl, Walks.list (A := X.A.in1) (I.ok.hd hc) s.heap.objs.size p (Nat.ne_of_lt hlt) its.toArray, ⟨⟨_, Heap.get?_push_size _ rfl, rfl, rfl⟩, ?_⟩, ?_, ?_, CmpOf.ints_gt (fun i => ns.getD i 0) fun i v hP => hval i v hP, fun v h' tk hP hk => ?_⟩)
 ·obtain ⟨o, ho, r⟩ := pl.isList
  exact ⟨o, Heap.get?_push_of_some _ ho, r⟩
 ·intro b hb
  simp only [List.mem_cons, List.not_mem_nil, or_false] at hb
  rcases hb with rfl | rfl
  ·rw [Heap.size_push]; exact Nat.lt_succ_self _
  ·rw [Heap.size_push]; exact Nat.lt_succ_of_lt hlt
 ·simp; omega
 ·obtain ⟨t, rfl⟩ := hval _ _ hP
  refine ⟨.int (mxI ns), H, I.kept fun b o eo => hk b o ?_ (Heap.get?_push_of_some _ eo), ⟨t, ?_⟩, q⟩
  ·intro z
   rw [List.mem_singleton.mp z] at eo
   exact absurd (Heap.lt_size eo) (Nat.lt_irrefl _)
  ·unfold mxI
   rw [List.size_toArray, <- hl]
theorem call_sortI : CallR X (.builtin "sorted") (fun xs H Q => ∃ (p : Addr) (ns : List Int), xs = [.ref p] /\ SqL X.K H p (ns.map V.int) /\ ns.length <= 62 /\ ∀ b, H b = none -> Q (.ref b) (upd H b (.lst ((srt ns).map V.int)))) := by
 intro pins s σ H xs us Q I r h
 obtain ⟨p, ns, rfl, sq, hn, q⟩ := h
 obtain ⟨u, rfl, ru⟩ := vals1 r
 cases ru
 obtain ⟨its, rv, pl, hz⟩ := I.list sq
 have hl := rv.length
 rw [List.length_map] at hl
 refine sorted_by (ks := ns) (n := its.length) (by omega) (fun R hR => collect_list pl.isList ?_ (by rw [sizeLine_eq]; omega)) fun b vs' ns' c h3 dr tk3 hi hp ho sz hb k3 => ?_
 ·refine hR its ns _ s.drawn s.toks (ints_of rv) rfl (.refl _) ?_ fun b o e => ?_
  ·rw [Heap.size_update, Heap.size_push]; exact Nat.le_succ _
  ·have hlt : b < s.heap.objs.size := Heap.lt_size e
   rw [Heap.get?_update_ne _ _ _ _ (Nat.ne_of_lt hlt)]
   exact Heap.get?_push_of_some _ e
 ·have e2 := srt_only hp ho
  subst e2
  have hz3 : (srt ns).length <= sizeLine := by
   have e3 := (srt_perm ns).length_eq
   rw [sizeLine_eq]; omega
  have I3 : Inv X pins σ (upd H b (.lst ((srt ns).map V.int))) { s with heap := h3, drawn := dr, toks := tk3 } :=
   Inv.drw (d := dr) (I.laid (t' := tk3) k3 sz (lst_new hi hz3 hb))
  exact ⟨.ref b, _, I3, rfl, q b (I.hok.fresh sz)⟩
end
end L2
namespace DL
open PySem PySem.Spec PyProof.Rows L2 ST
section
variable {X : Cx}
def xMax : List W -> Cells -> Option (W × Cells)
 | [w], h => (match ref h w with
  | some (.list xs) => (match intsD xs with
   | some ns => if ns ≠ [] then some (.d (.int (mxI ns)), h) else none
   | none => none)
  | _ => none)
 | _, _ => none
theorem call_dMax (hc : X.calm = true) : CallR X (.builtin "max") (upC X.K (OfX xMax)) := by
 intro pins s σ H xs us Q I r h
 obtain ⟨ws, h, A, μ, k, R, rw', ⟨rr, h', e, q⟩, c⟩ := h
 unfold xMax at e
 split at e
 ·rename_i w h0
  obtain ⟨v, rfl, rv⟩ := repWs1 rw'
  split at e
  ·rename_i ys ey
   split at e
   ·rename_i ns en
    split at e
    ·rename_i hne
     cases e
     obtain ⟨p, vs, rfl, sq, rr⟩ := ref_list R rv ey
     have ev := ints_reps en rr
     subst ev
     exact call_maxI hc pins s σ H _ us Q I r ⟨p, ns, rfl, sq, hne, c _ _ _ _ _ _ q .refl R (by show Rep _ _ _ _ _; rw [Rep])⟩
    ·cases e
   ·cases e
  ·cases e
 ·cases e
def xSrtI : List W -> Cells -> Option (W × Cells)
 | [w], h => (match ref h w with
  | some (.list xs) => (match intsD xs with
   | some ns => if ns.length <= 62 then some (.d (.list ((srt ns).map .int)), h) else none
   | none => none)
  | _ => none)
 | _, _ => none
theorem call_dSrtI : CallR X (.builtin "sorted") (upC X.K (OfX xSrtI)) := by
 intro pins s σ H xs us Q I r h
 obtain ⟨ws, h, A, μ, k, R, rw', ⟨rr, h', e, q⟩, c⟩ := h
 unfold xSrtI at e
 split at e
 ·rename_i w h0
  obtain ⟨v, rfl, rv⟩ := repWs1 rw'
  split at e
  ·rename_i ys ey
   split at e
   ·rename_i ns en
    split at e
    ·rename_i hne
     cases e
     obtain ⟨p, vs, rfl, sq, rr⟩ := ref_list R rv ey
     have ev := ints_reps en rr
     subst ev
     exact call_sortI pins s σ H _ us Q I r ⟨p, ns, rfl, sq, hne, fun b hb => c _ _ _ _ _ _ q (ext_fresh hb) (R.fresh hb) (rep_list R hb (reps_ints _))⟩
    ·cases e
   ·cases e
  ·cases e
 ·cases e
def dropD (kvs : List (PyData × PyData)) (k : Key) : List (PyData × PyData) := kvs.filter fun p => decide (keyD p.1 ≠ some k)
theorem repKs_drop {K : PySem.W.Frag} {A : List Addr} {H : Hp} {k : Key} : ∀ {kvs : List (PyData × PyData)} {r : List (Key × V)}, RepKs K A H kvs r -> RepKs K A H (dropD kvs k) (dropK r k)
 | [], r, h => by rw [repKs_nil.mp h]; exact repKs_nil.mpr rfl
 | p :: kvs, r, h => by
  obtain ⟨q, r', rfl, h1, h2⟩ := repKs_cons.mp h
  unfold dropD dropK
  by_cases e : q.1 = k
  ·rw [List.filter_cons_of_neg (by simp [h1.1, e]), List.filter_cons_of_neg (by simp [e])]
   exact repKs_drop h2
  ·rw [List.filter_cons_of_pos (by simp [h1.1, e]), List.filter_cons_of_pos (by simp [e])]
   exact repKs_cons.mpr ⟨q, _, rfl, h1, repKs_drop h2⟩
theorem repKs_val {K : PySem.W.Frag} {A : List Addr} {H : Hp} {k : Key} {p : PyData × PyData} : ∀ {kvs : List (PyData × PyData)} {r : List (Key × V)}, RepKs K A H kvs r -> (kvs.find? fun p => decide (keyD p.1 = some k)) = some p -> ∃ v, valV r k = some v /\ Rep K A H p.2 v
 | [], r, h, e => by cases e
 | p0 :: kvs, r, h, e => by
  obtain ⟨q, r', rfl, h1, h2⟩ := repKs_cons.mp h
  by_cases e1 : q.1 = k
  ·rw [List.find?_cons_of_pos (by simp [h1.1, e1])] at e
   cases e
   exact ⟨_, valV_pos e1, h1.2⟩
  ·rw [List.find?_cons_of_neg (by simp [h1.1, e1])] at e
   obtain ⟨v, q1, q2⟩ := repKs_val h2 e
   exact ⟨v, by rw [valV_neg e1]; exact q1, q2⟩
def dDPop (to ti : DTE) : DTE := fun δ h Q => to δ h fun o h1 => match o with
 | .c j => (match h1[j]? with
  | some (.k _) => ti δ h1 fun w h2 => (match w, h2[j]? with
   | .d y, some (.k kvs) => ∃ k p, keyD y = some k /\ (kvs.find? fun p => decide (keyD p.1 = some k)) = some p /\ Q (.d p.2) (h2.set j (.k (dropD kvs k)))
   | _, _ => False)
  | _ => False)
 | _ => False
theorem de_dpop {o e0 : Expr} {to ti : DTE} {apos cpos : Pos} (ho : DE X o to) (ha : DE X e0 ti)
  (hbase : attributeBase o "pop" X.env (eval o X.env) = eval o X.env := by rfl)
  (hfew : ((backTo cpos (starEach [e0] X.env)).all (fun x => !x.1) && (backToKw cpos (keywordEach [] X.env)).all (fun x => x.1.isSome)
   && decide (([e0] : List Expr).length + ([] : List Keyword).length + (if ([] : List Keyword).isEmpty then 0 else 1) < 30)) = true := by rfl)
  (hline : (apos.endLine == cpos.line) = true := by rfl) (hs : starEach [e0] X.env = [(false, eval e0 X.env)] := by rfl) :
  DE X (.Call (.Attribute o "pop" apos) [e0] [] cpos) (dDPop to ti) := pe_mono (pe_dpop1 ho ha ⟨hbase, hfew, hline, by rw [hs]; rfl⟩) fun σ H Q q => by
 obtain ⟨δ, h, A, μ, k, R, q, c⟩ := q
 refine ⟨δ, h, A, μ, _, R, q, fun o h1 vo H1 A1 μ1 q1 x1 R1 r1 => ?_⟩
 split at q1
 ·rename_i j
  obtain ⟨a, ea, rfl⟩ := r1
  split at q1
  rotate_left
  ·exact q1.elim
  rename_i kvs1 ex1
  obtain ⟨vs1, hv1, _⟩ := R1.vad j a kvs1 ea ex1
  refine ⟨a, rfl, ?_, δ, h1, A1, μ1, _, ⟨R1, R.2.ext x1 R.1.sub⟩, q1, fun w h2 v H2 A2 μ2 q2 x2 R2 r2 => ?_⟩
  ·exact .inl ⟨_, .inl hv1⟩
  split at q2
  ·rename_i y kvs ex
   obtain ⟨kq, p, e1, e2, q2⟩ := q2
   have ea2 : μ2[j]? = some a := by
    obtain ⟨ν, e1, _⟩ := x2.pre
    rw [e1, List.getElem?_append_left (List.getElem?_eq_some_iff.mp ea).1]
    exact ea
   obtain ⟨vs, hv, rr⟩ := R2.vad j a kvs ea2 ex
   obtain ⟨z, ez, rz⟩ := repKs_val rr e2
   have hm := List.mem_of_getElem? ea2
   refine ⟨vs, kq, z, hv, rep_key (K := X.K) (A := A2) (H := H2) r2 e1, ez, ?_⟩
   exact c _ _ _ _ A2 μ2 q2 ((x1.trans x2).trans (ext_write hm hv)) (heap_writeK R2 ea2 (repKs_drop rr)) (rz.upd (R2.sub a hm))
  ·exact q2.elim
 ·exact q1.elim
end
end DL
namespace CI
open PySem PySem.Spec PyProof.Rows L2 DL ST
abbrev XR (α : Type) := DSt -> Cells -> Option (α × Cells)
inductive Fl where
 | nx (δ : DSt) | rt (w : W) | bk (δ : DSt) | ct (δ : DSt)
abbrev XS := DSt -> Cells -> Option (Fl × Cells)
abbrev XG := W -> DSt -> Cells -> Option (DSt × Cells)
abbrev XF := List W -> Cells -> Option (PyData × Cells)
abbrev XFF := List W -> Cells -> Option (List PyData × Cells)
def xno {α : Type} : XR α := fun _ _ => none
def xpure {α : Type} (a : α) : XR α := fun _ h => some (a, h)
def xb {α β : Type} (x : XR α) (f : α -> XR β) : XR β := fun δ h => (x δ h).bind fun p => f p.1 δ p.2
structure Sta where
 bl : List Str
 gc : Str -> Option PyData
 tk : Str -> Option (Str -> Option Int)
 fn : Str -> Option XF
 ac : Str -> List Nat
 cv : List Str
 N : List Str
 S : Scope
 top : Bool
 fuel : Nat
 fnF : Str -> Option XFF
 tb : Option (Addr × Str)
structure Evs where
 E : Sta -> Expr -> XR W
 T : Sta -> Expr -> XR Bool
 F : Sta -> Expr -> XR (List PyData)
 G : Sta -> Expr -> XG
 S : Sta -> Stmt -> XS
def Evs.no : Evs := ⟨fun _ _ => xno, fun _ _ => xno, fun _ _ => xno, fun _ _ _ _ _ => none, fun _ _ _ _ => none⟩
def nameOk (x : Str) : Bool := !(x == ("__debug__" : Str)) && (!(x == ("__classdict__" : Str)) && !(x == ("__name__" : Str)))
def visB (S : Scope) (x : Str) : Bool := match S.names.lookup x with
 | some .local => true
 | some .cell => true
 | some .free => true
 | _ => false
def locB (S : Scope) (x : Str) : Bool := match S.names.lookup x with
 | some .local => true
 | some .cell => true
 | _ => false
def isLocB (S : Scope) (x : Str) : Bool := match S.names.lookup x with
 | some .local => true
 | _ => false
def glB (S : Scope) (x : Str) : Bool := match S.names.lookup x with
 | some .globalImplicit => true
 | _ => false
def slot (st : Sta) (x : Str) : Option Nat := st.N.findIdx? (· == x)
def xVar (i : Nat) : XR W := fun δ h => match δ[i]? with
 | some (some w) => some (w, h)
 | _ => none
def topB (st : Sta) (x : Str) : Bool := nameOk x && glB st.S x
def xName (st : Sta) (x : Str) : XR W := if nameOk x = true then
  (match slot st x with
   | some i => if visB st.S x = true then xVar i else xno
   | none => (match st.gc x with
    | some d => if glB st.S x = true then xpure (.d d) else xno
    | none => xno))
 else xno
def xConst : Const -> XR W
 | .none => xpure (.d .none)
 | .bool b => xpure (.d (.bool b))
 | .int i => xpure (.d (.int i))
 | .str x => if PyData.strOk x = true then xpure (.d (.str x)) else xno
 | _ => xno
mutual
def plainB : Nat -> PyData -> Bool
 | _, .none => true
 | _, .bool _ => true
 | _, .int _ => true
 | _, .str _ => true
 | n + 1, .list xs => plainsB n xs
 | n + 1, .tuple xs => plainsB n xs
 | _, _ => false
def plainsB : Nat -> List PyData -> Bool
 | _, [] => true
 | n, x :: xs => plainB n x && plainsB n xs
end
def mulOk (i j : Int) : Bool := (decide (-(2 ^ 64) < i) && decide (i < 2 ^ 64)) || (decide (-(2 ^ 64) < j) && decide (j < 2 ^ 64))
def divOk (j : Int) : Bool := decide (0 < j) && (decide (j < 1073741824) || decide (j.natAbs.log2 < 8000))
def powOk (i j : Int) : Bool := decide (0 <= j) && (decide (j <= 1000000) && decide (i.natAbs < 2 ^ 64))
def xAdd (u w : W) (h : Cells) : Option (W × Cells) := match u, w with
 | .d (.int i), .d (.int j) => some (.d (.int (i + j)), h)
 | .d (.tuple xs), .d (.tuple ys) => if xs.length + ys.length <= sizeLine then some (.d (.tuple (xs ++ ys)), h) else none
 | .d (.str x), .d (.str y) => if x.length + y.length <= sizeLine then some (.d (.str (x ++ y)), h) else none
 | _, _ => (match ref h u, ref h w with
  | some (.list xs), some (.list ys) => if xs.length + ys.length <= sizeLine then some (.d (.list (xs ++ ys)), h) else none
  | _, _ => none)
def xMul (u w : W) (h : Cells) : Option (W × Cells) := match u, w with
 | .d (.int i), .d (.int j) => if mulOk i j = true then some (.d (.int (i * j)), h) else none
 | .d (.tuple xs), .d (.int k) => if k = 1 then some (.d (.tuple xs), h) else if xs ≠ [] /\ 1 < k /\ k < 2 ^ 63 /\ xs.length * k.toNat <= sizeLine then some (.d (.tuple (List.replicate k.toNat xs).flatten), h) else none
 | _, _ => none
def xBin (op : Operator) (u w : W) (h : Cells) : Option (W × Cells) := match op with
 | .Add => xAdd u w h
 | .Mult => xMul u w h
 | _ => (match u, w with
  | .d (.int i), .d (.int j) => (match op with
   | .Sub => some (.d (.int (i - j)), h)
   | .FloorDiv => if divOk j = true then some (.d (.int (i / j)), h) else none
   | .Mod => if 0 < j then some (.d (.int (i % j)), h) else none
   | .Pow => if powOk i j = true then some (.d (.int (i ^ j.toNat)), h) else none
   | .RShift => if 0 <= j then some (.d (.int (i / 2 ^ j.toNat)), h) else none
   | .BitAnd => some (.d (.int (Builtin.bitAnd i j)), h)
   | _ => none)
  | _, _ => none)
def cmpI : CmpOp -> Option (Int -> Int -> Bool)
 | .Lt => some fun i j => decide (i < j)
 | .LtE => some fun i j => decide (i <= j)
 | .Gt => some fun i j => decide (j < i)
 | .GtE => some fun i j => decide (j <= i)
 | _ => none
def xEq (u w : W) (h : Cells) : Option Bool := match ref h u, ref h w with
 | some a, some b => if (plainB 64 a && plainB 64 b) = true then some (PyData.eqv a b) else none
 | _, _ => none
def xIs (u w : W) : Option Bool := match u, w with
 | .d a, .d b => DL.isSame a b
 | _, _ => none
def xIn (u w : W) (h : Cells) : Option Bool := match ref h u, ref h w with
 | some d, some (.list xs) => if (plainB 64 (.list xs) && plainB 64 d) = true then some (xs.any fun z => PyData.eqv z d) else none
 | some d, some (.tuple xs) => if (plainB 64 (.tuple xs) && plainB 64 d) = true then some (xs.any fun z => PyData.eqv z d) else none
 | some d, some (.dict kvs) => (match keyD d with
  | some k => some (kvs.any fun p => decide (keyD p.1 = some k))
  | none => none)
 | _, _ => none
def xCmp (op : CmpOp) (u w : W) (h : Cells) : Option (Bool × Cells) := match op with
 | .Eq => (xEq u w h).map fun b => (b, h)
 | .NotEq => (xEq u w h).map fun b => (!b, h)
 | .Is => (xIs u w).map fun b => (b, h)
 | .IsNot => (xIs u w).map fun b => (!b, h)
 | .In => (xIn u w h).map fun b => (b, h)
 | .NotIn => (xIn u w h).map fun b => (!b, h)
 | _ => (match u, w with
  | .d (.int i), .d (.int j) => (cmpI op).map fun p => (p i j, h)
  | _, _ => none)
def asW (p : Bool × Cells) : W × Cells := (.d (.bool p.1), p.2)
def xIx (u w : W) (h : Cells) : Option (W × Cells) := match ref h u, w with
 | some (.list xs), .d (.int i) => (atI xs i).map fun v => (.d v, h)
 | some (.tuple xs), .d (.int i) => (atI xs i).map fun v => (.d v, h)
 | some (.dict kvs), .d d => (match keyD d with
  | some k => (kvs.find? fun p => decide (keyD p.1 = some k)).map fun p => (.d p.2, h)
  | none => none)
 | _, _ => none
def xSl (u : W) (lo hi : Option Int) (h : Cells) : Option (W × Cells) := match u with
 | .d (.tuple xs) => some (.d (.tuple (cut xs lo hi)), h)
 | .d (.str z) => if z.length <= sizeLine then some (.d (.str (Txt.slice z lo hi)), h) else none
 | _ => (match ref h u with
  | some (.list xs) => some (.d (.list (cut xs lo hi)), h)
  | _ => none)
def xLen : List W -> Cells -> Option (W × Cells)
 | [w], h => (match ref h w with
  | some (.list xs) => some (.d (.int xs.length), h)
  | some (.tuple xs) => some (.d (.int xs.length), h)
  | _ => none)
 | _, _ => none
def xTuple : List W -> Cells -> Option (W × Cells)
 | [w], h => (match ref h w with
  | some (.list xs) => some (.d (.tuple xs), h)
  | some (.tuple xs) => some (.d (.tuple xs), h)
  | _ => none)
 | _, _ => none
def xAll : List W -> Cells -> Option (W × Cells)
 | [w], h => (match ref h w with
  | some (.list xs) => (bools xs).map fun bs => (.d (.bool (bs.all id)), h)
  | _ => none)
 | _, _ => none
def bfun (x : Str) : Option (List W -> Cells -> Option (W × Cells)) :=
 if x = "len" then some xLen else if x = "tuple" then some xTuple else if x = "all" then some xAll else if x = "any" then some xAny else if x = "max" then some xMax else if x = "sorted" then some xSrtI else none
def isiT (T : Str) : Option String :=
 if T = "int" then some "int" else if T = "bool" then some "bool" else if T = "str" then some "str" else if T = "tuple" then some "tuple" else if T = "list" then some "list" else none
mutual
def peq : PyData -> PyData -> Bool
 | .none, .none => true
 | .bool a, .bool b => a == b
 | .int a, .int b => a == b
 | .str a, .str b => a == b
 | .list a, .list b => peqs a b
 | .tuple a, .tuple b => peqs a b
 | _, _ => false
def peqs : List PyData -> List PyData -> Bool
 | [], [] => true
 | x :: a, y :: b => peq x y && peqs a b
 | _, _ => false
end
def condB : Option Nat -> List PyData -> Cells -> Bool
 | none, _, _ => true
 | some i, xs, h => (match h[i]? with
  | some (.l ys) => peqs ys xs
  | _ => false)
def forX (g : XG) (tb : XS) (c : Option Nat) (all : List PyData) : List PyData -> DSt -> Cells -> Option (Fl × Cells)
 | [], δ, h => if condB c all h = true then some (.nx δ, h) else none
 | x :: r, δ, h => if condB c all h = true then
   (g (.d x) δ h).bind fun p => (tb p.1 p.2).bind fun q => (match q.1 with
    | .nx δ' => forX g tb c all r δ' q.2
    | .ct δ' => forX g tb c all r δ' q.2
    | .bk δ' => some (.nx δ', q.2)
    | .rt w => some (.rt w, q.2))
  else none
def compX (g : XG) (tt : XR Bool) (te : XR W) (c : Option Nat) (all : List PyData) : List PyData -> DSt -> Cells -> List PyData -> Option (List PyData × Cells)
 | [], _, h, ac => if condB c all h = true then some (ac, h) else none
 | x :: r, δ, h, ac => if condB c all h = true then
   (g (.d x) δ h).bind fun p => (tt p.1 p.2).bind fun q => if q.1 = true then
     (te p.1 q.2).bind fun y => (match y.1 with
      | .d z => compX g tt te c all r p.1 y.2 (ac ++ [z])
      | _ => none)
    else compX g tt te c all r p.1 q.2 ac
  else none
def whileX (c : XR Bool) (tb : XS) : Nat -> DSt -> Cells -> Option (Fl × Cells)
 | 0, _, _ => none
 | n + 1, δ, h => (c δ h).bind fun p => if p.1 = true then
   (tb δ p.2).bind fun q => (match q.1 with
    | .nx δ' => whileX c tb n δ' q.2
    | .ct δ' => whileX c tb n δ' q.2
    | .bk δ' => some (.nx δ', q.2)
    | .rt w => some (.rt w, q.2))
  else some (.nx δ, p.2)
def notStar : Expr -> Bool
 | .Starred _ _ => false
 | _ => true
def xCell (x : XR (List PyData)) : XR W := fun δ h => (x δ h).bind fun p => some (.c p.2.length, p.2 ++ [.l p.1])
def xFrz (x : XR (List PyData)) : XR W := fun δ h => (x δ h).bind fun p => some (.d (.list p.1), p.2)
def xTabN (f : Str -> Option Int) (x : XR W) : XR Bool := xb x fun w => (match w with
 | .d (.str s) => xpure (!(f s).isSome)
 | .d .none => xpure true
 | _ => xno)
def xC1 (op : CmpOp) (x y : XR W) : XR Bool := xb x fun u => xb y fun w => fun _ h => xCmp op u w h
def xC2 (op op' : CmpOp) (x y z : XR W) : XR Bool := xb x fun u => xb y fun w => fun δ h => (xCmp op u w h).bind fun p => if p.1 = true then (z δ p.2).bind fun q => xCmp op' w q.1 q.2 else some (false, p.2)
def xC3 (op op' op'' : CmpOp) (x y z t : XR W) : XR Bool := xb x fun u => xb y fun w => fun δ h => (xCmp op u w h).bind fun p =>
 if p.1 = true then (z δ p.2).bind fun q => (xCmp op' w q.1 q.2).bind fun p' => if p'.1 = true then (t δ p'.2).bind fun q' => xCmp op'' q.1 q'.1 q'.2 else some (false, p'.2) else some (false, p.2)
def xMapW (x : XR Bool) : XR W := fun δ h => (x δ h).map asW
def gRun : List XG -> List PyData -> DSt -> Cells -> Option (DSt × Cells)
 | [], [], δ, h => some (δ, h)
 | g :: gs, x :: xs, δ, h => (g (.d x) δ h).bind fun p => gRun gs xs p.1 p.2
 | _, _, _, _ => none
def xTupG (gs : List XG) : XG := fun w δ h => (match w with
 | .d (.tuple xs) => gRun gs xs δ h
 | _ => none)
section
variable (v : Evs) (st : Sta)
def xArgs : List Expr -> XR (List W)
 | [] => xpure []
 | e :: es => if notStar e = true then xb (v.E st e) fun w => xb (xArgs es) fun ws => xpure (w :: ws) else xno
def isNm : Expr -> Bool
 | .Name _ _ => true
 | _ => false
def xArgsC (ac : List Nat) : Nat -> List Expr -> XR (List W)
 | _, [] => xpure []
 | i, e :: es => if notStar e = true then xb (if ac.contains i && !isNm e then xCell (v.F st e) else v.E st e) fun w => xb (xArgsC ac (i + 1) es) fun ws => xpure (w :: ws) else xno
def xOpt : Option Expr -> XR (Option Int)
 | none => xpure none
 | some e => xb (v.E st e) fun w => (match w with
  | .d (.int i) => xpure (some i)
  | _ => xno)
def xAndV : List Expr -> XR W
 | [] => xno
 | [a] => v.E st a
 | a :: b :: r => xb (v.E st a) fun w => (match w with
  | .d (.bool true) => xAndV (b :: r)
  | .d (.bool false) => xpure (.d (.bool false))
  | _ => xno)
def xOrV : List Expr -> XR W
 | [] => xno
 | [a] => v.E st a
 | a :: b :: r => xb (v.E st a) fun w => (match w with
  | .d (.bool true) => xpure (.d (.bool true))
  | .d (.bool false) => xOrV (b :: r)
  | _ => xno)
def xAndT : List Expr -> XR Bool
 | [] => xno
 | [a] => v.T st a
 | a :: b :: r => xb (v.T st a) fun c => if c = true then xAndT (b :: r) else xpure false
def xOrT : List Expr -> XR Bool
 | [] => xno
 | [a] => v.T st a
 | a :: b :: r => xb (v.T st a) fun c => if c = true then xpure true else xOrT (b :: r)
def tabOf : Expr -> Option (Str -> Option Int)
 | .Name x _ => if topB st x && (slot st x).isNone then st.tk x else none
 | _ => none
def xCompare (a : Expr) (ops : List CmpOp) (cs : List Expr) : XR Bool := match ops, cs with
 | [op], [b] => (match tabOf st b with
  | some f => if op = .NotIn then xTabN f (v.E st a) else xno
  | none => if behindInMarks op b = true then xno else xC1 op (v.E st a) (v.E st b))
 | [op, op'], [b, c] => if lastMarks [op, op'] [b, c] = true then xno else xC2 op op' (v.E st a) (v.E st b) (v.E st c)
 | _, _ => xno
def xCompare3 (a : Expr) (ops : List CmpOp) (cs : List Expr) : XR Bool := match ops, cs with
 | [op, op', op''], [b, c, d] => if lastMarks [op, op', op''] [b, c, d] = true then xno else xC3 op op' op'' (v.E st a) (v.E st b) (v.E st c) (v.E st d)
 | _, _ => xCompare v st a ops cs
def rngB (i j : Int) : Bool := decide (j - i <= 16000000) && (decide (-(2 ^ 62) <= i) && (decide (i < 2 ^ 62) && (decide (-(2 ^ 62) <= j) && decide (j < 2 ^ 62))))
def xEach (x : XR W) : XR (List PyData × Option Nat) := xb x fun w => fun _ h => (match w with
 | .d (.list xs) => some ((xs, none), h)
 | .d (.tuple xs) => some ((xs, none), h)
 | .c i => (match h[i]? with
  | some (.l xs) => some ((xs, some i), h)
  | _ => none)
 | _ => none)
def isSet : Expr -> Bool
 | .Set _ _ _ => true
 | _ => false
def isTup : Expr -> Bool
 | .Tuple _ _ _ => true
 | _ => false
def xIter (tg e : Expr) : XR (List PyData × Option Nat) := match e with
 | .Call (.Name x _) [a] [] _ => if x = "range" then (if topB st x && (slot st x).isNone && st.bl.contains x && notStar a then xb (v.E st a) fun w => fun _ h => (match w with
   | .d (.int j) => if rngB 0 j = true then some ((rng 0 j.toNat, none), h) else none
   | _ => none) else xno)
  else if x = "enumerate" then (if topB st x && (slot st x).isNone && st.bl.contains x && notStar a && isTup tg then xb (v.E st a) fun u => fun _ h => (match seqD u with
   | some xs => some ((enumD xs, none), h)
   | none => none) else xno)
  else xEach (v.E st e)
 | .Call (.Name x _) [a, b] [] _ => if x = "range" then (if topB st x && (slot st x).isNone && st.bl.contains x && notStar a && notStar b then xb (v.E st a) fun u => xb (v.E st b) fun w => fun _ h => (match u, w with
   | .d (.int i), .d (.int j) => if rngB i j = true then some ((rng i (j - i).toNat, none), h) else none
   | _, _ => none) else xno)
  else xEach (v.E st e)
 | _ => if isSet e = true then xno else xEach (v.E st e)
def blkN (sc : Scope) : List Str := (sc.names.filter fun p => (p.2 == .local || p.2 == .free) && !(p.1 == (".0" : Str))).map (·.1)
def blkIx (N : List Str) (sc : Scope) : List (Option Nat) := (blkN sc).map fun x => if sc.names.lookup x = some .free then N.findIdx? (· == x) else none
def blkS (sc S : Scope) : Scope := { sc with names := sc.names.map fun (n, k) => if (k == .free && S.kind == .function && S.names.lookup n == some .cell) then (n, .cell) else (n, k) }
def compB (N : List Str) (sc S : Scope) : Bool :=
 decide (sc.kind = .function) && ((sc.names.all fun y => !(y.2 == .cell)) && ((sc.names.all fun y => !(y.2 == .local) || (sc.names.lookup y.1 == some .local)) &&
  ((sc.names.all fun y => !(y.2 == .free) || (S.names.lookup y.1 == some .cell || S.names.lookup y.1 == some .free)) && (decide (blkN sc).Nodup &&
   (((blkIx N sc).zip (blkN sc)).all fun p => match p.1 with
    | none => true
    | some i => decide (N[i]? = some p.2) && decide (sc.names.lookup p.2 = some NameKind.free))))))
def Sta.blk (sc : Scope) : Sta := { st with N := blkN sc, S := blkS sc st.S, top := false, tb := none }
def xIfs : List Expr -> XR Bool
 | [] => xpure true
 | [c] => v.T st c
 | _ => xno
def xComp (elt tg iter : Expr) (ifs : List Expr) (sc : Scope) : XR (List PyData) :=
 if compB st.N sc st.S && !isSet iter then xb (xIter v st tg iter) fun p => fun δ h => compX (v.G (st.blk sc) tg) (xIfs v (st.blk sc) ifs) (v.E (st.blk sc) elt) p.2 p.1 p.1 (dpick (blkIx st.N sc) δ) h [] else xno
def xPl (x : XR (List W)) : XR (List PyData) := xb x fun ws => fun _ h => (match plains ws with
 | some xs => if xs.length <= sizeLine then some (xs, h) else none
 | none => none)
def stepF (e : Expr) : XR (List PyData) := match e with
 | .List es _ => xPl (xArgs v st es)
 | .ListComp elt [⟨tg, iter, ifs, a⟩] sc _ => if a = 0 then xComp v st elt tg iter ifs sc else xno
 | .Subscript a (.Slice lo hi none _) _ => xb (v.E st a) fun x => xb (xOpt v st lo) fun l => xb (xOpt v st hi) fun u => fun _ h => (match ref h x with
  | some (.list xs) => some (cut xs l u, h)
  | _ => none)
 | .BinOp a .Add b _ => xb (v.E st a) fun u => xb (v.E st b) fun w => fun _ h => (match ref h u, ref h w with
  | some (.list xs), some (.list ys) => if xs.length + ys.length <= sizeLine then some (xs ++ ys, h) else none
  | _, _ => none)
 | .BinOp (.List es p) .Mult b _ => xb (xCell (xPl (xArgs v st es))) fun u => xb (v.E st b) fun w => fun _ h => (match u, w with
  | .c i, .d (.int k) => (match h[i]? with
   | some (.l xs) => if -(2 ^ 63) <= k /\ k < 2 ^ 63 /\ xs.length * k.toNat <= sizeLine then some ((List.replicate k.toNat xs).flatten, h) else none
   | _ => none)
  | _, _ => none)
 | .Call (.Name x _) (a :: es) [] _ => if x = "list" then (if topB st x && (slot st x).isNone && st.bl.contains x then xb (xArgs v st (a :: es)) fun ws => fun _ h => (match ws with
  | [w] => (match ref h w with
   | some (.list xs) => some (xs, h)
   | some (.tuple xs) => some (xs, h)
   | _ => none)
  | _ => none) else xno) else (match st.fnF x with
   | some m => if topB st x && (slot st x).isNone then xb (xArgsC v st (st.ac x) 0 (a :: es)) fun ws => fun _ h => m ws h else xno
   | none => xno)
 | _ => xno
def isSl : Expr -> Bool
 | .Slice _ _ _ _ => true
 | _ => false
def noCall : Expr -> Bool
 | .Call _ _ _ _ => false
 | _ => true
def mfun (m : Str) : Option (W -> List W -> Cells -> Option (W × Cells)) :=
 if m = "append" then some fun o ws h => (match o, ws with
  | .c j, [.d x] => (match h[j]? with
   | some (.l xs) => if xs.length < sizeLine then some (.d .none, h.set j (.l (xs ++ [x]))) else none
   | _ => none)
  | _, _ => none)
 else none
def mpre (m : Str) (w : W) (h : Cells) : Bool := if m = "append" then (match w with
  | .c j => (match h[j]? with
   | some (.l _) => true
   | _ => false)
  | _ => false) else true
def xMeth (o : Expr) (m : Str) (g : W -> List W -> Cells -> Option (W × Cells)) (args : List Expr) : XR W := xb (v.E st o) fun w => fun δ h => if mpre m w h = true then (xArgs v st args δ h).bind fun p => g w p.1 p.2 else none
def popL (j : Nat) (ws : List W) (h : Cells) : Option (W × Cells) := match ws, h[j]? with
 | [.d (.int i)], some (.l xs) => (ixN xs.length i).bind fun n => (xs[n]?).bind fun x => if -(2 ^ 63) <= i /\ i < 2 ^ 63 then some (.d x, h.set j (.l (xs.eraseIdx n))) else none
 | _, _ => none
def popK (j : Nat) (w : W) (h : Cells) : Option (W × Cells) := match w, h[j]? with
 | .d y, some (.k kvs) => (keyD y).bind fun k => (kvs.find? fun p => decide (keyD p.1 = some k)).map fun p => (.d p.2, h.set j (.k (dropD kvs k)))
 | _, _ => none
def xPop (o a : Expr) : XR W := xb (v.E st o) fun w => fun δ h => match w with
 | .c j => (match h[j]? with
  | some (.l _) => (xArgs v st [a] δ h).bind fun p => popL j p.1 p.2
  | some (.k _) => (v.E st a δ h).bind fun p => popK j p.1 p.2
  | _ => none)
 | _ => none
def xCall (f : Expr) (args : List Expr) (pos : Pos) : XR W := match f with
 | .Name x _ => if topB st x && (slot st x).isNone then
   (match st.fn x with
    | some m => (match args with
     | [] => xno
     | _ :: _ => xb (xArgsC v st (st.ac x) 0 args) fun ws => fun _ h => (m ws h).bind fun p => some (.d p.1, p.2))
    | none => if st.bl.contains x then
      (match bfun x with
       | some g => (match args with
        | [] => xno
        | _ :: _ => xb (xArgs v st args) fun ws => fun _ h => g ws h)
       | none => if x = "isinstance" then
         (match args with
          | [e, .Name T _] => if notStar e && topB st T && (slot st T).isNone && st.bl.contains T then (match isiT T with
            | some Ts => xb (v.E st e) fun w => fun _ h => (ref h w).bind fun d => some (.d (.bool (isi d Ts)), h)
            | none => xno) else xno
          | _ => xno)
        else xFrz (stepF v st (.Call f args [] pos)))
     else xno)
   else xno
 | .Attribute o m apos => if noCall o && (apos.endLine == pos.line) then
   (match args with
    | [] => xno
    | a :: es => if m = "pop" then (match es with
      | [] => if notStar a = true then xPop v st o a else xno
      | _ => xno)
     else if decide (args.length < 29) then (match mfun m with
     | some g => xMeth v st o m g args
     | none => xno) else xno)
   else xno
 | _ => xno
def xSS : List W -> Cells -> Option (W × Cells)
 | [w], h => (match ref h w with
  | some (.list xs) => (match intsD xs with
   | some ns => if ns.length <= 62 then some (.d (.list ((srt (ST.dd ns)).map .int)), h) else none
   | none => none)
  | _ => none)
 | _, _ => none
def okB (x : Str) : Bool := topB st x && (slot st x).isNone && st.bl.contains x && (st.fn x).isNone
def xFuse (f : Expr) (args : List Expr) (pos : Pos) : XR W := match f, args with
 | .Name x _, [.Call (.Name y _) as [] _] => if x = "sorted" /\ y = "set" then (match as with
   | [a] => if okB st x && okB st y && notStar a then xb (xArgs v st [a]) fun ws => fun _ h => xSS ws h else xno
   | _ => xno)
  else xCall v st f args pos
 | _, _ => xCall v st f args pos
def lamP : Expr -> Option (Str × Str × Int × Pos)
 | .Lambda ⟨[], [⟨x, _, _⟩], none, [], [], none, []⟩ (.Subscript (.Subscript (.Name y _) (.Name z _) _) (.Constant (.int c) _ _) _) sc lp =>
  if x = z /\ sc = ⟨.function, [(x, .local), (y, .free)], false, false, []⟩ then some (x, y, c, lp) else none
 | _ => none
def isT (c : Option Cell) (P : Addr) (lp : Pos) (q : Str) : Bool := match c with
 | some (.t P' lp' q') => decide (P' = P) && (decide (lp' = lp) && decide (q' = q))
 | _ => false
def xSK (i : Nat) (c : Int) (P : Addr) (lp : Pos) (q : Str) (ws : List W) (δ : DSt) (h : Cells) : Option (W × Cells) := match ws, δ[i]? with
 | [w], some (some (.d (.tuple rows))) => (match ref h w with
  | some (.list xs) => (intsD xs).bind fun ns => (keysD rows c ns).bind fun ks => if ns.length <= 62 /\ ks.Nodup /\ isT h[0]? P lp q = true then some (.d (.list ((srtK ks ns).map .int)), h) else none
  | _ => none)
 | _, _ => none
def cellB (S : Scope) (x : Str) : Bool := match S.names.lookup x with
 | some .cell => true
 | _ => false
def xLam (n : Str) (a : Expr) (kw : Str) (e : Expr) : XR W := match lamP e, st.tb with
 | some (x, y, c, lp), some (P, q) => (match slot st y with
  | some i => if n = "sorted" /\ kw = "key" /\ okB st n = true /\ notStar a = true /\ x ≠ y /\ nameOk x = true /\ nameOk y = true /\ cellB st.S y = true then xb (xArgs v st [a]) fun ws => fun δ h => xSK i c P lp q ws δ h else xno
  | none => xno)
 | _, _ => xno
def stepE (e : Expr) : XR W := match e with
 | .Name x _ => xName st x
 | .Constant c _ _ => xConst c
 | .BinOp a op b _ => (match a, op with
  | .List es p, .Mult => xFrz (stepF v st (.BinOp (.List es p) .Mult b p))
  | _, _ => xb (v.E st a) fun u => xb (v.E st b) fun w => fun _ h => xBin op u w h)
 | .Compare a ops cs _ => xMapW (xCompare3 v st a ops cs)
 | .BoolOp .And vs _ => xAndV v st vs
 | .BoolOp .Or vs _ => xOrV v st vs
 | .UnaryOp .Not a _ => xb (v.E st a) fun w => (match w with
  | .d (.bool b) => xpure (.d (.bool (!b)))
  | _ => xno)
 | .UnaryOp .USub a _ => xb (v.E st a) fun w => (match w with
  | .d (.int i) => xpure (.d (.int (-i)))
  | _ => xno)
 | .IfExp c a b _ => xb (v.T st c) fun t => if t = true then v.E st a else v.E st b
 | .Tuple es _ _ => xb (xPl (xArgs v st es)) fun xs => xpure (.d (.tuple xs))
 | .List es p => xFrz (stepF v st (.List es p))
 | .ListComp elt gs sc p => xFrz (stepF v st (.ListComp elt gs sc p))
 | .Subscript a s _ => (match s with
  | .Slice lo hi none _ => xb (v.E st a) fun x => xb (xOpt v st lo) fun l => xb (xOpt v st hi) fun u => fun _ h => xSl x l u h
  | _ => if isSl s = true then xno else (match tabOf st a with
   | some f => xb (v.E st s) fun w => (match w with
    | .d (.str z) => (match f z with
     | some i => xpure (.d (.int i))
     | none => xno)
    | _ => xno)
   | none => xb (v.E st a) fun x => xb (v.E st s) fun y => fun _ h => xIx x y h))
 | .Call f args [] p => xFuse v st f args p
 | .Call (.Name n _) [a] [⟨some kw, e, _⟩] _ => xLam v st n a kw e
 | .Dict [] [] _ => xpure (.d (.dict []))
 | _ => xno
def stepT (e : Expr) : XR Bool := match e with
 | .UnaryOp .Not a _ => xb (v.T st a) fun b => xpure (!b)
 | .BoolOp .And vs _ => xAndT v st vs
 | .BoolOp .Or vs _ => xOrT v st vs
 | .Compare a ops cs _ => xCompare v st a ops cs
 | .IfExp _ _ _ _ => xno
 | _ => xb (v.E st e) fun w => (match w with
  | .d (.bool b) => xpure b
  | _ => xno)
def gList : List Expr -> List XG
 | [] => []
 | e :: es => v.G st e :: gList es
def gAll (es : List Expr) (xs : List PyData) (δ : DSt) (h : Cells) : Option (DSt × Cells) := gRun (gList v st es) xs δ h
def stepG (e : Expr) : XG := match e with
 | .Name x _ => (match slot st x with
  | some i => if locB st.S x && (st.top || isLocB st.S x) then fun w δ h => some (δ.set i (some w), h) else fun _ _ _ => none
  | none => fun _ _ _ => none)
 | .Tuple es _ _ => if es.all notStar = true then xTupG (gList v st es) else fun _ _ _ => none
 | .Subscript o i _ => if isSl i = true then fun _ _ _ => none else fun w δ h => (v.E st o δ h).bind fun p => (v.E st i δ p.2).bind fun q => (match p.1, q.1, w with
  | .c j, .d y, .d x => (match q.2[j]?, y with
   | some (.l xs), .int k => (ixN xs.length k).map fun n => (δ, q.2.set j (.l (xs.set n x)))
   | some (.k kvs), _ => if (keyD y).isSome = true /\ kvs.length < sizeLine then some (δ, q.2.set j (.k (putD kvs y x))) else none
   | _, _ => none)
  | _, _, _ => none)
 | _ => fun _ _ _ => none
def isComp : Expr -> Bool
 | .ListComp _ _ _ _ => true
 | .SetComp _ _ _ _ => true
 | .DictComp _ _ _ _ _ => true
 | _ => false
def xSs : List Stmt -> XS
 | [], δ, h => some (.nx δ, h)
 | s :: r, δ, h => (v.S st s δ h).bind fun p => (match p.1 with
  | .nx δ' => xSs r δ' p.2
  | f => some (f, p.2))
def isD0 : Expr -> Bool
 | .Dict [] [] _ => true
 | _ => false
def xCelK : XR W := fun _ h => some (.c h.length, h ++ [.k []])
def xSet (i : Nat) (x : XR W) : XS := fun δ h => (x δ h).bind fun p => some (.nx (δ.set i (some p.1)), p.2)
def swB (e : Expr) (x : Str) (px : Pos) : Bool := match e with
 | .ListComp _ _ sc p => isLocB st.S x && (px.line == p.line) && !(sc.names.any fun (n, k) => n == x && (k == .local || k == .cell))
 | _ => false
def stepS (s : Stmt) : XS := match s with
 | .Return (some e) _ => fun δ h => (v.E st e δ h).bind fun p => some (.rt p.1, p.2)
 | .If c a b _ => fun δ h => (v.T st c δ h).bind fun p => if p.1 = true then xSs v st a δ p.2 else xSs v st b δ p.2
 | .Expr e _ => if isComp e = true then fun _ _ => none else fun δ h => (v.E st e δ h).bind fun p => some (.nx δ, p.2)
 | .Pass _ => fun δ h => some (.nx δ, h)
 | .Break _ => fun δ h => some (.bk δ, h)
 | .Continue _ => fun δ h => some (.ct δ, h)
 | .For tg iter body [] _ => if isSet iter = true then fun _ _ => none else fun δ h => (xIter v st tg iter δ h).bind fun p => forX (v.G st tg) (xSs v st body) p.1.2 p.1.1 p.1.1 δ p.2
 | .While c body [] _ => whileX (v.T st c) (xSs v st body) st.fuel
 | .Assign [.Name x px] e _ => (match slot st x with
  | some i => if locB st.S x && (st.top || isLocB st.S x) then
    (if isComp e = true then (if (swB st e x px || !(isLocB st.S x)) = true then xSet i (if st.cv.contains x = true then xCell (stepF v st e) else xFrz (stepF v st e)) else fun _ _ => none)
    else if (st.cv.contains x && isD0 e) = true then xSet i xCelK
    else if (st.cv.contains x && !isNm e) = true then xSet i (xCell (v.F st e)) else xSet i (v.E st e))
   else fun _ _ => none
  | none => fun _ _ => none)
 | .Assign [tg] e _ => if (isComp e || isTup e || !(notStar tg)) = true then fun _ _ => none else fun δ h => (v.E st e δ h).bind fun p => (v.G st tg p.1 δ p.2).bind fun q => some (.nx q.1, q.2)
 | _ => fun _ _ => none
end
def step (v : Evs) : Evs := ⟨stepE v, stepT v, stepF v, stepG v, stepS v⟩
def evs : Nat -> Evs
 | 0 => .no
 | n + 1 => step (evs n)
def parsOf (s : Stmt) : List Str := (defArgs s).args.map (·.arg)
def locsOf (s : Stmt) : List Str := parsOf s ++ ((defScope s).names.filter fun p => (p.2 == .local || p.2 == .cell) && !((parsOf s).contains p.1)).map (·.1)
def fnB (s : Stmt) : Bool := decide ((defScope s).kind = .function) && (!(defScope s).isCoroutine && (!(defScope s).isGenerator && (decide (locsOf s).Nodup && (((parsOf s).all fun x => locB (defScope s) x) && ((defScope s).names.all fun y => !(y.2 == .free))))))
def ends (n : Nat) (p : Fl × Cells) : Option (PyData × Cells) := match p.1 with
 | .nx _ => some (.none, p.2.take n)
 | .rt (.d z) => some (z, p.2.take n)
 | .rt (.c i) => (match p.2[i]? with
  | some (.l xs) => if n <= i then some (.list xs, p.2.take n) else none
  | some (.k kvs) => if n <= i then some (.dict kvs, p.2.take n) else none
  | _ => none)
 | _ => none
def endsF (n : Nat) (p : Fl × Cells) : Option (List PyData × Cells) := match p.1 with
 | .rt (.c i) => (match p.2[i]? with
  | some (.l xs) => if n <= i then some (xs, p.2.take n) else none
  | _ => none)
 | _ => none
structure Top where
 bl : List Str
 gc : Str -> Option PyData
 tk : Str -> Option (Str -> Option Int)
 defs : Str -> Option Stmt
 ac : Str -> List Nat
 cv : Str -> List Str
 fuel : Nat
 deep : Nat
 tb : Str -> Option Addr
def Top.sta (t : Top) (fn : Str -> Option XF) (fnF : Str -> Option XFF) (x : Str) (s : Stmt) : Sta := ⟨t.bl, t.gc, t.tk, fn, t.ac, t.cv x, locsOf s, defScope s, true, t.fuel, fnF, (t.tb x).map fun P => (P, (x ++ ".<locals>.") ++ "<lambda>")⟩
def runFn (t : Top) (fn : Str -> Option XF) (fnF : Str -> Option XFF) (x : Str) (s : Stmt) : XF := fun ws h =>
 if fnB s = true /\ ws.length = (parsOf s).length then (xSs (evs t.deep) (t.sta fn fnF x s) (defBody s) (dstart (locsOf s) ws) h).bind (ends h.length) else none
def runFF (t : Top) (fn : Str -> Option XF) (fnF : Str -> Option XFF) (x : Str) (s : Stmt) : XFF := fun ws h =>
 if fnB s = true /\ ws.length = (parsOf s).length then (xSs (evs t.deep) (t.sta fn fnF x s) (defBody s) (dstart (locsOf s) ws) h).bind (endsF h.length) else none
mutual
def callD (t : Top) : Nat -> Str -> XF
 | 0, _ => fun _ _ => none
 | d + 1, x => (match t.defs x with
  | some s => runFn t (fun y => (t.defs y).map fun _ => callD t d y) (fun y => (t.defs y).map fun _ => callF t d y) x s
  | none => fun _ _ => none)
def callF (t : Top) : Nat -> Str -> XFF
 | 0, _ => fun _ _ => none
 | d + 1, x => (match t.defs x with
  | some s => runFF t (fun y => (t.defs y).map fun _ => callD t d y) (fun y => (t.defs y).map fun _ => callF t d y) x s
  | none => fun _ _ => none)
end
end CI
namespace CI
open PySem PySem.Spec PyProof.Rows L2 DL
def Of {α : Type} (x : XR α) : DSt -> Cells -> (α -> Cells -> Prop) -> Prop := fun δ h Q => ∃ a h', x δ h = some (a, h') /\ Q a h'
def OfG (g : XG) : DTG := fun w δ h Q => ∃ δ' h', g w δ h = some (δ', h') /\ Q δ' h'
def flows (E : DEnds) (h : Cells) : Fl -> Prop
 | .nx δ => E.nx δ h
 | .rt w => E.rt w h
 | .bk δ => E.bk δ h
 | .ct δ => E.ct δ h
def OfS (x : XS) : DTS := fun E δ h => ∃ fl h', x δ h = some (fl, h') /\ flows E h' fl
def OfI (x : XR (List PyData × Option Nat)) : DTI := fun δ h Q => ∃ xs c h', x δ h = some ((xs, c), h') /\ Q xs c h'
def Of2 (f : W -> W -> Cells -> Option (W × Cells)) : D2 := fun u w h Q => ∃ r h', f u w h = some (r, h') /\ Q r h'
def OfC (f : List W -> Cells -> Option (W × Cells)) : DC := fun ws h Q => ∃ r h', f ws h = some (r, h') /\ Q r h'
def spOf (m : XF) : DSp := fun ws h k => ∃ z h', m ws h = some (z, h') /\ k z h'
section
variable {α β : Type} {x : XR α} {f : α -> XR β} {δ : DSt} {h : Cells} {Q : α -> Cells -> Prop} {Q' : β -> Cells -> Prop}
theorem of_b (q : Of (xb x f) δ h Q') : Of x δ h fun a h1 => Of (f a) δ h1 Q' := by
 obtain ⟨b, h', e, q⟩ := q
 unfold xb at e
 cases e1 : x δ h with
 | none => rw [e1] at e; cases e
 | some p =>
  rw [e1] at e
  obtain ⟨a, h1⟩ := p
  exact ⟨a, h1, e1, b, h', e, q⟩
theorem of_no (q : Of (xno : XR α) δ h Q) : False := by obtain ⟨_, _, e, _⟩ := q; cases e
theorem of_pure {a : α} (q : Of (xpure a) δ h Q) : Q a h := by
 obtain ⟨b, h', e, q⟩ := q
 cases e
 exact q
end
theorem bind_some {α β : Type} {x : Option α} {f : α -> Option β} {b : β} (e : x.bind f = some b) : ∃ a, x = some a /\ f a = some b := Option.bind_eq_some_iff.mp e
theorem map_some {α β : Type} {x : Option α} {f : α -> β} {b : β} (e : x.map f = some b) : ∃ a, x = some a /\ f a = b := Option.map_eq_some_iff.mp e
section
variable {X : Cx} {e tg : Expr} {es : List Expr} {eo : Option Expr} {s : Stmt} {ss : List Stmt}
theorem de_m {t t' : DTE} (d : DE X e t) (m : ∀ δ h Q, t' δ h Q -> t δ h Q) : DE X e t' := pe_mono d fun σ H Q ⟨δ, h, A, μ, k, R, q, c⟩ => ⟨δ, h, A, μ, k, R, m δ h k q, c⟩
theorem dt_m {t t' : DTT} (d : DT X e t) (m : ∀ δ h Q, t' δ h Q -> t δ h Q) : DT X e t' := pt_mono d fun σ H Q ⟨δ, h, A, μ, k, R, q, c⟩ => ⟨δ, h, A, μ, k, R, m δ h k q, c⟩
theorem dw_m {t t' : DTT} (d : DW X e t) (m : ∀ δ h Q, t' δ h Q -> t δ h Q) : DW X e t' := pw_mono d fun σ H Q ⟨δ, h, A, μ, k, R, q, c⟩ => ⟨δ, h, A, μ, k, R, m δ h k q, c⟩
theorem da_m {t t' : DTA} (d : DA X es t) (m : ∀ δ h Q, t' δ h Q -> t δ h Q) : DA X es t' := pa_mono d fun σ H Q ⟨δ, h, A, μ, k, R, q, c⟩ => ⟨δ, h, A, μ, k, R, m δ h k q, c⟩
theorem df_m {t t' : DTF} (d : DF X e t) (m : ∀ δ h Q, t' δ h Q -> t δ h Q) : DF X e t' := pe_mono d fun σ H Q ⟨δ, h, A, μ, k, R, q, c⟩ => ⟨δ, h, A, μ, k, R, m δ h k q, c⟩
theorem do_m {t t' : DTO} (d : DO X eo t) (m : ∀ δ h Q, t' δ h Q -> t δ h Q) : DO X eo t' := po_mono d fun σ H Q ⟨δ, h, A, μ, k, R, q, c⟩ => ⟨δ, h, A, μ, k, R, m δ h k q, c⟩
theorem ds_m {t t' : DTS} (d : DS X s t) (m : ∀ E δ h, t' E δ h -> t E δ h) : DS X s t' := ps_mono d fun D σ H ⟨δ, h, A, μ, E, R, q, L⟩ => ⟨δ, h, A, μ, E, R, m E δ h q, L⟩
theorem dss_m {t t' : DTS} (d : DSs X ss t) (m : ∀ E δ h, t' E δ h -> t E δ h) : DSs X ss t' := pss_mono d fun D σ H ⟨δ, h, A, μ, E, R, q, L⟩ => ⟨δ, h, A, μ, E, R, m E δ h q, L⟩
theorem dg_m {t t' : DTG} (d : DG X e t) (m : ∀ w δ h Q, t' w δ h Q -> t w δ h Q) : DG X e t' := pg_mono d fun v σ H Q ⟨w, δ, h, A, μ, k, R, r, q, c⟩ => ⟨w, δ, h, A, μ, k, R, r, m w δ h k q, c⟩
theorem di_m {t t' : DTI} (d : DI X tg e t) (m : ∀ δ h Q, t' δ h Q -> t δ h Q) : DI X tg e t' := pi_mono d fun σ H R ⟨δ, h, A, μ, k, R0, q, c⟩ => ⟨δ, h, A, μ, k, R0, m δ h k q, c⟩
theorem dif_m {t t' : DTT} (d : DIf X es t) (m : ∀ δ h Q, t' δ h Q -> t δ h Q) : DIf X es t' := fun pins s σ H Q I ⟨δ, h, A, μ, k, R, q, c⟩ => d pins s σ H Q I ⟨δ, h, A, μ, k, R, m δ h k q, c⟩
theorem de_or2 {t t' : DTE} (d : DE X e t) (d' : DE X e t') : DE X e (fun δ h Q => t δ h Q \/ t' δ h Q) := fun pins s σ H Q I ⟨δ, h, A, μ, k, R, q, c⟩ => q.elim (fun q => d pins s σ H Q I ⟨δ, h, A, μ, k, R, q, c⟩) fun q => d' pins s σ H Q I ⟨δ, h, A, μ, k, R, q, c⟩
theorem e_no : DE X e (Of xno) := de_m de_no fun _ _ _ q => of_no q
theorem f_no : DF X e (Of xno) := df_m df_no fun _ _ _ q => (of_no q).elim
theorem t_no : DT X e (Of xno) := fun pins s σ H Q I ⟨_, _, _, _, _, _, q, _⟩ => (of_no q).elim
theorem s_no {x : XS} (n : ∀ δ h, x δ h = none) : DS X s (OfS x) := ds_m ds_no fun E δ h q => by obtain ⟨_, _, e, _⟩ := q; rw [n] at e; cases e
theorem g_no {x : XG} (n : ∀ w δ h, x w δ h = none) : DG X e (OfG x) := fun pins s σ H v u Q I r ⟨w, δ, h, A, μ, k, R, rr, q, c⟩ => by obtain ⟨_, _, e, _⟩ := q; rw [n] at e; cases e
theorem op_m {f : Value -> Value -> Sem Value} {r r' : D2} (ho : OpR X f (upR X.K r)) (m : ∀ u w h Q, r' u w h Q -> r u w h Q) : OpR X f (upR X.K r') := fun pins s σ H x y v u Q I rx ry ⟨a, b, h, A, μ, k, R, ra, rb, q, c⟩ => ho pins s σ H x y v u Q I rx ry ⟨a, b, h, A, μ, k, R, ra, rb, m _ _ _ _ q, c⟩
theorem op_or {f : Value -> Value -> Sem Value} {r r' : D2} (ho : OpR X f (upR X.K r)) (ho' : OpR X f (upR X.K r')) : OpR X f (upR X.K fun u w h Q => r u w h Q \/ r' u w h Q) := fun pins s σ H x y v u Q I rx ry ⟨a, b, h, A, μ, k, R, ra, rb, q, c⟩ =>
 q.elim (fun q => ho pins s σ H x y v u Q I rx ry ⟨a, b, h, A, μ, k, R, ra, rb, q, c⟩) fun q => ho' pins s σ H x y v u Q I rx ry ⟨a, b, h, A, μ, k, R, ra, rb, q, c⟩
theorem op_no {f : Value -> Value -> Sem Value} {r : D2} (m : ∀ u w h Q, ¬ r u w h Q) : OpR X f (upR X.K r) := fun pins s σ H x y v u Q I rx ry ⟨a, b, h, A, μ, k, R, ra, rb, q, c⟩ => (m _ _ _ _ q).elim
theorem call_m {f : Value} {r r' : DC} (ho : CallR X f (upC X.K r)) (m : ∀ ws h Q, r' ws h Q -> r ws h Q) : CallR X f (upC X.K r') := fun pins s σ H xs us Q I rx ⟨ws, h, A, μ, k, R, rw', q, c⟩ => ho pins s σ H xs us Q I rx ⟨ws, h, A, μ, k, R, rw', m _ _ _ q, c⟩
end
mutual
theorem Rep_lay {K : PySem.W.Frag} {A : List Addr} {H : Hp} : ∀ {x : PyData} {v : V} (n : Nat), Rep K A H x v -> plainB n x = true -> x.canLay0 = true /\ x.depth <= n
 | .none, _, n, _, _ => by simp [PyData.canLay0, PyData.depth]
 | .bool _, _, n, _, _ => by simp [PyData.canLay0, PyData.depth]
 | .int _, _, n, _, _ => by simp [PyData.canLay0, PyData.depth]
 | .str x, _, n, h, _ => by
  rw [Rep] at h
  simp [PyData.canLay0, PyData.depth, h.2]
 | .list xs, _, 0, _, p => by simp [plainB] at p
 | .tuple xs, _, 0, _, p => by simp [plainB] at p
 | .list xs, _, n + 1, h, p => by
  rw [Rep] at h
  obtain ⟨a, vs, _, _, h⟩ := h
  have z := Reps_lay n h (by simpa [plainB] using p)
  simp [PyData.canLay0, PyData.depth, z.1, z.2]
 | .tuple xs, _, n + 1, h, p => by
  rw [Rep] at h
  obtain ⟨a, vs, _, _, h⟩ := h
  have z := Reps_lay n h (by simpa [plainB] using p)
  simp [PyData.canLay0, PyData.depth, z.1, z.2]
 | .dict _, _, n, _, p => by cases n <;> simp [plainB] at p
theorem Reps_lay {K : PySem.W.Frag} {A : List Addr} {H : Hp} : ∀ {xs : List PyData} {vs : List V} (n : Nat), Reps K A H xs vs -> plainsB n xs = true -> PyData.canLayAll0 xs = true /\ PyData.depthAll xs <= n
 | [], _, n, _, _ => by simp [PyData.canLayAll0, PyData.depthAll]
 | x :: xs, _, n, h, p => by
  rw [Reps] at h
  obtain ⟨v, r, _, h1, h2⟩ := h
  rw [plainsB, Bool.and_eq_true] at p
  have a := Rep_lay n h1 p.1
  have b := Reps_lay n h2 p.2
  simp [PyData.canLayAll0, PyData.depthAll, a.1, b.1]
  omega
end
theorem shaped_of {K : PySem.W.Frag} {A : List Addr} {H : Hp} {x : PyData} {v : V} (r : Rep K A H x v) (p : plainB 64 x = true) : SeqAt.shaped x = true := by
 have z := Rep_lay 64 r p
 unfold SeqAt.shaped
 rw [z.1]
 simpa using z.2
theorem shaped_ref {K : PySem.W.Frag} {A μ : List Addr} {H : Hp} {h : Cells} {w : W} {v : V} {x : PyData} (R : HeapRep K A μ h H) (r : RepW K A μ H w v) (e : ref h w = some x) (p : plainB 64 x = true) : SeqAt.shaped x = true := by
 cases w with
 | d y => cases e; exact shaped_of r p
 | v u => cases e
 | c i =>
  obtain ⟨a, e1, rfl⟩ := r
  dsimp only [DL.ref] at e
  cases q : h[i]? with
  | none => rw [q] at e; cases e
  | some cc =>
   cases cc with
   | t _ _ _ => rw [q] at e; cases e
   | k ys => rw [q] at e; cases e; simp [plainB] at p
   | l ys =>
    rw [q] at e
    cases e
    obtain ⟨vs, z1, z2⟩ := R.val i a ys e1 q
    have z := Reps_lay 63 z2 (by simpa [plainB] using p)
    unfold SeqAt.shaped
    simp [PyData.canLay0, PyData.depth, z.1]
    exact z.2
abbrev spOfF (m : XFF) : DSpF := fun ws h k => ∃ xs h', m ws h = some (xs, h') /\ k xs h'
structure Good (X : Cx) (st : Sta) (d : Nat) : Prop where
 bl : ∀ x, st.bl.contains x = true -> X.mg x = none
 gc : ∀ x z, st.gc x = some z -> ∃ v u, X.mg x = some u /\ RelV v u /\ ∀ A H, Rep X.K A H z v
 tk : ∀ x f, st.tk x = some f -> ∃ p, X.mg x = some (.ref p) /\ TabK X.w X.K p f
 fn : ∀ x m, st.fn x = some m -> DFn X.prog X.w X.K X.mg X.base d x (spOf m)
 N : X.N = st.N
 S : X.env.scope = st.S
 nd : st.N.Nodup
 xe : X.xe = fun _ _ => False
 calm : X.calm = true
 rm : Room d X.A
 fnT : st.top = true -> ∀ x, X.fn x = true
 kind : st.S.kind = .function
 fnF : ∀ x m, st.fnF x = some m -> DFnF X.prog X.w X.K X.mg X.base d x (spOfF m)
 tb : ∀ P q, st.tb = some (P, q) -> q = lamQ X /\ (∃ c0, X.env.code = .ref c0 /\ PySem.W.codeHdIn X.K c0 P = true) /\ X.base.BuiltinsAt X.mg P
structure Snd (v : Evs) : Prop where
 E : ∀ {X : Cx} {st : Sta} {d : Nat}, Good X st d -> ∀ e, DE X e (Of (v.E st e))
 T : ∀ {X : Cx} {st : Sta} {d : Nat}, Good X st d -> ∀ e, DT X e (Of (v.T st e))
 F : ∀ {X : Cx} {st : Sta} {d : Nat}, Good X st d -> ∀ e, DF X e (Of (v.F st e))
 G : ∀ {X : Cx} {st : Sta} {d : Nat}, Good X st d -> ∀ e, DG X e (OfG (v.G st e))
 S : ∀ {X : Cx} {st : Sta} {d : Nat}, Good X st d -> ∀ s, DS X s (OfS (v.S st s))
section
variable {X : Cx} {st : Sta} {d : Nat} {x : Str}
theorem idx_at {N : List Str} {i : Nat} (e : N.findIdx? (· == x) = some i) : N[i]? = some x := by
 obtain ⟨h1, h2, _⟩ := List.findIdx?_eq_some_iff_getElem.mp e
 rw [List.getElem?_eq_getElem h1, eq_of_beq h2]
theorem slot_at (G : Good X st d) {i : Nat} (e : slot st x = some i) : X.N[i]? = some x := by rw [G.N]; exact idx_at e
theorem vis_of (G : Good X st d) (h : visB st.S x = true) : Vis X.env.scope x := by
 unfold Vis
 rw [G.S]
 unfold visB at h
 split at h
 ·rename_i e; exact .inl e
 ·rename_i e; exact .inr (.inl e)
 ·rename_i e; exact .inr (.inr e)
 ·cases h
theorem loc_of (G : Good X st d) (h : locB st.S x = true) : L2.Loc X.env.scope x := by
 unfold L2.Loc
 rw [G.S]
 unfold locB at h
 split at h
 ·rename_i e; exact .inl e
 ·rename_i e; exact .inr e
 ·cases h
theorem isLoc_of (h : isLocB st.S x = true) : st.S.names.lookup x = some .local := by
 unfold isLocB at h
 split at h
 ·rename_i e; exact e
 ·cases h
theorem fnOr (G : Good X st d) (h : (st.top || isLocB st.S x) = true) : X.fn x = true \/ X.env.scope.names.lookup x = some .local := by
 rw [Bool.or_eq_true] at h
 rcases h with h | h
 ·exact .inl (G.fnT h x)
 ·rw [G.S]; exact .inr (isLoc_of h)
theorem gl_of (G : Good X st d) (h : glB st.S x = true) : Gl X x := by
 unfold Gl Env.kindOf
 rw [G.S]
 unfold glB at h
 split at h
 ·rename_i e; exact e
 ·cases h
theorem nameOk_db (h : nameOk x = true) : (x == ("__debug__" : Str)) = false := by
 unfold nameOk at h
 rw [Bool.and_eq_true] at h
 simpa using h.1
theorem nameOk_cd (h : nameOk x = true) : (x == ("__classdict__" : Str)) = false := by
 unfold nameOk at h
 rw [Bool.and_eq_true, Bool.and_eq_true] at h
 simpa using h.2.1
theorem nameOk_nm (h : nameOk x = true) : x ≠ "__name__" := by
 unfold nameOk at h
 rw [Bool.and_eq_true, Bool.and_eq_true] at h
 simpa using h.2.2
theorem top_of (G : Good X st d) (h : topB st x = true) : nameOk x = true /\ Gl X x := by
 unfold topB at h
 rw [Bool.and_eq_true] at h
 exact ⟨h.1, gl_of G h.2⟩
theorem e_name (G : Good X st d) {pos : Pos} : DE X (.Name x pos) (Of (xName st x)) := by
 unfold xName
 split
 ·rename_i hn
  split
  ·rename_i i hi
   split
   ·rename_i hv
    refine de_m (dv i (slot_at G hi) (vis_of G hv) (nameOk_db hn) (nameOk_cd hn)) fun δ h Q q => ?_
    obtain ⟨w, h', e, q⟩ := q
    unfold xVar at e
    unfold dVar
    split at e
    ·rename_i w' e'
     try rw [e']
     cases e
     exact q
    ·cases e
   ·exact e_no
  ·split
   ·rename_i z hz
    split
    ·rename_i hg
     obtain ⟨v, u, m, r1, r2⟩ := G.gc _ _ hz
     exact de_m (de_glob m r1 r2 (gl_of G hg) (nameOk_db hn)) fun δ h Q q => of_pure q
    ·exact e_no
   ·exact e_no
 ·exact e_no
theorem e_const {c : Const} {j : Nat} {pos : Pos} : DE X (.Constant c j pos) (Of (xConst c)) := by
 cases c with
 | none => exact de_m de_non fun _ _ _ q => of_pure q
 | bool b => exact de_m de_bl fun _ _ _ q => of_pure q
 | int i => exact de_m de_int fun _ _ _ q => of_pure q
 | str x =>
  show DE X _ (Of (if PyData.strOk x = true then xpure (.d (.str x)) else xno))
  split
  ·rename_i hx
   exact de_m (de_str hx) fun _ _ _ q => of_pure q
  ·exact e_no
 | _ => exact e_no
theorem rep_list {K : PySem.W.Frag} {A μ : List Addr} {H : Hp} {h : Cells} {p : Addr} {xs : List PyData} {vs : List V} (R : HeapRep K A μ h H) (hp : H p = none) (r : Reps K A H xs vs) : Rep K A (upd H p (.lst vs)) (.list xs) (.ref p) := by
 rw [Rep]
 exact ⟨p, vs, rfl, .inl ⟨R.notA hp, .inl upd_same⟩, r.ext (ext_fresh (μ := μ) hp) R.sub⟩
def dCatO : D2 := fun u w h Q => match ref h u, ref h w with
 | some (.list xs), some (.list ys) => xs.length + ys.length <= sizeLine /\ Q (.d (.list (xs ++ ys))) h
 | _, _ => False
theorem op_dCat : OpR X (binaryOp .Add) (upR X.K dCatO) := by
 intro pins s σ H x y v u Q I rx ry h
 obtain ⟨a, b, h, A, μ, k, R, ra, rb, q, c⟩ := h
 unfold dCatO at q
 split at q
 ·rename_i xs ys ea eb
  obtain ⟨pa, va, rfl, sa, rra⟩ := ref_list R ra ea
  obtain ⟨pb, vb, rfl, sb, rrb⟩ := ref_list R rb eb
  refine op_catL pins s σ H _ _ v u Q I rx ry ⟨pa, pb, va, vb, rfl, rfl, sa, sb, by rw [rra.length, rrb.length]; exact q.1, fun p hp => ?_⟩
  exact c _ _ _ _ _ _ q.2 (ext_fresh hp) (R.fresh hp) (rep_list R hp (rrb.append rra))
 ·exact q.elim
theorem op_fdivB : OpR X (binaryOp .FloorDiv) (rI (fun _ j => 0 < j /\ j.natAbs.log2 < 9000) fun i j => .int (i / j)) := opI fun i j _ _ _ _ _ hc q => by
 have h1 : (0 : Int) < j := hc.1
 exact floordiv_int (by omega) (by rw [Int.fdiv_eq_ediv_of_nonneg i (by omega)]; exact q) (.inl (PyProof.noPylong_of_log2 hc.2))
def dDivB : D2
 | .d (.int i), .d (.int j), h, Q => (0 < j /\ j.natAbs.log2 < 9000) /\ Q (.d (.int (i / j))) h
 | _, _, _, _ => False
theorem op_dDivB : OpR X (binaryOp .FloorDiv) (upR X.K dDivB) := int_op (f := fun i j => .int (i / j)) op_fdivB (fun _ _ _ _ => repI) fun u w h k q => by
 unfold dDivB at q
 split at q
 ·exact ⟨_, _, rfl, rfl, q.1, q.2⟩
 ·exact q.elim
theorem div_ok {j : Int} (h : divOk j = true) : 0 < j /\ j.natAbs.log2 < 9000 := by
 unfold divOk at h
 simp only [Bool.and_eq_true, Bool.or_eq_true, decide_eq_true_eq] at h
 refine ⟨h.1, ?_⟩
 rcases h.2 with h2 | h2
 ·have h0 : j.natAbs ≠ 0 := by omega
  have := (Nat.log2_lt h0 (k := 30)).mpr (by omega)
  omega
 ·omega
theorem mul_ok {i j : Int} (h : mulOk i j = true) : CMul i j := by
 unfold mulOk at h
 unfold CMul
 simpa only [Bool.and_eq_true, Bool.or_eq_true, decide_eq_true_eq] using h
theorem pow_ok {i j : Int} (h : powOk i j = true) : CPow i j := by
 unfold powOk at h
 unfold CPow
 simpa only [Bool.and_eq_true, decide_eq_true_eq] using h
theorem strOk_app {x y : Str} (h1 : PyData.strOk x = true) (h2 : PyData.strOk y = true) : PyData.strOk (x ++ y) = true := by
 unfold PyData.strOk at h1 h2 ⊢
 show (x.cps ++ y.cps).all _ = true
 rw [Array.all_append, h1, h2]
 rfl
def dAddT : D2
 | .d (.str x), .d (.str y), h, Q => x.length + y.length <= sizeLine /\ Q (.d (.str (x ++ y))) h
 | _, _, _, _ => False
theorem op_dAddT : OpR X (binaryOp .Add) (upR X.K dAddT) := by
 intro pins s σ H x y v u Q I rx ry h
 obtain ⟨a, b, h, A, μ, k, R, ra, rb, q, c⟩ := h
 unfold dAddT at q
 split at q
 ·rename_i x1 y1
  have ra' : Rep X.K A H (.str x1) x := ra
  have rb' : Rep X.K A H (.str y1) y := rb
  rw [Rep] at ra' rb'
  obtain ⟨ea, oa⟩ := ra'
  obtain ⟨eb, ob⟩ := rb'
  subst ea eb
  exact op_add_str pins s σ H _ _ v u Q I rx ry ⟨_, _, rfl, rfl, q.1, c _ _ _ _ _ _ q.2 .refl R (repW_s (strOk_app oa ob))⟩
 ·exact q.elim
theorem op_xAdd : OpR X (binaryOp .Add) (upR X.K (Of2 xAdd)) := by
 refine op_m (op_or op_dAdd (op_or op_dAddT op_dCat)) fun u w h Q q => ?_
 obtain ⟨r, h', e, q⟩ := q
 unfold xAdd at e
 split at e
 ·cases e; exact .inl q
 ·split at e
  ·rename_i hl; cases e; exact .inl ⟨hl, q⟩
  ·cases e
 ·split at e
  ·rename_i hl; cases e; exact .inr (.inl ⟨hl, q⟩)
  ·cases e
 ·refine .inr (.inr ?_)
  unfold dCatO
  split at e
  ·rename_i e1 e2
   try rw [e1, e2]
   split at e
   ·rename_i hl; cases e; exact ⟨hl, q⟩
   ·cases e
  ·cases e
theorem op_xMul : OpR X (binaryOp .Mult) (upR X.K (Of2 xMul)) := by
 refine op_m (op_or op_dMul op_dMulU) fun u w h Q q => ?_
 obtain ⟨r, h', e, q⟩ := q
 unfold xMul at e
 split at e
 ·split at e
  ·rename_i hl; cases e; exact .inl ⟨mul_ok hl, q⟩
  ·cases e
 ·split at e
  ·rename_i hl; cases e; exact .inr (.inl ⟨hl, q⟩)
  split at e
  ·rename_i hl; cases e; exact .inr (.inr ⟨hl, q⟩)
  ·cases e
 ·cases e
theorem op_xBin (op : Operator) : OpR X (binaryOp op) (upR X.K (Of2 (xBin op))) := by
 cases op with
 | Add => exact op_xAdd
 | Mult => exact op_xMul
 | Sub =>
  refine op_m op_dSub fun u w h Q ⟨a, h', e, q⟩ => ?_
  dsimp only [xBin] at e
  split at e
  ·cases e; exact q
  ·cases e
 | FloorDiv =>
  refine op_m op_dDivB fun u w h Q ⟨a, h', e, q⟩ => ?_
  dsimp only [xBin] at e
  split at e
  ·split at e
   ·rename_i hd; cases e; exact ⟨div_ok hd, q⟩
   ·cases e
  ·cases e
 | Mod =>
  refine op_m op_dMod fun u w h Q ⟨a, h', e, q⟩ => ?_
  dsimp only [xBin] at e
  split at e
  ·split at e
   ·rename_i hd; cases e; exact ⟨hd, q⟩
   ·cases e
  ·cases e
 | Pow =>
  refine op_m op_dPow fun u w h Q ⟨a, h', e, q⟩ => ?_
  dsimp only [xBin] at e
  split at e
  ·split at e
   ·rename_i hd; cases e; exact ⟨pow_ok hd, q⟩
   ·cases e
  ·cases e
 | RShift =>
  refine op_m op_dShr fun u w h Q ⟨a, h', e, q⟩ => ?_
  dsimp only [xBin] at e
  split at e
  ·split at e
   ·rename_i hd; cases e; exact ⟨hd, q⟩
   ·cases e
  ·cases e
 | BitAnd =>
  refine op_m op_dBand fun u w h Q ⟨a, h', e, q⟩ => ?_
  dsimp only [xBin] at e
  split at e
  ·cases e; exact q
  ·cases e
 | _ =>
  refine op_no fun u w h Q ⟨a, h', e, q⟩ => ?_
  dsimp only [xBin] at e
  split at e <;> cases e
theorem keyD_str {x : Str} : keyD (.str x) = if PyData.strOk x = true then some (Sum.inr x) else none := rfl
theorem keyD_rep {K : PySem.W.Frag} {A : List Addr} {H : Hp} {z : PyData} {k : Key} {v : V} (e : keyD z = some k) (r : Rep K A H z v) : v = kV k := by
 cases z with
 | int i => cases e; rw [Rep] at r; exact r
 | str x =>
  rw [keyD_str] at e
  split at e
  ·cases e; rw [Rep] at r; exact r.1
  ·cases e
 | _ => cases e
theorem repKs_find {K : PySem.W.Frag} {A : List Addr} {H : Hp} (k : Key) : ∀ {kvs : List (PyData × PyData)} {r : List (Key × V)}, RepKs K A H kvs r ->
  (∀ p, (kvs.find? fun p => decide (keyD p.1 = some k)) = some p -> ∃ v, valV r k = some v /\ Rep K A H p.2 v) /\ ((kvs.find? fun p => decide (keyD p.1 = some k)) = none -> valV r k = none)
 | [], r, h => by
  rw [RepKs] at h; subst h
  exact ⟨fun p e => (nomatch e), fun _ => rfl⟩
 | (a, b) :: kvs, r, h => by
  rw [RepKs] at h
  obtain ⟨q, r', rfl, hp, hr⟩ := h
  rw [RepP] at hp
  obtain ⟨h1, h2⟩ := repKs_find k hr
  obtain ⟨qk, qv⟩ := q
  by_cases e : qk = k
  ·subst e
   have ek : decide (keyD a = some qk) = true := decide_eq_true hp.1
   refine ⟨fun p ep => ?_, fun ep => ?_⟩
   ·rw [List.find?_cons_of_pos (by exact ek)] at ep
    cases ep
    exact ⟨qv, by unfold valV; rw [List.find?_cons_of_pos (by simp)]; rfl, hp.2⟩
   ·rw [List.find?_cons_of_pos (by exact ek)] at ep; cases ep
  ·have ek : ¬ decide (keyD a = some k) = true := fun z => e (Option.some.inj (hp.1.symm.trans (of_decide_eq_true z)))
   have ev : valV ((qk, qv) :: r') k = valV r' k := by unfold valV; rw [List.find?_cons_of_neg (by simpa using e)]
   rw [ev]
   refine ⟨fun p ep => ?_, fun ep => ?_⟩
   ·rw [List.find?_cons_of_neg (by exact ek)] at ep
    exact h1 p ep
   ·rw [List.find?_cons_of_neg (by exact ek)] at ep
    exact h2 ep
theorem any_find {α : Type} (p : α -> Bool) : ∀ xs : List α, xs.any p = (xs.find? p).isSome
 | [] => rfl
 | x :: r => by
  rw [List.any_cons]
  cases e : p x with
  | true => rw [List.find?_cons_of_pos e]; rfl
  | false => rw [List.find?_cons_of_neg (by rw [e]; exact Bool.false_ne_true), <- any_find p r]; rfl
theorem ref_dict {K : PySem.W.Frag} {A μ : List Addr} {H : Hp} {h : Cells} {w : W} {v : V} {kvs : List (PyData × PyData)} (R : HeapRep K A μ h H) (r : RepW K A μ H w v) (e : ref h w = some (.dict kvs)) : ∃ a rs, v = .ref a /\ Rd H a (.dK rs) /\ RepKs K A H kvs rs := by
 cases w with
 | d x =>
  cases e
  have z : Rep K A H (.dict kvs) v := r
  rw [Rep] at z
  obtain ⟨a, rs, e, h1, h2⟩ := z
  exact ⟨a, rs, e, h1.2, h2⟩
 | v u => cases e
 | c i =>
  obtain ⟨a, e1, rfl⟩ := r
  dsimp only [DL.ref] at e
  cases q : h[i]? with
  | none => rw [q] at e; cases e
  | some cc =>
   cases cc with
   | t _ _ _ => rw [q] at e; cases e
   | l ys => rw [q] at e; cases e
   | k ys =>
    rw [q] at e
    cases e
    obtain ⟨vs, z1, z2⟩ := R.vad i a kvs e1 q
    exact ⟨a, vs, rfl, .inl z1, z2⟩
def dInD (neg : Bool) : D2 := fun u w h Q => match ref h u, ref h w with
 | some d, some (.dict kvs) => (match keyD d with
  | some k => Q (.d (.bool (neg ^^ kvs.any fun p => decide (keyD p.1 = some k)))) h
  | none => False)
 | _, _ => False
theorem see_key {K : PySem.W.Frag} {H : Hp} {z : PyData} {k : Key} {v : V} (e : keyD z = some k) (r : See K H z v) : v = kV k := by
 cases z with
 | int i => cases e; rw [See] at r; exact r
 | str x =>
  rw [keyD_str] at e
  split at e
  ·cases e; rw [See] at r; exact r
  ·cases e
 | _ => cases e
theorem unit1 {A : Around} {n : Nat} (hr : Room n A) : A.units + 1 < cLine := by have := hr.un; omega
theorem op_dInD (hr : Room d X.A) : OpR X (compareOp .In) (upR X.K (dInD false)) := by
 intro pins s σ H x y v u Q I rx ry h
 obtain ⟨a, b, h, A, μ, k, R, ra, rb, q, c⟩ := h
 unfold dInD at q
 split at q
 ·rename_i z kvs ea eb
  split at q
  ·rename_i kk ek
   obtain ⟨p, rs, rfl, hd, rr⟩ := ref_dict R rb eb
   obtain ⟨f1, f2⟩ := repKs_find kk rr
   have ev := see_key ek (ref_see R ra ea)
   subst ev
   cases ry
   refine d_in (unit1 hr) I (o := valV rs kk) (.inl ⟨rs, kk, hd, rfl, rfl⟩) rx fun s' I' => ?_
   have e : (kvs.any fun p => decide (keyD p.1 = some kk)) = (valV rs kk).isSome := by
    rw [any_find]
    cases z : kvs.find? (fun p => decide (keyD p.1 = some kk)) with
    | none => rw [f2 z]; rfl
    | some p => obtain ⟨v, e1, _⟩ := f1 p z; rw [e1]; rfl
   rw [e] at q
   exact ⟨.bl _, H, I', rfl, c _ _ _ _ _ _ q .refl R (by simpa using repW_bl)⟩
  ·exact q.elim
 ·exact q.elim
theorem op_dNotInD (hr : Room d X.A) : OpR X (compareOp .NotIn) (upR X.K (dInD true)) := by
 intro pins s σ H x y v u Q I rx ry h
 obtain ⟨a, b, h, A, μ, k, R, ra, rb, q, c⟩ := h
 unfold dInD at q
 split at q
 ·rename_i z kvs ea eb
  split at q
  ·rename_i kk ek
   obtain ⟨p, rs, rfl, hd, rr⟩ := ref_dict R rb eb
   obtain ⟨f1, f2⟩ := repKs_find kk rr
   have ev := see_key ek (ref_see R ra ea)
   subst ev
   cases ry
   refine d_notIn (unit1 hr) I (o := valV rs kk) (.inl ⟨rs, kk, hd, rfl, rfl⟩) rx fun s' I' => ?_
   have e : (kvs.any fun p => decide (keyD p.1 = some kk)) = (valV rs kk).isSome := by
    rw [any_find]
    cases z : kvs.find? (fun p => decide (keyD p.1 = some kk)) with
    | none => rw [f2 z]; rfl
    | some p => obtain ⟨v, e1, _⟩ := f1 p z; rw [e1]; rfl
   rw [e] at q
   exact ⟨.bl _, H, I', rfl, c _ _ _ _ _ _ q .refl R (by simpa using repW_bl)⟩
  ·exact q.elim
 ·exact q.elim
def dIxD : D2 := fun u w h Q => match ref h u, w with
 | some (.dict kvs), .d z => (match keyD z with
  | some k => (match kvs.find? fun p => decide (keyD p.1 = some k) with
   | some p => Q (.d p.2) h
   | none => False)
  | none => False)
 | _, _ => False
theorem ix_dD (hr : Room d X.A) : IxR X (upR X.K dIxD) := by
 intro value slice pins s σ H x y v u Q I rx ry h hs
 obtain ⟨a, b, h, A, μ, k, R, ra, rb, q, c⟩ := h
 unfold dIxD at q
 split at q
 ·rename_i kvs z ea
  split at q
  ·rename_i kk ek
   split at q
   ·rename_i p ep
    obtain ⟨pa, rs, rfl, hd, rr⟩ := ref_dict R ra ea
    obtain ⟨v0, e1, r1⟩ := (repKs_find kk rr).1 p ep
    have ev := keyD_rep ek rb
    subst ev
    cases rx
    have g : DGet H pa (kV kk) (some v0) := .inl ⟨rs, kk, hd, rfl, e1.symm⟩
    exact tail_any (dict_typeIs I g) slot_dict_getitem.lookup (d_getItem (unit1 hr) I g ry fun w' s' I' rw' => ⟨v0, H, I', rw', c _ _ _ _ _ _ q .refl R r1⟩) hs
   ·exact q.elim
  ·exact q.elim
 ·exact q.elim
def dEqP (neg : Bool) : D2 := fun x y h Q => match ref h x, ref h y with
 | some a, some b => (plainB 64 a && plainB 64 b) = true /\ Q (.d (.bool (neg ^^ PyData.eqv a b))) h
 | _, _ => False
theorem op_eqP (hr : Room d X.A) : OpR X (compareOp .Eq) (upR X.K (dEqP false)) := fun pins s σ H x y v u Q I rx ry ⟨a, b, h, A, μ, k, R, ra, rb, q, c⟩ => by
 unfold dEqP at q
 split at q
 ·rename_i z1 z2 e1 e2
  rw [Bool.and_eq_true] at q
  refine op_dEq hr pins s σ H x y v u Q I rx ry ⟨a, b, h, A, μ, k, R, ra, rb, ?_, c⟩
  unfold dEq
  rw [e1, e2]
  exact ⟨shaped_ref R ra e1 q.1.1, shaped_ref R rb e2 q.1.2, by simpa using q.2⟩
 ·exact q.elim
theorem op_neP (hr : Room d X.A) : OpR X (compareOp .NotEq) (upR X.K (dEqP true)) := fun pins s σ H x y v u Q I rx ry ⟨a, b, h, A, μ, k, R, ra, rb, q, c⟩ => by
 unfold dEqP at q
 split at q
 ·rename_i z1 z2 e1 e2
  rw [Bool.and_eq_true] at q
  refine op_dNe hr pins s σ H x y v u Q I rx ry ⟨a, b, h, A, μ, k, R, ra, rb, ?_, c⟩
  unfold dNe
  rw [e1, e2]
  exact ⟨shaped_ref R ra e1 q.1.1, shaped_ref R rb e2 q.1.2, by simpa using q.2⟩
 ·exact q.elim
def dInP (neg : Bool) : D2 := fun x y h Q => match ref h x, ref h y with
 | some d, some (.list xs) => (plainB 64 (.list xs) && plainB 64 d) = true /\ Q (.d (.bool (neg ^^ xs.any fun z => PyData.eqv z d))) h
 | some d, some (.tuple xs) => (plainB 64 (.tuple xs) && plainB 64 d) = true /\ Q (.d (.bool (neg ^^ xs.any fun z => PyData.eqv z d))) h
 | _, _ => False
theorem inP {neg : Bool} {f : Value -> Value -> Sem Value} (ho : OpR X f (upR X.K (dInN neg))) : OpR X f (upR X.K (dInP neg)) := fun pins s σ H x y v u Q I rx ry ⟨a, b, h, A, μ, k, R, ra, rb, q, c⟩ => by
 refine ho pins s σ H x y v u Q I rx ry ⟨a, b, h, A, μ, k, R, ra, rb, ?_, c⟩
 unfold dInP at q
 unfold dInN
 split at q
 ·rename_i z1 xs e1 e2
  rw [Bool.and_eq_true] at q
  try rw [e1, e2]
  exact ⟨shaped_ref R rb e2 q.1.1, shaped_ref R ra e1 q.1.2, q.2⟩
 ·rename_i z1 xs e1 e2
  rw [Bool.and_eq_true] at q
  try rw [e1, e2]
  exact ⟨shaped_ref R rb e2 q.1.1, shaped_ref R ra e1 q.1.2, q.2⟩
 ·exact q.elim
theorem in_cases {neg : Bool} {u w : W} {h : Cells} {b : Bool} {Q : DK} (e : xIn u w h = some b) (q : Q (.d (.bool (neg ^^ b))) h) : dInP neg u w h Q \/ dInD neg u w h Q := by
 unfold xIn at e
 split at e
 ·rename_i z1 z2
  split at e
  ·rename_i hs
   cases e
   refine .inl ?_
   unfold dInP
   rw [z1, z2]
   exact ⟨hs, q⟩
  ·cases e
 ·rename_i z1 z2
  split at e
  ·rename_i hs
   cases e
   refine .inl ?_
   unfold dInP
   rw [z1, z2]
   exact ⟨hs, q⟩
  ·cases e
 ·rename_i z1 z2
  split at e
  ·rename_i k ek
   cases e
   refine .inr ?_
   unfold dInD
   rw [z1, z2]
   dsimp only
   rw [ek]
   exact q
  ·cases e
 ·cases e
theorem eq_case {neg : Bool} {u w : W} {h : Cells} {b : Bool} {Q : DK} (e : xEq u w h = some b) (q : Q (.d (.bool (neg ^^ b))) h) : dEqP neg u w h Q := by
 unfold xEq at e
 split at e
 ·rename_i x y e1 e2
  split at e
  ·rename_i hs
   cases e
   unfold dEqP
   rw [e1, e2]
   exact ⟨hs, q⟩
  ·cases e
 ·cases e
theorem op_xCmp (hr : Room d X.A) (op : CmpOp) : OpR X (compareOp op) (upR X.K (Of2 fun u w h => (xCmp op u w h).map asW)) := by
 have isc : ∀ {u w : W} {b : Bool}, xIs u w = some b -> ∃ x y, u = .d x /\ w = .d y /\ DL.isSame x y = some b := fun {u w b} e => by
  unfold xIs at e
  split at e
  ·exact ⟨_, _, rfl, rfl, e⟩
  ·cases e
 cases op with
 | Eq =>
  refine op_m (op_eqP hr) fun u w h Q ⟨a, h', e, q⟩ => ?_
  obtain ⟨p, e1, e2⟩ := map_some e
  obtain ⟨b, e3, e4⟩ := map_some e1
  subst e4
  cases e2
  exact eq_case e3 (by simpa using q)
 | NotEq =>
  refine op_m (op_neP hr) fun u w h Q ⟨a, h', e, q⟩ => ?_
  obtain ⟨p, e1, e2⟩ := map_some e
  obtain ⟨b, e3, e4⟩ := map_some e1
  subst e4
  cases e2
  exact eq_case e3 (by simpa using q)
 | Is =>
  refine op_m op_dIs fun u w h Q ⟨a, h', e, q⟩ => ?_
  obtain ⟨p, e1, e2⟩ := map_some e
  obtain ⟨b, e3, e4⟩ := map_some e1
  subst e4
  cases e2
  obtain ⟨x, y, rfl, rfl, e5⟩ := isc e3
  show (match DL.isSame x y with | some k => _ | none => _)
  rw [e5]
  exact q
 | IsNot =>
  refine op_m op_dIsNot fun u w h Q ⟨a, h', e, q⟩ => ?_
  obtain ⟨p, e1, e2⟩ := map_some e
  obtain ⟨b, e3, e4⟩ := map_some e1
  subst e4
  cases e2
  obtain ⟨x, y, rfl, rfl, e5⟩ := isc e3
  show (match DL.isSame x y with | some k => _ | none => _)
  rw [e5]
  exact q
 | In =>
  refine op_m (op_or (inP (op_dIn hr)) (op_dInD hr)) fun u w h Q ⟨a, h', e, q⟩ => ?_
  obtain ⟨p, e1, e2⟩ := map_some e
  obtain ⟨b, e3, e4⟩ := map_some e1
  subst e4
  cases e2
  exact in_cases e3 (by simpa using q)
 | NotIn =>
  refine op_m (op_or (inP (op_dNotIn hr)) (op_dNotInD hr)) fun u w h Q ⟨a, h', e, q⟩ => ?_
  obtain ⟨p, e1, e2⟩ := map_some e
  obtain ⟨b, e3, e4⟩ := map_some e1
  subst e4
  cases e2
  exact in_cases e3 (by simpa using q)
 | Lt =>
  refine op_m op_dLt fun u w h Q ⟨a, h', e, q⟩ => ?_
  obtain ⟨p, e1, e2⟩ := map_some e
  dsimp only [xCmp, cmpI, Option.map] at e1
  split at e1
  ·cases e1
   cases e2
   exact q
  ·cases e1
 | LtE =>
  refine op_m op_dLe fun u w h Q ⟨a, h', e, q⟩ => ?_
  obtain ⟨p, e1, e2⟩ := map_some e
  dsimp only [xCmp, cmpI, Option.map] at e1
  split at e1
  ·cases e1
   cases e2
   exact q
  ·cases e1
 | Gt =>
  refine op_m op_dGt fun u w h Q ⟨a, h', e, q⟩ => ?_
  obtain ⟨p, e1, e2⟩ := map_some e
  dsimp only [xCmp, cmpI, Option.map] at e1
  split at e1
  ·cases e1
   cases e2
   exact q
  ·cases e1
 | GtE =>
  refine op_m op_dGe fun u w h Q ⟨a, h', e, q⟩ => ?_
  obtain ⟨p, e1, e2⟩ := map_some e
  dsimp only [xCmp, cmpI, Option.map] at e1
  split at e1
  ·cases e1
   cases e2
   exact q
  ·cases e1
end
end CI
namespace CI
open PySem PySem.Spec PyProof.Rows L2 DL
section
variable {X : Cx} {st : Sta} {d : Nat} {x : Str} {v : Evs} {a b c e : Expr} {es : List Expr} {pos : Pos}
theorem star_cons (h : notStar e = true) (env : Env) : starEach (e :: es) env = (false, eval e env) :: starEach es env := by
 cases e <;> first | rfl | cases h
theorem star_any : ∀ (es : List Expr) (env : Env) (pos : Pos), es.all notStar = true -> (backTo pos (starEach es env)).any (·.1) = false
 | [], _, _, _ => rfl
 | e :: es, env, pos, h => by
  rw [List.all_cons, Bool.and_eq_true] at h
  rw [star_cons h.1]
  show (false || (backTo pos (starEach es env)).any (·.1)) = false
  rw [star_any es env pos h.2]
  rfl
theorem star_all : ∀ (es : List Expr) (env : Env) (pos : Pos), es.all notStar = true -> (backTo pos (starEach es env)).all (fun x => !x.1) = true
 | [], _, _, _ => rfl
 | e :: es, env, pos, h => by
  rw [List.all_cons, Bool.and_eq_true] at h
  rw [star_cons h.1]
  show (true && (backTo pos (starEach es env)).all fun x => !x.1) = true
  rw [star_all es env pos h.2]
  rfl
theorem args_star : ∀ (es : List Expr) (δ : DSt) (h : Cells) (p : List W × Cells), xArgs v st es δ h = some p -> es.all notStar = true
 | [], _, _, _, _ => rfl
 | e :: es, δ, h, p, q => by
  unfold xArgs at q
  split at q
  ·rename_i hn
   obtain ⟨a, e1, q⟩ := bind_some q
   obtain ⟨b, e2, q⟩ := bind_some q
   rw [List.all_cons, hn, args_star es δ _ _ e2]
   rfl
  ·cases q
theorem argsC_star (ac : List Nat) : ∀ (es : List Expr) (i : Nat) (δ : DSt) (h : Cells) (p : List W × Cells), xArgsC v st ac i es δ h = some p -> es.all notStar = true
 | [], _, _, _, _, _ => rfl
 | e :: es, i, δ, h, p, q => by
  unfold xArgsC at q
  split at q
  ·rename_i hn
   obtain ⟨a, e1, q⟩ := bind_some q
   obtain ⟨b, e2, q⟩ := bind_some q
   rw [List.all_cons, hn, argsC_star ac es (i + 1) δ _ _ e2]
   rfl
  ·cases q
theorem e_by {x : XR W} (p : Prop) (hp : ∀ δ h r, x δ h = some r -> p) (he : p -> DE X e (Of x)) : DE X e (Of x) := by
 by_cases h : p
 ·exact he h
 ·exact de_m de_no fun δ h' Q q => by
   obtain ⟨r, h2, e, _⟩ := q
   exact (h (hp _ _ _ e)).elim
theorem f_by {x : XR (List PyData)} (p : Prop) (hp : ∀ δ h r, x δ h = some r -> p) (he : p -> DF X e (Of x)) : DF X e (Of x) := by
 by_cases h : p
 ·exact he h
 ·exact df_m df_no fun δ h' Q q => by
   obtain ⟨r, h2, e, _⟩ := q
   exact (h (hp _ _ _ e)).elim
theorem a_args (S : Snd v) (G : Good X st d) : ∀ es, DA X es (Of (xArgs v st es))
 | [] => da_m da_nil fun δ h Q q => of_pure q
 | e :: es => by
  unfold xArgs
  split
  ·rename_i hn
   refine da_m (da_cons (S.E G e) (a_args S G es) (star_cons hn _)) fun δ h Q q => ?_
   obtain ⟨w, h1, e1, q⟩ := of_b q
   obtain ⟨ws, h2, e2, q⟩ := of_b q
   exact ⟨w, h1, e1, ws, h2, e2, of_pure q⟩
  ·exact fun p pins s σ H Q I ⟨_, _, _, _, _, _, q, _⟩ => (of_no q).elim
theorem e_cell {x : XR (List PyData)} (h : DF X e (Of x)) : DE X e (Of (xCell x)) := de_m (de_cel h) fun δ h Q q => by
 obtain ⟨w, h', e, q⟩ := q
 obtain ⟨p, e1, e2⟩ := bind_some e
 cases e2
 exact ⟨p.1, p.2, e1, q⟩
theorem e_frz {x : XR (List PyData)} (h : DF X e (Of x)) : DE X e (Of (xFrz x)) := de_m (de_frz h) fun δ h Q q => by
 obtain ⟨w, h', e, q⟩ := q
 obtain ⟨p, e1, e2⟩ := bind_some e
 cases e2
 exact ⟨p.1, p.2, e1, q⟩
theorem a_argsC (S : Snd v) (G : Good X st d) (ac : List Nat) : ∀ (es : List Expr) (i : Nat), DA X es (Of (xArgsC v st ac i es))
 | [], _ => da_m da_nil fun δ h Q q => of_pure q
 | e :: es, i => by
  unfold xArgsC
  split
  ·rename_i hn
   have he : DE X e (Of (if ac.contains i && !isNm e then xCell (v.F st e) else v.E st e)) := by
    split
    ·exact e_cell (S.F G e)
    ·exact S.E G e
   refine da_m (da_cons he (a_argsC S G ac es (i + 1)) (star_cons hn _)) fun δ h Q q => ?_
   obtain ⟨w, h1, e1, q⟩ := of_b q
   obtain ⟨ws, h2, e2, q⟩ := of_b q
   exact ⟨w, h1, e1, ws, h2, e2, of_pure q⟩
  ·exact fun p pins s σ H Q I ⟨_, _, _, _, _, _, q, _⟩ => (of_no q).elim
theorem o_opt (S : Snd v) (G : Good X st d) : ∀ eo, DO X eo (Of (xOpt v st eo))
 | none => do_m do_none fun δ h Q q => of_pure q
 | some e => do_m (do_some (S.E G e)) fun δ h Q q => by
  unfold xOpt at q
  obtain ⟨w, h1, e1, q⟩ := of_b q
  refine ⟨w, h1, e1, ?_⟩
  dsimp only at q ⊢
  split at q
  ·exact of_pure q
  ·exact (of_no q).elim
theorem e_andV (S : Snd v) (G : Good X st d) : ∀ vs, DE X (.BoolOp .And vs pos) (Of (xAndV v st vs))
 | [] => e_no
 | [a] => de_one (S.E G a)
 | a :: b :: r => de_m (de_and (S.E G a) (e_andV S G (b :: r))) fun δ h Q q => by
  obtain ⟨w, h1, e1, q⟩ := of_b q
  refine ⟨w, h1, e1, ?_⟩
  dsimp only at q ⊢
  split at q
  ·exact (if_pos rfl).mpr q
  ·exact (if_neg Bool.false_ne_true).mpr (of_pure q)
  ·exact (of_no q).elim
theorem e_orV (S : Snd v) (G : Good X st d) : ∀ vs, DE X (.BoolOp .Or vs pos) (Of (xOrV v st vs))
 | [] => e_no
 | [a] => de_one (S.E G a)
 | a :: b :: r => de_m (de_or (S.E G a) (e_orV S G (b :: r))) fun δ h Q q => by
  obtain ⟨w, h1, e1, q⟩ := of_b q
  refine ⟨w, h1, e1, ?_⟩
  dsimp only at q ⊢
  split at q
  ·exact (if_pos rfl).mpr (of_pure q)
  ·exact (if_neg Bool.false_ne_true).mpr q
  ·exact (of_no q).elim
theorem w_andT (S : Snd v) (G : Good X st d) : ∀ vs, DW X (.BoolOp .And vs pos) (Of (xAndT v st vs))
 | [] => fun wh pins s σ H Q I ⟨_, _, _, _, _, _, q, _⟩ => (of_no q).elim
 | [a] => dw_and1 (S.T G a)
 | a :: b :: r => dw_m (dw_and (S.T G a) (w_andT S G (b :: r))) fun δ h Q q => by
  obtain ⟨w, h1, e1, q⟩ := of_b q
  refine ⟨w, h1, e1, ?_⟩
  dsimp only at q ⊢
  split at q
  ·rename_i hw; rw [if_pos hw]; exact q
  ·rename_i hw; rw [if_neg hw]; exact of_pure q
theorem w_orT (S : Snd v) (G : Good X st d) : ∀ vs, DW X (.BoolOp .Or vs pos) (Of (xOrT v st vs))
 | [] => fun wh pins s σ H Q I ⟨_, _, _, _, _, _, q, _⟩ => (of_no q).elim
 | [a] => dw_or1 (S.T G a)
 | a :: b :: r => dw_m (dw_or (S.T G a) (w_orT S G (b :: r))) fun δ h Q q => by
  obtain ⟨w, h1, e1, q⟩ := of_b q
  refine ⟨w, h1, e1, ?_⟩
  dsimp only at q ⊢
  split at q
  ·rename_i hw; rw [if_pos hw]; exact of_pure q
  ·rename_i hw; rw [if_neg hw]; exact q
theorem tab_of {f : Str -> Option Int} (G : Good X st d) (e1 : tabOf st b = some f) : ∃ y p q, b = .Name y q /\ nameOk y = true /\ Gl X y /\ X.mg y = some (.ref p) /\ TabK X.w X.K p f := by
 cases b with
 | Name y q =>
  unfold tabOf at e1
  dsimp only at e1
  split at e1
  ·rename_i ht
   rw [Bool.and_eq_true] at ht
   obtain ⟨h1, h2⟩ := top_of G ht.1
   obtain ⟨p, h3, h4⟩ := G.tk _ _ e1
   exact ⟨y, p, q, rfl, h1, h2, h3, h4⟩
  ·cases e1
 | _ => cases e1
section
variable {xa xb' xc xd : XR W} {op op' op'' : CmpOp} {c' : Expr}
theorem mapW {x : XR Bool} {δ : DSt} {h : Cells} {Q : DK} (q : Of (xMapW x) δ h Q) : Of x δ h fun b h' => Q (.d (.bool b)) h' := by
 obtain ⟨w, h', e, q⟩ := q
 obtain ⟨⟨b, h2⟩, e1, e2⟩ := map_some e
 cases e2
 exact ⟨b, _, e1, q⟩
theorem o_c1 {δ : DSt} {h : Cells} {Q : Bool -> Cells -> Prop} (q : Of (xC1 op xa xb') δ h Q) : dOp (Of2 fun u w h => (xCmp op u w h).map asW) (Of xa) (Of xb') δ h (fun w h' => match w with | .d (.bool b) => Q b h' | _ => False) := by
 obtain ⟨x, h1, e1, q⟩ := of_b q
 obtain ⟨y, h2, e2, q⟩ := of_b q
 obtain ⟨k, h3, e3, q⟩ := q
 exact ⟨x, h1, e1, y, h2, e2, .d (.bool k), h3, congrArg (Option.map asW) e3, q⟩
theorem o_c2 {δ : DSt} {h : Cells} {Q : Bool -> Cells -> Prop} (q : Of (xC2 op op' xa xb' xc) δ h Q) : dChain (Of2 fun u w h => (xCmp op u w h).map asW) (Of2 fun u w h => (xCmp op' u w h).map asW) (Of xa) (Of xb') (Of xc) δ h (fun w h' => match w with | .d (.bool b) => Q b h' | _ => False) := by
 obtain ⟨x, h1, e1, q⟩ := of_b q
 obtain ⟨y, h2, e2, q⟩ := of_b q
 obtain ⟨r, hr, e, q⟩ := q
 obtain ⟨⟨k, h3⟩, e3, e⟩ := bind_some e
 refine ⟨x, h1, e1, y, h2, e2, .d (.bool k), h3, congrArg (Option.map asW) e3, ?_⟩
 dsimp only at e ⊢
 cases k with
 | false =>
  rw [if_neg Bool.false_ne_true] at e ⊢
  cases e
  exact q
 | true =>
  rw [if_pos rfl] at e ⊢
  obtain ⟨⟨z, h4⟩, e4, e⟩ := bind_some e
  exact ⟨z, h4, e4, .d (.bool r), hr, congrArg (Option.map asW) e, q⟩
theorem o_c3 {δ : DSt} {h : Cells} {Q : Bool -> Cells -> Prop} (q : Of (xC3 op op' op'' xa xb' xc xd) δ h Q) : dChain3 (Of2 fun u w h => (xCmp op u w h).map asW) (Of2 fun u w h => (xCmp op' u w h).map asW) (Of2 fun u w h => (xCmp op'' u w h).map asW) (Of xa) (Of xb') (Of xc) (Of xd) δ h (fun w h' => match w with | .d (.bool b) => Q b h' | _ => False) := by
 obtain ⟨x, h1, e1, q⟩ := of_b q
 obtain ⟨y, h2, e2, q⟩ := of_b q
 obtain ⟨r, hr, e, q⟩ := q
 obtain ⟨⟨k, h3⟩, e3, e⟩ := bind_some e
 refine ⟨x, h1, e1, y, h2, e2, .d (.bool k), h3, congrArg (Option.map asW) e3, ?_⟩
 dsimp only at e ⊢
 cases k with
 | false =>
  rw [if_neg Bool.false_ne_true] at e ⊢
  cases e
  exact q
 | true =>
  rw [if_pos rfl] at e ⊢
  obtain ⟨⟨z, h4⟩, e4, e⟩ := bind_some e
  obtain ⟨⟨k', h5⟩, e5, e⟩ := bind_some e
  refine ⟨z, h4, e4, .d (.bool k'), h5, congrArg (Option.map asW) e5, ?_⟩
  dsimp only at e ⊢
  cases k' with
  | false =>
   rw [if_neg Bool.false_ne_true] at e ⊢
   cases e
   exact q
  | true =>
   rw [if_pos rfl] at e ⊢
   obtain ⟨⟨z', h6⟩, e6, e⟩ := bind_some e
   exact ⟨z', h6, e6, .d (.bool r), hr, congrArg (Option.map asW) e, q⟩
theorem boolK {Q : DK} {w : W} {h : Cells} (q : match w with | .d (.bool b) => Q (.d (.bool b)) h | _ => False) : Q w h := by
 split at q
 ·exact q
 ·exact q.elim
end
theorem of_mono {α : Type} {x : XR α} {δ : DSt} {h : Cells} {Q Q' : α -> Cells -> Prop} (m : ∀ a h, Q a h -> Q' a h) (q : Of x δ h Q) : Of x δ h Q' := by
 obtain ⟨a, h', e, q⟩ := q
 exact ⟨a, h', e, m _ _ q⟩
theorem of2_mono {f : W -> W -> Cells -> Option (W × Cells)} {u w : W} {h : Cells} {Q Q' : DK} (m : ∀ a h, Q a h -> Q' a h) (q : Of2 f u w h Q) : Of2 f u w h Q' := by
 obtain ⟨a, h', e, q⟩ := q
 exact ⟨a, h', e, m _ _ q⟩
theorem c2_mono {f g : W -> W -> Cells -> Option (W × Cells)} {xa xb' xc : XR W} {δ : DSt} {h : Cells} {Q Q' : DK} (m : ∀ a h, Q a h -> Q' a h) (q : dChain (Of2 f) (Of2 g) (Of xa) (Of xb') (Of xc) δ h Q) : dChain (Of2 f) (Of2 g) (Of xa) (Of xb') (Of xc) δ h Q' := by
 refine of_mono (fun x h1 q => of_mono (fun y h2 q => of2_mono (fun z h3 q => ?_) q) q) q
 split at q
 ·rename_i k
  cases k with
  | false => exact m _ _ q
  | true => exact of_mono (fun u h4 q => of2_mono m q) q
 ·exact q.elim
theorem c3_mono {f g k : W -> W -> Cells -> Option (W × Cells)} {xa xb' xc xd : XR W} {δ : DSt} {h : Cells} {Q Q' : DK} (m : ∀ a h, Q a h -> Q' a h) (q : dChain3 (Of2 f) (Of2 g) (Of2 k) (Of xa) (Of xb') (Of xc) (Of xd) δ h Q) : dChain3 (Of2 f) (Of2 g) (Of2 k) (Of xa) (Of xb') (Of xc) (Of xd) δ h Q' := by
 refine of_mono (fun x h1 q => of_mono (fun y h2 q => of2_mono (fun z h3 q => ?_) q) q) q
 split at q
 ·rename_i k
  cases k with
  | false => exact m _ _ q
  | true =>
   refine of_mono (fun u h4 q => of2_mono (fun z' h5 q => ?_) q) q
   split at q
   ·rename_i k'
    cases k' with
    | false => exact m _ _ q
    | true => exact of_mono (fun u' h6 q => of2_mono m q) q
   ·exact q.elim
 ·exact q.elim
theorem e_compare1 (S : Snd v) (G : Good X st d) : ∀ {ops : List CmpOp} {cs : List Expr}, DE X (.Compare a ops cs pos) (Of (xMapW (xCompare v st a ops cs)))
 | [op], [b] => by
  show DE X _ (Of (xMapW (match tabOf st b with
   | some f => if op = .NotIn then xTabN f (v.E st a) else xno
   | none => if behindInMarks op b = true then xno else xC1 op (v.E st a) (v.E st b))))
  cases ht : tabOf st b with
  | some f =>
   obtain ⟨y, p, pp, rfl, h1, h2, h3, h4⟩ := tab_of G ht
   dsimp only
   split
   ·rename_i ho
    subst ho
    refine de_m (de_notInK h4 h3 (S.E G a) h2 (nameOk_db h1)) fun δ h Q q => ?_
    obtain ⟨w, h1, e1, q⟩ := of_b (mapW q)
    refine ⟨w, h1, e1, ?_⟩
    dsimp only at q ⊢
    split at q
    ·have z := of_pure q
     exact z
    ·have z := of_pure q
     exact z
    ·exact (of_no q).elim
   ·exact de_m de_no fun δ h Q q => (of_no (mapW q)).elim
  | none =>
   dsimp only
   split
   ·exact de_m de_no fun δ h Q q => (of_no (mapW q)).elim
   ·rename_i hm
    exact de_m (de_cmp (op_xCmp G.rm op) (S.E G a) (S.E G b) (by simpa using hm)) fun δ h Q q => of_mono (fun x h1 q => of_mono (fun y h2 q => of2_mono (fun _ _ => boolK) q) q) (o_c1 (mapW q))
 | [op, op'], [b, c] => by
  show DE X _ (Of (xMapW (if lastMarks [op, op'] [b, c] = true then xno else xC2 op op' (v.E st a) (v.E st b) (v.E st c))))
  split
  ·exact de_m de_no fun δ h Q q => (of_no (mapW q)).elim
  ·rename_i hm
   exact de_m (de_chain (op_xCmp G.rm op) (op_xCmp G.rm op') (S.E G a) (S.E G b) (S.E G c) (by simpa using hm)) fun δ h Q q => c2_mono (fun _ _ => boolK) (o_c2 (mapW q))
 | [], _ => de_m de_no fun δ h Q q => (of_no (mapW q)).elim
 | [_], [] => de_m de_no fun δ h Q q => (of_no (mapW q)).elim
 | [_], _ :: _ :: _ => de_m de_no fun δ h Q q => (of_no (mapW q)).elim
 | [_, _], [] => de_m de_no fun δ h Q q => (of_no (mapW q)).elim
 | [_, _], [_] => de_m de_no fun δ h Q q => (of_no (mapW q)).elim
 | [_, _], _ :: _ :: _ :: _ => de_m de_no fun δ h Q q => (of_no (mapW q)).elim
 | _ :: _ :: _ :: _, _ => de_m de_no fun δ h Q q => (of_no (mapW q)).elim
theorem e_compare (S : Snd v) (G : Good X st d) : ∀ {ops : List CmpOp} {cs : List Expr}, DE X (.Compare a ops cs pos) (Of (xMapW (xCompare3 v st a ops cs))) := fun {ops cs} => by
 unfold xCompare3
 split
 ·rename_i op op' op'' b c d'
  split
  ·exact de_m de_no fun δ h Q q => (of_no (mapW q)).elim
  ·rename_i hm
   exact de_m (de_chain3 (op_xCmp G.rm op) (op_xCmp G.rm op') (op_xCmp G.rm op'') (S.E G a) (S.E G b) (S.E G c) (S.E G d') (by simpa using hm)) fun δ h Q q => c3_mono (fun _ _ => boolK) (o_c3 (mapW q))
 ·exact e_compare1 S G
theorem t_compare (S : Snd v) (G : Good X st d) : ∀ {ops : List CmpOp} {cs : List Expr}, DT X (.Compare a ops cs pos) (Of (xCompare v st a ops cs))
 | [op], [b] => by
  show DT X _ (Of (match tabOf st b with
   | some f => if op = .NotIn then xTabN f (v.E st a) else xno
   | none => if behindInMarks op b = true then xno else xC1 op (v.E st a) (v.E st b)))
  cases ht : tabOf st b with
  | some f =>
   obtain ⟨y, p, pp, rfl, h1, h2, h3, h4⟩ := tab_of G ht
   dsimp only
   split
   ·rename_i ho
    subst ho
    refine dt_m (dt_notInK h4 h3 (S.E G a) h2 (nameOk_db h1)) fun δ h Q q => ?_
    obtain ⟨w, h1, e1, q⟩ := of_b q
    refine ⟨w, h1, e1, ?_⟩
    dsimp only at q ⊢
    split at q
    ·exact of_pure q
    ·exact of_pure q
    ·exact (of_no q).elim
   ·exact t_no
  | none =>
   dsimp only
   split
   ·exact t_no
   ·rename_i hm
    exact dt_m (dt_cmp (op_xCmp G.rm op) (S.E G a) (S.E G b) (by simpa using hm)) fun δ h Q q => o_c1 q
 | [op, op'], [b, c] => by
  show DT X _ (Of (if lastMarks [op, op'] [b, c] = true then xno else xC2 op op' (v.E st a) (v.E st b) (v.E st c)))
  split
  ·exact t_no
  ·rename_i hm
   exact dt_m (dt_chain (op_xCmp G.rm op) (op_xCmp G.rm op') (S.E G a) (S.E G b) (S.E G c) (by simpa using hm)) fun δ h Q q => o_c2 q
 | [], _ => t_no
 | [_], [] => t_no
 | [_], _ :: _ :: _ => t_no
 | [_, _], [] => t_no
 | [_, _], [_] => t_no
 | [_, _], _ :: _ :: _ :: _ => t_no
 | _ :: _ :: _ :: _, _ => t_no
theorem peq_both : (∀ x y : PyData, peq x y = true -> x = y) /\ True := ⟨fun x => by
 intro y h
 exact (PyData.rec (motive_1 := fun x => ∀ y, peq x y = true -> x = y) (motive_2 := fun xs => ∀ ys, peqs xs ys = true -> xs = ys) (motive_3 := fun _ => True) (motive_4 := fun _ => True)
  (fun y h => by cases y <;> first | rfl | (simp [peq] at h))
  (fun b y h => by cases y <;> first | (simp only [peq] at h; rw [eq_of_beq h]) | (simp [peq] at h))
  (fun b y h => by cases y <;> first | (simp only [peq] at h; rw [eq_of_beq h]) | (simp [peq] at h))
  (fun b y h => by cases y <;> first | (simp only [peq] at h; rw [eq_of_beq h]) | (simp [peq] at h))
  (fun xs ih y h => by cases y <;> first | (simp only [peq] at h; rw [ih _ h]) | (simp [peq] at h))
  (fun xs ih y h => by cases y <;> first | (simp only [peq] at h; rw [ih _ h]) | (simp [peq] at h))
  (fun kvs _ y h => by cases y <;> simp [peq] at h)
  (fun ys h => by cases ys <;> first | rfl | (simp [peqs] at h))
  (fun x xs ih1 ih2 ys h => by
   cases ys with
   | nil => simp [peqs] at h
   | cons y ys =>
    simp only [peqs, Bool.and_eq_true] at h
    rw [ih1 _ h.1, ih2 _ h.2])
  trivial (fun _ _ _ _ => trivial) (fun _ _ _ _ => trivial) x) y h, trivial⟩
theorem peqs_eq : ∀ {xs ys : List PyData}, peqs xs ys = true -> xs = ys
 | [], [], _ => rfl
 | [], _ :: _, h => by simp [peqs] at h
 | _ :: _, [], h => by simp [peqs] at h
 | x :: xs, y :: ys, h => by
  simp only [peqs, Bool.and_eq_true] at h
  rw [peq_both.1 x y h.1, peqs_eq h.2]
theorem cond_of {c : Option Nat} {xs : List PyData} {h : Cells} (e : condB c xs h = true) : DL.cond c xs h := by
 cases c with
 | none => trivial
 | some i =>
  show h[i]? = some (.l xs)
  unfold condB at e
  dsimp only at e
  split at e
  ·rename_i ys q
   rw [q, peqs_eq e]
  ·cases e
theorem i_each {tg : Expr} {y : XR W} (h : DE X e (Of y)) : DI X tg e (OfI (xEach y)) := di_m (di_each h) fun δ h Q q => by
 obtain ⟨xs, c, h', e, q⟩ := q
 obtain ⟨⟨w, h1⟩, e1, e⟩ := bind_some e
 refine ⟨w, h1, e1, ?_⟩
 dsimp only at e ⊢
 split at e
 ·cases e; exact q
 ·cases e; exact q
 ·split at e
  ·rename_i ys ey
   try dsimp only
   try rw [ey]
   cases e; exact q
  ·cases e
 ·cases e
theorem rng_ok {i j : Int} (h : rngB i j = true) : j - i <= 16000000 /\ -(2 ^ 62) <= i /\ i < 2 ^ 62 /\ -(2 ^ 62) <= j /\ j < 2 ^ 62 := by
 unfold rngB at h
 simpa only [Bool.and_eq_true, decide_eq_true_eq] using h
theorem i_no {tg : Expr} {y : XR (List PyData × Option Nat)} (n : ∀ δ h, y δ h = none) : DI X tg e (OfI y) := di_m di_no fun δ h Q q => by
 obtain ⟨_, _, _, e, _⟩ := q
 rw [n] at e
 cases e
theorem i_iter (S : Snd v) (G : Good X st d) {tg : Expr} : ∀ e, DI X tg e (OfI (xIter v st tg e)) := fun e => by
 unfold xIter
 split
 ·rename_i x p a p'
  split
  ·rename_i hx
   subst hx
   split
   ·rename_i hc
    simp only [Bool.and_eq_true] at hc
    obtain ⟨⟨⟨ht, _⟩, hb⟩, hs⟩ := hc
    refine di_m (di_range1 (G.bl _ hb) (da_cons (S.E G a) da_nil (star_cons hs _)) (top_of G ht).2 (star_cons hs _)) fun δ h Q q => ?_
    obtain ⟨xs, c, h', e, q⟩ := q
    obtain ⟨⟨w, h1⟩, e1, e⟩ := bind_some e
    refine ⟨w, h1, e1, ?_⟩
    dsimp only [dNil] at e ⊢
    split at e
    ·split at e
     ·rename_i hr
      have z := rng_ok hr
      cases e
      exact ⟨⟨by omega, z.2.2.2.1⟩, q⟩
     ·cases e
    ·cases e
   ·exact i_no fun _ _ => rfl
  ·split
   ·rename_i hx
    subst hx
    split
    ·rename_i hc
     simp only [Bool.and_eq_true] at hc
     obtain ⟨⟨⟨⟨ht, _⟩, hb⟩, hs⟩, htg⟩ := hc
     have htu : ∃ es n tp, tg = .Tuple es n tp := by
      unfold isTup at htg
      split at htg
      ·exact ⟨_, _, _, rfl⟩
      ·cases htg
     obtain ⟨es, n, tp, rfl⟩ := htu
     refine di_m (di_enum (G.bl _ hb) (da_cons (S.E G a) da_nil (star_cons hs _)) (top_of G ht).2 (star_cons hs _)) fun δ h Q q => ?_
     obtain ⟨xs, c, h', e, q⟩ := q
     obtain ⟨⟨u, h1⟩, e1, e⟩ := bind_some e
     refine ⟨u, h1, e1, ?_⟩
     dsimp only [dNil] at e ⊢
     split at e
     ·rename_i xs' ex
      cases e
      exact ⟨u, xs', rfl, ex, q⟩
     ·cases e
    ·exact i_no fun _ _ => rfl
   ·exact i_each (S.E G _)
 ·rename_i x p a b p'
  split
  ·rename_i hx
   subst hx
   split
   ·rename_i hc
    simp only [Bool.and_eq_true] at hc
    obtain ⟨⟨⟨⟨ht, _⟩, hb⟩, hs⟩, hs2⟩ := hc
    refine di_m (di_range2 (G.bl _ hb) (da_cons (S.E G a) (da_cons (S.E G b) da_nil (star_cons hs2 _)) (star_cons hs _)) (top_of G ht).2 (by rw [star_cons hs, star_cons hs2]; rfl) (star_cons hs2 _)) fun δ h Q q => ?_
    obtain ⟨xs, c, h', e, q⟩ := q
    obtain ⟨⟨u, h1⟩, e1, e⟩ := bind_some e
    obtain ⟨⟨w, h2⟩, e2, e⟩ := bind_some e
    refine ⟨u, h1, e1, w, h2, e2, ?_⟩
    dsimp only [dNil] at e ⊢
    split at e
    ·split at e
     ·rename_i hr
      have z := rng_ok hr
      cases e
      exact ⟨z, q⟩
     ·cases e
    ·cases e
   ·exact i_no fun _ _ => rfl
  ·exact i_each (S.E G _)
 ·split
  ·exact i_no fun _ _ => rfl
  ·exact i_each (S.E G _)
theorem folded (h : isSet e = false) (env : Env) (y : Value) : foldedSetIterable e env y = pure y := by
 cases e <;> first | rfl | cases h
theorem compX_ok {g : XG} {tt : XR Bool} {te : XR W} {c : Option Nat} {all : List PyData} {Q : List PyData -> Cells -> Prop} : ∀ (rest : List PyData) (δ : DSt) (h : Cells) (ac r : List PyData) (h' : Cells), compX g tt te c all rest δ h ac = some (r, h') -> Q r h' -> compL (OfG g) (Of tt) (Of te) c all rest δ h ac Q
 | [], δ, h, ac, r, h', e, q => by
  unfold compX at e
  split at e
  ·rename_i hc
   cases e
   exact ⟨cond_of hc, q⟩
  ·cases e
 | x :: rest, δ, h, ac, r, h', e, q => by
  unfold compX at e
  split at e
  ·rename_i hc
   obtain ⟨⟨δ2, h2⟩, e1, e⟩ := bind_some e
   obtain ⟨⟨k, h3⟩, e2, e⟩ := bind_some e
   refine ⟨cond_of hc, δ2, h2, e1, k, h3, e2, ?_⟩
   dsimp only at e ⊢
   split at e
   ·rename_i hk
    rw [if_pos hk]
    obtain ⟨⟨w, h4⟩, e3, e⟩ := bind_some e
    refine ⟨w, h4, e3, ?_⟩
    cases w with
    | d z => exact compX_ok rest δ2 h4 (ac ++ [z]) r h' e q
    | c i => cases e
    | v u => cases e
   ·rename_i hk
    rw [if_neg hk]
    exact compX_ok rest δ2 h3 ac r h' e q
  ·cases e
theorem blkIx_len (N : List Str) (sc : Scope) : (blkIx N sc).length = (blkN sc).length := by unfold blkIx; rw [List.length_map]
theorem comp_sc {N : List Str} {sc S : Scope} (h : compB N sc S = true) : CompSc N (blkN sc) (blkIx N sc) S sc := by
 unfold compB at h
 simp only [Bool.and_eq_true, decide_eq_true_eq, List.all_eq_true] at h
 obtain ⟨h1, h2, h3, h4, h5, h6⟩ := h
 refine ⟨h1, fun y hy e => ?_, fun y hy e => ?_, fun y hy e => ?_, h5, blkIx_len N sc, ?_⟩
 ·have := h2 y hy
  rw [e] at this
  simp at this
 ·have := h3 y hy
  rw [e] at this
  simpa using this
 ·have := h4 y hy
  rw [e] at this
  simpa using this
 ·rw [List.all_eq_true]
  exact h6
theorem good_blk (G : Good X st d) {sc : Scope} (hc : compB st.N sc st.S = true) (cl : List (Str × Addr)) (C : Addr) (s : Shared) (H : Hp) (fp : List Addr) : Good (blk X (blkN sc) sc cl C s H fp) (st.blk sc) d := by
 have SC := comp_sc hc
 refine ⟨G.bl, G.gc, G.tk, G.fn, rfl, ?_, SC.nd, G.xe, G.calm, G.rm, (fun z => nomatch z), SC.kind, G.fnF, (fun _ _ z => nomatch z)⟩
 show relabel sc X.env = blkS sc st.S
 unfold relabel blkS Env.kindOf
 rw [G.S]
theorem ifs_ok (S : Snd v) (G : Good X st d) : ∀ ifs, DIf X ifs (Of (xIfs v st ifs))
 | [] => dif_m dif_nil fun δ h Q q => of_pure q
 | [c] => dif_one (S.T G c)
 | _ :: _ :: _ => fun pins s σ H Q I ⟨_, _, _, _, _, _, q, _⟩ => (of_no q).elim
theorem f_comp (S : Snd v) (G : Good X st d) {elt tg iter : Expr} {ifs : List Expr} {sc : Scope} : DF X (.ListComp elt [⟨tg, iter, ifs, 0⟩] sc pos) (Of (xComp v st elt tg iter ifs sc)) := by
 unfold xComp
 split
 ·rename_i hc
  rw [Bool.and_eq_true] at hc
  have hs : isSet iter = false := by simpa using hc.2
  refine df_m (df_comp G.xe G.calm G.S G.N (comp_sc hc.1) (i_iter S G iter) (fun cl C s H fp => S.G (good_blk G hc.1 cl C s H fp) tg) (fun cl C s H fp => ifs_ok S (good_blk G hc.1 cl C s H fp) ifs)
   (fun cl C s H fp => S.E (good_blk G hc.1 cl C s H fp) elt) (folded hs _)) fun δ h Q q => ?_
  obtain ⟨r, h', e, q⟩ := q
  obtain ⟨⟨⟨xs, c⟩, h1⟩, e1, e⟩ := bind_some e
  exact ⟨xs, c, h1, e1, compX_ok _ _ _ _ _ _ e q⟩
 ·exact f_no
theorem f_pl (S : Snd v) (G : Good X st d) : DF X (.List es pos) (Of (xPl (xArgs v st es))) := df_m (df_lst (a_args S G es)) fun δ h Q q => by
 obtain ⟨ws, h1, e1, q⟩ := of_b q
 refine ⟨ws, h1, e1, ?_⟩
 obtain ⟨r, h', e, q⟩ := q
 dsimp only at e ⊢
 split at e
 ·rename_i xs ex
  try rw [ex]
  split at e
  ·rename_i hl; cases e; exact ⟨hl, q⟩
  ·cases e
 ·cases e
theorem f_step (S : Snd v) (G : Good X st d) : ∀ e, DF X e (Of (stepF v st e)) := fun e => by
 unfold stepF
 split
 ·exact f_pl S G
 ·rename_i elt tg iter ifs a' sc p
  split
  ·rename_i ha
   subst ha
   exact f_comp S G
  ·exact f_no
 ·rename_i a lo hi p2 p
  refine df_m (df_slL (S.E G a) (o_opt S G lo) (o_opt S G hi)) fun δ h Q q => ?_
  obtain ⟨x, h1, e1, q⟩ := of_b q
  obtain ⟨l, h2, e2, q⟩ := of_b q
  obtain ⟨u, h3, e3, q⟩ := of_b q
  obtain ⟨r, h', e, q⟩ := q
  refine ⟨x, h1, e1, l, h2, e2, u, h3, e3, ?_⟩
  dsimp only at e ⊢
  split at e
  ·rename_i xs ex
   try rw [ex]
   cases e; exact q
  ·cases e
 ·rename_i a b p
  refine df_m (df_catR (S.E G a) (S.E G b)) fun δ h Q q => ?_
  obtain ⟨x, h1, e1, q⟩ := of_b q
  obtain ⟨y, h2, e2, q⟩ := of_b q
  obtain ⟨r, h', e, q⟩ := q
  refine ⟨x, h1, e1, y, h2, e2, ?_⟩
  dsimp only at e ⊢
  split at e
  ·rename_i xs ys ex ey
   try rw [ex, ey]
   split at e
   ·rename_i hl; cases e; exact ⟨hl, q⟩
   ·cases e
  ·cases e
 ·rename_i es p b p'
  refine df_m (df_rep (e_cell (f_pl S G)) (S.E G b)) fun δ h Q q => ?_
  obtain ⟨x, h1, e1, q⟩ := of_b q
  obtain ⟨y, h2, e2, q⟩ := of_b q
  obtain ⟨r, h', e, q⟩ := q
  refine ⟨x, h1, e1, y, h2, e2, ?_⟩
  dsimp only at e ⊢
  split at e
  ·split at e
   ·rename_i xs ex
    try dsimp only
    try rw [ex]
    split at e
    ·rename_i hl; cases e; exact ⟨hl, q⟩
    ·cases e
   ·cases e
  ·cases e
 ·rename_i x p a es p'
  split
  ·rename_i hx
   subst hx
   split
   ·rename_i hc
    simp only [Bool.and_eq_true] at hc
    obtain ⟨⟨ht, _⟩, hb⟩ := hc
    refine f_by ((a :: es).all notStar = true) (fun δ h r e => ?_) fun hst => ?_
    ·obtain ⟨p, e1, _⟩ := bind_some e
     exact args_star _ _ _ _ e1
    ·have hst' := hst
     rw [List.all_cons, Bool.and_eq_true] at hst'
     refine df_m (df_list (G.bl _ hb) (a_args S G (a :: es)) (top_of G ht).2 (star_cons hst'.1 _) (star_any es _ _ hst'.2)) fun δ h Q q => ?_
     obtain ⟨ws, h1, e1, q⟩ := of_b q
     obtain ⟨r, h', e, q⟩ := q
     refine ⟨ws, h1, e1, ?_⟩
     dsimp only at e ⊢
     split at e
     ·split at e
      ·rename_i xs ex
       try dsimp only
       try rw [ex]
       cases e; exact q
      ·rename_i xs ex
       try dsimp only
       try rw [ex]
       cases e; exact q
      ·cases e
     ·cases e
   ·exact f_no
  ·split
   ·rename_i m hm
    split
    ·rename_i hc
     rw [Bool.and_eq_true] at hc
     obtain ⟨hn, hg⟩ := top_of G hc.1
     refine f_by ((a :: es).all notStar = true) (fun δ h r e => ?_) fun hst => ?_
     ·obtain ⟨p, e1, e⟩ := bind_some e
      exact argsC_star _ _ _ _ _ _ e1
     have hst' := hst
     rw [List.all_cons, Bool.and_eq_true] at hst'
     refine df_m (df_call (G.fnF x m hm) G.rm (a_argsC S G (st.ac x) (a :: es) 0) hg (nameOk_db hn) (star_cons hst'.1 _) (star_any _ _ _ hst'.2)) fun δ h Q q => ?_
     obtain ⟨ws, h1, e1, q⟩ := of_b q
     exact ⟨ws, h1, e1, q⟩
    ·exact f_no
   ·exact f_no
 ·exact f_no
end
end CI
namespace CI
open PySem PySem.Spec PyProof.Rows L2 DL
section
variable {X : Cx} {st : Sta} {d : Nat} {x : Str} {v : Evs} {a b c e : Expr} {es : List Expr} {pos : Pos}
theorem strOk_slice {z : Str} {lo hi : Option Int} (h : PyData.strOk z = true) : PyData.strOk (Txt.slice z lo hi) = true := by
 unfold Txt.slice
 split
 ·exact h
 ·unfold PyData.strOk at h ⊢
  rw [Array.all_eq_true'] at h ⊢
  intro c hc
  have hc' := (List.mem_toArray).mp hc
  obtain ⟨i, _, e⟩ := List.mem_filterMap.mp hc'
  exact h c (Array.mem_of_getElem? e)
def dSlU (te : DTE) (tl th : DTO) : DTE := fun δ h Q => dSl3 te tl th (fun x lo hi h3 => match x with
 | .d (.str z) => z.length <= sizeLine /\ Q (.d (.str (Txt.slice z lo hi))) h3
 | _ => False) δ h
theorem de_slU {te : DTE} {tl th : DTO} {lo hi : Option Expr} {p2 : Pos} (he : DE X e te) (hl : DO X lo tl) (hh : DO X hi th) : DE X (.Subscript e (.Slice lo hi none p2) pos) (dSlU te tl th) := pe_mono (pe_slice sl_str he hl hh) fun σ H Q q => by
 obtain ⟨δ, h, A, μ, k, R, q, c⟩ := q
 refine ⟨δ, h, A, μ, _, R, q, fun w h1 v H1 A1 μ1 q1 x1 R1 r1 => ?_⟩
 refine ⟨δ, h1, A1, μ1, _, ⟨R1, R.2.ext x1 R.1.sub⟩, q1, fun l h2 H2 A2 μ2 q2 x2 R2 => ?_⟩
 refine ⟨δ, h2, A2, μ2, _, ⟨R2, (R.2.ext x1 R.1.sub).ext x2 R1.sub⟩, q2, fun u h3 H3 A3 μ3 q3 x3 R3 => ?_⟩
 dsimp only at q3
 split at q3
 ·rename_i z
  have r' : Rep X.K A1 H1 (.str z) v := r1
  rw [Rep] at r'
  exact ⟨_, r'.1, q3.1, c _ h3 _ H3 A3 μ3 q3.2 ((x1.trans x2).trans x3) R3 (repW_s (strOk_slice r'.2))⟩
 ·exact q3.elim
theorem bfun_ok (G : Good X st d) {g : List W -> Cells -> Option (W × Cells)} (e : bfun x = some g) :
  (∃ id, bootBuiltins x = some (.builtin id) /\ CallR X (.builtin id) (upC X.K (OfC g))) \/ ∃ T, bootBuiltins x = some (.type T) /\ CallR X (.type T) (upC X.K (OfC g)) := by
 unfold bfun at e
 split at e
 ·rename_i hx
  subst hx
  cases e
  refine .inl ⟨"len", rfl, call_m call_dLen fun ws h Q ⟨r, h', e, q⟩ => ?_⟩
  unfold xLen at e
  unfold dLen
  split at e
  ·split at e
   ·rename_i ey; dsimp only; rw [ey]; cases e; exact q
   ·rename_i ey; dsimp only; rw [ey]; cases e; exact q
   ·cases e
  ·cases e
 split at e
 ·rename_i hx
  subst hx
  cases e
  refine .inr ⟨"tuple", rfl, call_m call_dTuple fun ws h Q ⟨r, h', e, q⟩ => ?_⟩
  unfold xTuple at e
  unfold dTuple
  split at e
  ·split at e
   ·rename_i ey; dsimp only; rw [ey]; cases e; exact q
   ·rename_i ey; dsimp only; rw [ey]; cases e; exact q
   ·cases e
  ·cases e
 split at e
 ·rename_i hx
  subst hx
  cases e
  refine .inl ⟨"all", rfl, call_m (call_dAll G.calm) fun ws h Q ⟨r, h', e, q⟩ => ?_⟩
  unfold xAll at e
  unfold dAll
  split at e
  ·split at e
   ·rename_i ey
    dsimp only
    rw [ey]
    obtain ⟨bs, e1, e2⟩ := map_some e
    dsimp only
    rw [e1]
    cases e2; exact q
   ·cases e
  ·cases e
 split at e
 ·rename_i hx
  subst hx
  cases e
  exact .inl ⟨"any", rfl, call_dAny G.calm⟩
 split at e
 ·rename_i hx
  subst hx
  cases e
  exact .inl ⟨"max", rfl, call_dMax G.calm⟩
 split at e
 ·rename_i hx
  subst hx
  cases e
  exact .inl ⟨"sorted", rfl, call_dSrtI⟩
 ·cases e
theorem isi_ok {T : Str} {Ts : String} (e : isiT T = some Ts) : kitOk Ts /\ bootBuiltins T = some (.type Ts) := by
 unfold isiT at e
 repeat' split at e
 all_goals first | (rename_i h; subst h; cases e; exact ⟨kit_int, rfl⟩) | (rename_i h; subst h; cases e; exact ⟨kit_bool, rfl⟩) | (rename_i h; subst h; cases e; exact ⟨kit_str, rfl⟩) | (rename_i h; subst h; cases e; exact ⟨kit_tuple, rfl⟩) | (rename_i h; subst h; cases e; exact ⟨kit_list, rfl⟩) | cases e
theorem base_of {o : Expr} (h : noCall o = true) (m : Str) (env : Env) : attributeBase o m env (eval o env) = eval o env := by
 cases o <;> first | rfl | cases h
theorem few_of (h : (e :: es).all notStar = true) (hl : (e :: es).length < 29) (env : Env) (cpos : Pos) :
  ((backTo cpos (starEach (e :: es) env)).all (fun x => !x.1) && (backToKw cpos (keywordEach [] env)).all (fun x => x.1.isSome)
   && decide ((e :: es).length + ([] : List Keyword).length + (if ([] : List Keyword).isEmpty then 0 else 1) < 30)) = true := by
 rw [star_all _ _ _ h]
 have : (e :: es).length + 0 + 0 < 30 := by omega
 show (true && true && decide _) = true
 simp only [Bool.true_and, decide_eq_true_eq]
 exact this
theorem e_method (S : Snd v) (G : Good X st d) {o : Expr} {m : Str} {apos : Pos} {g : W -> List W -> Cells -> Option (W × Cells)} (ho : noCall o = true) (hl : (apos.endLine == pos.line) = true) (hn : (a :: es).length < 29) (hm : mfun m = some g) :
  DE X (.Call (.Attribute o m apos) (a :: es) [] pos) (Of (xMeth v st o m g (a :: es))) := by
 refine e_by ((a :: es).all notStar = true) (fun δ h r e => ?_) fun hst => ?_
 ·obtain ⟨p, e1, e⟩ := bind_some e
  dsimp only at e
  split at e
  ·obtain ⟨p, e2, e⟩ := bind_some e
   exact args_star _ _ _ _ e2
  ·cases e
 have hst' := hst
 rw [List.all_cons, Bool.and_eq_true] at hst'
 unfold mfun at hm
 split at hm
 ·rename_i hx
  subst hx
  cases hm
  refine de_m (de_app (S.E G o) (a_args S G (a :: es)) (base_of ho _ _) (few_of hst hn _ _) hl (star_cons hst'.1 _) (star_any _ _ _ hst'.2)) fun δ h Q q => ?_
  obtain ⟨w, h1, e1, q⟩ := of_b q
  refine ⟨w, h1, e1, ?_⟩
  obtain ⟨r, h', e, q⟩ := q
  dsimp only at e ⊢
  split at e
  ·rename_i hp
   obtain ⟨⟨ws, h2⟩, e2, e⟩ := bind_some e
   dsimp only at e
   split at e
   ·rename_i j x _
    dsimp only
    have hp' : ∃ ys, h1[j]? = some (.l ys) := by
     unfold mpre at hp
     rw [if_pos rfl] at hp
     dsimp only at hp
     split at hp
     ·rename_i ys ey; exact ⟨ys, ey⟩
     ·cases hp
    obtain ⟨ys, ey⟩ := hp'
    rw [ey]
    refine ⟨_, h2, e2, ?_⟩
    dsimp only
    split at e
    ·rename_i xs ex
     rw [ex]
     split at e
     ·rename_i hl
      cases e
      exact ⟨hl, q⟩
     ·cases e
    ·cases e
   ·cases e
  ·cases e
 ·cases hm
theorem e_pop (S : Snd v) (G : Good X st d) {o : Expr} {apos : Pos} (ho : noCall o = true) (hl : (apos.endLine == pos.line) = true) (ha : notStar a = true) :
  DE X (.Call (.Attribute o "pop" apos) [a] [] pos) (Of (xPop v st o a)) := by
 intro pins s σ H Q I hq
 obtain ⟨δ, h, A, μ, k, R, ⟨r, h', e, q⟩, c⟩ := hq
 obtain ⟨⟨w, h1⟩, e1, e⟩ := bind_some e
 dsimp only at e
 have hst : [a].all notStar = true := by simp [ha]
 split at e
 ·rename_i j
  split at e
  ·rename_i xs ex
   obtain ⟨⟨ws, h2⟩, e2, e⟩ := bind_some e
   refine de_pop (S.E G o) (a_args S G [a]) (base_of ho _ _) (few_of hst (by simp) _ _) hl (star_cons ha _) (star_any _ _ _ rfl) pins s σ H Q I ⟨δ, h, A, μ, k, R, ⟨.c j, h1, e1, ?_⟩, c⟩
   dsimp only
   rw [ex]
   refine ⟨ws, h2, e2, ?_⟩
   unfold popL at e
   dsimp only at e ⊢
   split at e
   ·rename_i i ys ey
    obtain ⟨n, e3, e⟩ := bind_some e
    obtain ⟨x, e4, e⟩ := bind_some e
    split at e
    ·rename_i hi
     cases e
     try rw [ey]
     exact ⟨n, x, e3, e4, hi.1, hi.2, q⟩
    ·cases e
   ·cases e
  ·rename_i xs ex
   obtain ⟨⟨w2, h2⟩, e2, e⟩ := bind_some e
   refine de_dpop (S.E G o) (S.E G a) (base_of ho _ _) (few_of hst (by simp) _ _) hl (star_cons ha _) pins s σ H Q I ⟨δ, h, A, μ, k, R, ⟨.c j, h1, e1, ?_⟩, c⟩
   dsimp only
   rw [ex]
   refine ⟨w2, h2, e2, ?_⟩
   unfold popK at e
   dsimp only at e ⊢
   split at e
   ·rename_i y ys ey
    obtain ⟨n, e3, e⟩ := bind_some e
    obtain ⟨p, e4, e5⟩ := map_some e
    cases e5
    try rw [ey]
    exact ⟨n, p, e3, e4, q⟩
   ·cases e
  ·cases e
 ·cases e
theorem e_call (S : Snd v) (G : Good X st d) {f : Expr} {args : List Expr} : DE X (.Call f args [] pos) (Of (xCall v st f args pos)) := by
 unfold xCall
 split
 ·rename_i y p
  split
  ·rename_i hc
   rw [Bool.and_eq_true] at hc
   obtain ⟨ht, hs⟩ := hc
   obtain ⟨hn, hg⟩ := top_of G ht
   split
   ·rename_i m hm
    split
    ·exact e_no
    ·rename_i a es
     refine e_by ((a :: es).all notStar = true) (fun δ h r e => ?_) fun hst => ?_
     ·obtain ⟨p, e1, e⟩ := bind_some e
      exact argsC_star _ _ _ _ _ _ e1
     have hst' := hst
     rw [List.all_cons, Bool.and_eq_true] at hst'
     refine de_m (de_call (G.fn y m hm) G.rm (a_argsC S G (st.ac y) (a :: es) 0) hg (nameOk_db hn) (star_cons hst'.1 _) (star_any _ _ _ hst'.2)) fun δ h Q q => ?_
     obtain ⟨ws, h1, e1, q⟩ := of_b q
     refine ⟨ws, h1, e1, ?_⟩
     obtain ⟨r, h', e, q⟩ := q
     obtain ⟨p, e2, e3⟩ := bind_some e
     cases e3
     exact ⟨p.1, p.2, e2, q⟩
   ·split
    ·rename_i hb
     split
     ·rename_i g hg'
      split
      ·exact e_no
      ·rename_i a es
       refine e_by ((a :: es).all notStar = true) (fun δ h r e => ?_) fun hst => ?_
       ·obtain ⟨p, e1, e⟩ := bind_some e
        exact args_star _ _ _ _ e1
       have hst' := hst
       rw [List.all_cons, Bool.and_eq_true] at hst'
       rcases bfun_ok G hg' with ⟨id, hv, hcr⟩ | ⟨T, hv, hcr⟩
       ·refine de_m (de_callB hcr (G.bl _ hb) (a_args S G (a :: es)) hv hg (nameOk_nm hn) (nameOk_db hn) (star_cons hst'.1 _) (star_any _ _ _ hst'.2)) fun δ h Q q => ?_
        obtain ⟨ws, h1, e1, q⟩ := of_b q
        exact ⟨ws, h1, e1, q⟩
       ·refine de_m (de_callTy hcr (G.bl _ hb) (a_args S G (a :: es)) hv hg (nameOk_nm hn) (nameOk_db hn) (star_cons hst'.1 _) (star_any _ _ _ hst'.2)) fun δ h Q q => ?_
        obtain ⟨ws, h1, e1, q⟩ := of_b q
        exact ⟨ws, h1, e1, q⟩
     ·split
      ·rename_i hx
       subst hx
       split
       ·rename_i e0 T pT
        split
        ·rename_i hc
         simp only [Bool.and_eq_true] at hc
         obtain ⟨⟨⟨h1, h2⟩, h3⟩, h4⟩ := hc
         obtain ⟨hnT, hgT⟩ := top_of G h2
         split
         ·rename_i Ts hT
          obtain ⟨hk, hv⟩ := isi_ok hT
          refine de_m (de_isi hk (G.bl _ hb) (G.bl _ h4) (S.E G e0) hv hg hgT (nameOk_nm hnT) (nameOk_db hnT) (star_cons h1 _) (star_cons rfl _) (star_any _ _ _ rfl)) fun δ h Q q => ?_
          obtain ⟨w, h1, e1, q⟩ := of_b q
          refine ⟨w, h1, e1, ?_⟩
          obtain ⟨r, h', e, q⟩ := q
          obtain ⟨z, e2, e3⟩ := bind_some e
          rw [e2]
          cases e3
          exact q
         ·exact e_no
        ·exact e_no
       ·exact e_no
      ·exact e_frz (f_step S G _)
    ·exact e_no
  ·exact e_no
 ·rename_i o m apos
  split
  ·rename_i hc
   rw [Bool.and_eq_true] at hc
   split
   ·exact e_no
   ·rename_i a es
    split
    ·rename_i hm
     subst hm
     split
     ·split
      ·rename_i hz
       exact e_pop S G hc.1 hc.2 hz
      ·exact e_no
     ·exact e_no
    split
    ·rename_i hl
     split
     ·rename_i g hg
      exact e_method S G hc.1 hc.2 (by simpa using hl) hg
     ·exact e_no
    ·exact e_no
  ·exact e_no
 ·exact e_no
theorem plainIx (h : isSl e = false) : PlainIx e := by
 intro o i
 cases e <;> first | rfl | cases h
theorem okB_of (G : Good X st d) (h : okB st x = true) : Gl X x /\ X.mg x = none := by
 unfold okB at h
 simp only [Bool.and_eq_true] at h
 exact ⟨(top_of G h.1.1.1).2, G.bl _ h.1.2⟩
theorem e_fuse (S : Snd v) (G : Good X st d) {f : Expr} {args : List Expr} : DE X (.Call f args [] pos) (Of (xFuse v st f args pos)) := by
 unfold xFuse
 split
 ·rename_i x p y p2 as pos2
  split
  ·rename_i hxy
   obtain ⟨rfl, rfl⟩ := hxy
   split
   ·rename_i a
    split
    ·rename_i hc
     simp only [Bool.and_eq_true] at hc
     obtain ⟨⟨h1, h2⟩, h3⟩ := hc
     refine de_m (de_sset G.calm (okB_of G h1).1 (okB_of G h1).2 (okB_of G h2).1 (okB_of G h2).2 (a_args S G [a]) (star_cons h3 _)) fun δ h Q q => ?_
     obtain ⟨ws, h1, e1, q⟩ := of_b q
     refine ⟨ws, h1, e1, ?_⟩
     obtain ⟨r, h', e, q⟩ := q
     dsimp only at e
     unfold xSS at e
     split at e
     ·split at e
      ·rename_i er
       split at e
       ·rename_i en
        split at e
        ·rename_i hl
         cases e
         exact ⟨_, _, _, rfl, er, en, hl, q⟩
        ·cases e
       ·cases e
      ·cases e
     ·cases e
    ·exact e_no
   ·exact e_no
  ·exact e_call S G
 ·exact e_call S G
theorem lamP_eq {x y : Str} {c : Int} {lp : Pos} (h : lamP e = some (x, y, c, lp)) : ∃ a pa p1 p2 p3 p4 p5 kk, e = lamOf x y a c pa p1 p2 p3 p4 p5 lp kk := by
 unfold lamP at h
 split at h
 ·split at h
  ·rename_i hz
   obtain ⟨h1, h2⟩ := hz
   cases h
   subst h1 h2
   exact ⟨_, _, _, _, _, _, _, _, rfl⟩
  ·cases h
 ·cases h
theorem isT_eq {c : Option Cell} {P : Addr} {lp : Pos} {q : Str} (h : isT c P lp q = true) : c = some (.t P lp q) := by
 unfold isT at h
 split at h
 ·simp only [Bool.and_eq_true, decide_eq_true_eq] at h
  obtain ⟨rfl, rfl, rfl⟩ := h
  rfl
 ·cases h
theorem e_lam (S : Snd v) (G : Good X st d) {n kw : Str} {p kp : Pos} : DE X (.Call (.Name n p) [a] [⟨some kw, e, kp⟩] pos) (Of (xLam v st n a kw e)) := by
 unfold xLam
 split
 ·rename_i x y c lp P q el et
  split
  ·rename_i i ei
   split
   ·rename_i hc
    obtain ⟨rfl, rfl, h1, h2, h3, h4, h5, h6⟩ := hc
    obtain ⟨an, pa, p1, p2, p3, p4, p5, kk, rfl⟩ := lamP_eq el
    obtain ⟨rfl, ⟨c0, hcode, hK⟩, hbm⟩ := G.tb P q et
    have hv : X.env.kindOf y = some .cell := by
     unfold Env.kindOf
     rw [G.S]
     unfold cellB at h6
     split at h6
     ·rename_i e6; exact e6
     ·cases h6
    refine de_m (de_sortk (okB_of G h1).1 (okB_of G h1).2 (a_args S G [a]) (star_cons h2 _) G.rm.depth hcode hK hbm (by rw [G.N]; exact idx_at ei) hv h3 (nameOk_db h4) (nameOk_db h5) (nameOk_cd h5)) fun δ h Q q => ?_
    obtain ⟨ws, h7, e1, q⟩ := of_b q
    refine ⟨ws, h7, e1, ?_⟩
    obtain ⟨r, h', e, q⟩ := q
    unfold xSK at e
    dsimp only at e
    split at e
    ·rename_i w rows er
     split at e
     ·rename_i xs ex
      obtain ⟨ns, e2, e⟩ := bind_some e
      obtain ⟨ks, e3, e⟩ := bind_some e
      split at e
      ·rename_i hz
       cases e
       exact ⟨w, xs, ns, ks, rows, rfl, ex, e2, hz.1, er, e3, hz.2.1, isT_eq hz.2.2, q⟩
      ·cases e
     ·cases e
    ·cases e
   ·exact e_no
  ·exact e_no
 ·exact e_no
theorem e_step (S : Snd v) (G : Good X st d) : ∀ e, DE X e (Of (stepE v st e)) := fun e => by
 unfold stepE
 split
 ·exact e_name G
 ·exact e_const
 ·rename_i a op b p
  split
  ·rename_i es p'
   exact e_frz (f_step S G (.BinOp (.List es p') .Mult b p))
  ·refine de_m (de_op (op_xBin op) (S.E G a) (S.E G b)) fun δ h Q q => ?_
   obtain ⟨x, h1, e1, q⟩ := of_b q
   obtain ⟨y, h2, e2, q⟩ := of_b q
   exact ⟨x, h1, e1, y, h2, e2, q⟩
 ·exact e_compare S G
 ·exact e_andV S G _
 ·exact e_orV S G _
 ·rename_i a p
  refine de_m (de_not (S.E G a)) fun δ h Q q => ?_
  obtain ⟨w, h1, e1, q⟩ := of_b q
  refine ⟨w, h1, e1, ?_⟩
  dsimp only at q ⊢
  split at q
  ·exact of_pure q
  ·exact (of_no q).elim
 ·rename_i a p
  refine de_m (de_neg (S.E G a)) fun δ h Q q => ?_
  obtain ⟨w, h1, e1, q⟩ := of_b q
  refine ⟨w, h1, e1, ?_⟩
  dsimp only at q ⊢
  split at q
  ·exact of_pure q
  ·exact (of_no q).elim
 ·rename_i c a b p
  refine de_m (de_ifExp (S.T G c) (S.E G a) (S.E G b)) fun δ h Q q => ?_
  obtain ⟨t, h1, e1, q⟩ := of_b q
  refine ⟨t, h1, e1, ?_⟩
  dsimp only at q ⊢
  split at q
  ·rename_i ht; rw [if_pos ht]; exact q
  ·rename_i ht; rw [if_neg ht]; exact q
 ·rename_i es k p
  refine de_m (de_tup (a_args S G es)) fun δ h Q q => ?_
  obtain ⟨xs, h1, e1, q⟩ := of_b q
  obtain ⟨⟨ws, h2⟩, e2, e3⟩ := bind_some e1
  refine ⟨ws, h2, e2, ?_⟩
  dsimp only at e3 ⊢
  split at e3
  ·rename_i ys ey
   try rw [ey]
   split at e3
   ·rename_i hl
    cases e3
    exact ⟨hl, of_pure q⟩
   ·cases e3
  ·cases e3
 ·exact e_frz (f_step S G _)
 ·exact e_frz (f_step S G _)
 ·rename_i a s p
  split
  ·rename_i lo hi p2
   refine de_m (de_or2 (de_slT (S.E G a) (o_opt S G lo) (o_opt S G hi)) (de_or2 (de_slU (S.E G a) (o_opt S G lo) (o_opt S G hi)) (de_frz (df_slL (S.E G a) (o_opt S G lo) (o_opt S G hi))))) fun δ h Q q => ?_
   obtain ⟨x, h1, e1, q⟩ := of_b q
   obtain ⟨l, h2, e2, q⟩ := of_b q
   obtain ⟨u, h3, e3, q⟩ := of_b q
   obtain ⟨r, h', e, q⟩ := q
   dsimp only at e
   unfold xSl at e
   split at e
   ·cases e
    exact .inl ⟨_, h1, e1, l, h2, e2, u, _, e3, q⟩
   ·split at e
    ·rename_i hc
     cases e
     exact .inr (.inl ⟨_, h1, e1, l, h2, e2, u, _, e3, hc, q⟩)
    ·cases e
   ·split at e
    ·rename_i xs ex
     cases e
     refine .inr (.inr ⟨x, h1, e1, l, h2, e2, u, _, e3, ?_⟩)
     dsimp only
     rw [ex]
     exact q
    ·cases e
  ·split
   ·exact e_no
   ·rename_i hsl
    have hs : PlainIx s := plainIx (by simpa using hsl)
    split
    ·rename_i f hf
     obtain ⟨y, p, pp, rfl, h1, h2, h3, h4⟩ := tab_of G hf
     refine de_m (de_ixK h4 h3 (S.E G s) h2 (nameOk_db h1) hs) fun δ h Q q => ?_
     obtain ⟨w, h1, e1, q⟩ := of_b q
     refine ⟨w, h1, e1, ?_⟩
     dsimp only at q ⊢
     split at q
     ·split at q
      ·rename_i ei
       try dsimp only
       try rw [ei]
       exact of_pure q
      ·exact (of_no q).elim
     ·exact (of_no q).elim
    ·refine de_m (de_or2 (de_ix (S.E G a) (S.E G s) hs) (pe_mono (pe_ix (ix_dD G.rm) (S.E G a) (S.E G s) hs) fun _ _ _ q => up_op q)) fun δ h Q q => ?_
     obtain ⟨x, h1, e1, q⟩ := of_b q
     obtain ⟨y, h2, e2, q⟩ := of_b q
     obtain ⟨r, h', e, q⟩ := q
     dsimp only at e
     unfold xIx at e
     split at e
     ·rename_i xs i ex
      obtain ⟨z, e3, e4⟩ := map_some e
      cases e4
      refine .inl ⟨x, h1, e1, _, h2, e2, ?_⟩
      show dIx x _ h2 Q
      unfold dIx
      rw [ex]
      dsimp only
      rw [e3]
      exact q
     ·rename_i xs i ex
      obtain ⟨z, e3, e4⟩ := map_some e
      cases e4
      refine .inl ⟨x, h1, e1, _, h2, e2, ?_⟩
      show dIx x _ h2 Q
      unfold dIx
      rw [ex]
      dsimp only
      rw [e3]
      exact q
     ·rename_i kvs z ex
      split at e
      ·rename_i k ek
       obtain ⟨p, e3, e4⟩ := map_some e
       cases e4
       refine .inr ⟨x, h1, e1, _, h2, e2, ?_⟩
       show dIxD x _ h2 Q
       unfold dIxD
       rw [ex]
       dsimp only
       rw [ek]
       dsimp only
       rw [e3]
       exact q
      ·cases e
     ·cases e
 ·exact e_fuse S G
 ·exact e_lam S G
 ·exact de_m de_dict0 fun δ h Q q => of_pure q
 ·exact e_no
theorem t_step (S : Snd v) (G : Good X st d) : ∀ e, DT X e (Of (stepT v st e)) := fun e => by
 have val : ∀ {e : Expr}, (∀ whole, isTrue e X.env whole = (do let v <- whole; standAt e.pos; holding [v] (truthy v))) -> DT X e (Of (xb (v.E st e) fun w => (match w with
  | .d (.bool b) => xpure b
  | _ => xno))) := fun {e} he => dt_m (dt_val (S.E G e) he) fun δ h Q q => by
   obtain ⟨w, h1, e1, q⟩ := of_b q
   refine ⟨w, h1, e1, ?_⟩
   dsimp only at q ⊢
   split at q
   ·exact of_pure q
   ·exact (of_no q).elim
 unfold stepT
 split
 ·rename_i a p
  refine dt_m (dt_not (S.T G a)) fun δ h Q q => ?_
  obtain ⟨w, h1, e1, q⟩ := of_b q
  exact ⟨w, h1, e1, of_pure q⟩
 ·exact (w_andT S G _).dt
 ·exact (w_orT S G _).dt
 ·exact t_compare S G
 ·exact t_no
 ·rename_i h1 h2 h3 h4 h5
  refine val ?_
  cases e with
  | UnaryOp op a p =>
   cases op with
   | Not => exact absurd rfl (h1 _ _)
   | _ => intro _; rfl
  | BoolOp op vs p =>
   cases op with
   | And => exact absurd rfl (h2 _ _)
   | Or => exact absurd rfl (h3 _ _)
  | Compare a ops cs p => exact absurd rfl (h4 _ _ _ _)
  | IfExp a b c p => exact absurd rfl (h5 _ _ _ _)
  | _ => intro _; rfl
end
end CI
namespace CI
open PySem PySem.Spec PyProof.Rows L2 DL
section
variable {X : Cx} {st : Sta} {d : Nat} {x : Str} {v : Evs} {a b c e : Expr} {es : List Expr} {pos : Pos}
theorem assign_cons (h : notStar e = true) (env : Env) : (assignEach (e :: es) env).map (·.2) = assign e env :: (assignEach es env).map (·.2) := by
 cases e <;> first | rfl | cases h
theorem assign_len : ∀ (es : List Expr) (env : Env), (assignEach es env).length = es.length
 | [], _ => rfl
 | e :: es, env => by
  cases e <;> (show (assignEach es env).length + 1 = es.length + 1; rw [assign_len es env])
theorem assign_star : ∀ (es : List Expr) (env : Env), es.all notStar = true -> (assignEach es env).findIdx? (·.1) = none
 | [], _, _ => rfl
 | e :: es, env, h => by
  rw [List.all_cons, Bool.and_eq_true] at h
  have ih := assign_star es env h.2
  rw [List.findIdx?_eq_none_iff] at ih ⊢
  intro p hp
  have : assignEach (e :: es) env = (false, assign e env) :: assignEach es env := by cases e <;> first | rfl | cases h.1
  rw [this] at hp
  rcases List.mem_cons.mp hp with z | z
  ·rw [z]
  ·exact ih p z
theorem g_len : ∀ (es : List Expr) (xs : List PyData) (δ : DSt) (h : Cells) (p : DSt × Cells), gAll v st es xs δ h = some p -> xs.length = es.length
 | [], [], _, _, _, _ => rfl
 | [], _ :: _, _, _, _, e => by cases e
 | _ :: _, [], _, _, _, e => by cases e
 | e :: es, x :: xs, δ, h, p, q => by
  obtain ⟨⟨δ2, h2⟩, _, q⟩ := bind_some (show (v.G st e (.d x) δ h).bind _ = some p from q)
  rw [List.length_cons, List.length_cons, g_len es xs _ _ p q]
theorem g_all (S : Snd v) (G : Good X st d) : ∀ es, es.all notStar = true -> DGs X es (fun xs δ h Q => ∃ δ' h', gAll v st es xs δ h = some (δ', h') /\ Q δ' h')
 | [], _ => pgs_mono dgs_nil fun vs σ H Q ⟨xs, δ, h, A, μ, k, R, r, ⟨δ', h', e, q⟩, c⟩ => by
  refine ⟨xs, δ, h, A, μ, k, R, r, ?_, c⟩
  cases xs with
  | nil => cases e; exact ⟨rfl, q⟩
  | cons y ys => cases e
 | e :: es, hs => by
  rw [List.all_cons, Bool.and_eq_true] at hs
  refine pgs_mono (dgs_cons (S.G G e) (g_all S G es hs.2) (assign_cons hs.1 _)) fun vs σ H Q ⟨xs, δ, h, A, μ, k, R, r, ⟨δ', h', e, q⟩, c⟩ => ?_
  refine ⟨xs, δ, h, A, μ, k, R, r, ?_, c⟩
  cases xs with
  | nil => cases e
  | cons y ys =>
   obtain ⟨⟨δ2, h2⟩, e1, e⟩ := bind_some e
   exact ⟨δ2, h2, e1, δ', h', e, q⟩
theorem sub_assign {o i : Expr} (h : isSl i = false) (env : Env) (v : Value) : assign (.Subscript o i pos) env v = (do
   let ov <- holding [v] (eval o env)
   let iv <- holding [v, ov] (eval i env)
   standAt pos
   holding [v, ov, iv] (setItem ov iv v)
   release [v, ov, iv] []) := by
 cases i <;> first | rfl | cases h
theorem g_step (S : Snd v) (G : Good X st d) : ∀ e, DG X e (OfG (stepG v st e)) := fun e => by
 unfold stepG
 split
 ·split
  ·rename_i i hi
   split
   ·rename_i hc
    rw [Bool.and_eq_true] at hc
    refine dg_m (dg_name (i := i) (by rw [G.N]; exact G.nd) (slot_at G hi) (loc_of G hc.1) (fnOr G hc.2)) fun w δ h Q q => ?_
    obtain ⟨δ', h', e, q⟩ := q
    cases e
    exact q
   ·exact g_no fun _ _ _ => rfl
  ·exact g_no fun _ _ _ => rfl
 ·rename_i es k p
  by_cases hs : es.all notStar = true
  ·rw [if_pos hs]
   refine dg_m (dg_tup (n := es.length) G.calm (g_all S G es hs) (assign_len _ _) (assign_star _ _ hs)) fun w δ h Q q => ?_
   obtain ⟨δ', h', e, q⟩ := q
   unfold xTupG at e
   unfold dTTup
   split at e
   ·rename_i xs
    exact ⟨g_len es xs δ h _ e, δ', h', e, q⟩
   ·cases e
  ·rw [if_neg hs]
   exact g_no fun w δ h => rfl
 ·rename_i o i p
  split
  ·exact g_no fun _ _ _ => rfl
  ·rename_i hsl
   refine dg_m (dg_subU (S.E G o) (S.E G i) (sub_assign (by simpa using hsl) _)) fun w δ h Q q => ?_
   obtain ⟨δ', h', e, q⟩ := q
   dsimp only at e
   obtain ⟨⟨u, h1⟩, e1, e⟩ := bind_some e
   obtain ⟨⟨z, h2⟩, e2, e⟩ := bind_some e
   refine ⟨u, h1, e1, z, h2, e2, ?_⟩
   dsimp only at e ⊢
   split at e
   ·split at e
    ·rename_i xs ex
     obtain ⟨n, e3, e4⟩ := map_some e
     cases e4
     try dsimp only
     try rw [ex]
     try dsimp only
     try rw [e3]
     exact q
    ·rename_i kvs ex
     split at e
     ·rename_i hk
      cases e
      try dsimp only
      try rw [ex]
      try dsimp only
      exact ⟨hk.1, hk.2, q⟩
     ·cases e
    ·cases e
   ·cases e
 ·exact g_no fun _ _ _ => rfl
theorem ss_ok (S : Snd v) (G : Good X st d) : ∀ ss, DSs X ss (OfS (xSs v st ss))
 | [] => dss_m dss_nil fun E δ h q => by
  obtain ⟨fl, h', e, q⟩ := q
  cases e
  exact q
 | s :: r => dss_m (dss_cons (S.S G s) (ss_ok S G r)) fun E δ h q => by
  obtain ⟨fl, h', e, q⟩ := q
  obtain ⟨⟨f1, h1⟩, e1, e⟩ := bind_some e
  refine ⟨f1, h1, e1, ?_⟩
  dsimp only at e
  cases f1 with
  | nx δ' => exact ⟨fl, h', e, q⟩
  | rt w => cases e; exact q
  | bk δ' => cases e; exact q
  | ct δ' => cases e; exact q
theorem forX_ok {g : XG} {tb : XS} {c : Option Nat} {all : List PyData} {E : DEnds} : ∀ (rest : List PyData) (δ : DSt) (h : Cells) (fl : Fl) (h' : Cells), forX g tb c all rest δ h = some (fl, h') -> flows E h' fl -> forL (OfG g) (OfS tb) c all rest E δ h
 | [], δ, h, fl, h', e, q => by
  unfold forX at e
  split at e
  ·rename_i hc
   cases e
   exact ⟨cond_of hc, q⟩
  ·cases e
 | x :: rest, δ, h, fl, h', e, q => by
  unfold forX at e
  split at e
  ·rename_i hc
   obtain ⟨⟨δ2, h2⟩, e1, e⟩ := bind_some e
   obtain ⟨⟨f2, h3⟩, e2, e⟩ := bind_some e
   refine ⟨cond_of hc, δ2, h2, e1, f2, h3, e2, ?_⟩
   dsimp only at e
   cases f2 with
   | nx δ' => exact forX_ok rest δ' h3 fl h' e q
   | ct δ' => exact forX_ok rest δ' h3 fl h' e q
   | bk δ' => cases e; exact q
   | rt w => cases e; exact q
  ·cases e
theorem ds_while {body : List Stmt} {xc : XR Bool} {xbd : XS} (hxe : X.xe = fun _ _ => False) (hc : DT X c (Of xc)) (hb : DSs X body (OfS xbd)) (n : Nat) : DS X (.While c body [] pos) (OfS (whileX xc xbd n)) :=
 ps_mono (ps_while (by rw [hxe]; exact PassesOwn.never) hc hb) fun D σ H q => by
  obtain ⟨δ, h, A, μ, E, R, ⟨fl, h', e, q⟩, L⟩ := q
  refine ⟨fun m σ' H' => ∃ δ' h0 A' μ', Ext A A' μ μ' H H' /\ Ab X.K A' μ' δ' h0 σ' H' /\ ∃ fl h', whileX xc xbd m δ' h0 = some (fl, h') /\ flows E h' fl, ⟨n, δ, h, A, μ, .refl, R, fl, h', e, q⟩, ?_⟩
  rintro m σ' H' ⟨δ', h0, A', μ', y, R', fl, h1, e, q⟩
  cases m with
  | zero => cases e
  | succ m =>
   obtain ⟨⟨k, h2⟩, e1, e⟩ := bind_some e
   refine ⟨δ', h0, A', μ', fun b h'' => b = k /\ h'' = h2, R', ⟨k, h2, e1, rfl, rfl⟩, ?_⟩
   rintro b h'' H1 A1 μ1 ⟨rfl, rfl⟩ x1 R1
   have y1 := y.trans x1
   dsimp only at e
   cases b with
   | false =>
    rw [if_neg Bool.false_ne_true] at e ⊢
    cases e
    exact L.nx δ' _ σ' H1 A1 μ1 q y1 ⟨R1, R'.2.ext x1 R'.1.sub⟩
   | true =>
    rw [if_pos rfl] at e ⊢
    obtain ⟨⟨f2, h3⟩, e2, e⟩ := bind_some e
    refine ⟨fun σ2 H2 => ∃ δ2 h2 A2 μ2, Ext A A2 μ μ2 H H2 /\ Ab X.K A2 μ2 δ2 h2 σ2 H2 /\ ∃ fl h', whileX xc xbd m δ2 h2 = some (fl, h') /\ flows E h' fl, fun σ2 H2 z => ⟨m, Nat.lt_succ_self m, z⟩, ?_⟩
    refine ⟨δ', _, A1, μ1, { nx := fun δ h => ∃ fl h', whileX xc xbd m δ h = some (fl, h') /\ flows E h' fl, ct := fun δ h => ∃ fl h', whileX xc xbd m δ h = some (fl, h') /\ flows E h' fl, bk := E.nx, rt := E.rt }, ⟨R1, R'.2.ext x1 R'.1.sub⟩, ⟨f2, h3, e2, ?_⟩, ⟨?_, ?_, ?_, ?_⟩⟩
    ·dsimp only at e
     cases f2 with
     | nx δ2 => exact ⟨fl, h1, e, q⟩
     | ct δ2 => exact ⟨fl, h1, e, q⟩
     | bk δ2 => cases e; exact q
     | rt w => cases e; exact q
    ·exact fun δ2 h2 σ2 H2 A2 μ2 z x2 R2 => ⟨δ2, h2, A2, μ2, y1.trans x2, R2, z⟩
    ·exact fun δ2 h2 σ2 H2 A2 μ2 z x2 R2 => L.nx δ2 h2 σ2 H2 A2 μ2 z (y1.trans x2) R2
    ·exact fun δ2 h2 σ2 H2 A2 μ2 z x2 R2 => ⟨δ2, h2, A2, μ2, y1.trans x2, R2, z⟩
    ·exact fun w h2 v H2 A2 μ2 z x2 R2 r2 => L.rt w h2 v H2 A2 μ2 z (y1.trans x2) R2 r2
theorem ds_break : DS X (.Break pos) (OfS fun δ h => some (.bk δ, h)) := ps_mono ps_break fun D σ H q => by
 obtain ⟨δ, h, A, μ, E, R, ⟨fl, h', e, q⟩, L⟩ := q
 cases e
 exact L.bk δ _ σ H A μ q .refl R
theorem ds_continue : DS X (.Continue pos) (OfS fun δ h => some (.ct δ, h)) := ps_mono ps_continue fun D σ H q => by
 obtain ⟨δ, h, A, μ, E, R, ⟨fl, h', e, q⟩, L⟩ := q
 cases e
 exact L.ct δ _ σ H A μ q .refl R
theorem swaps_no (h : isComp e = false) (t : Option Expr) (l : Nat) (env : Env) : swapsWith e t l env = pure false := by
 cases e <;> first | rfl | cases h
theorem block_fn (G : Good X st d) : X.env.blockKind = .function := by
 unfold Env.blockKind
 rw [G.S, G.kind]
 rfl
theorem swaps_is (G : Good X st d) {elt : Expr} {gs : List Comprehension} {sc : Scope} {p px : Pos} {l : Nat} :
  swapsWith (.ListComp elt gs sc p) (some (.Name x px)) l X.env = pure (swB st (.ListComp elt gs sc p) x px) := by
 show (pure (X.env.blockKind == .function && X.env.kindOf x == some .local && px.line == p.line && !(sc.names.any fun (n, k) => n == x && (k == .local || k == .cell))) : Sem Bool) = _
 unfold swB
 dsimp only
 have e1 : (X.env.blockKind == .function) = true := by rw [block_fn G]; rfl
 have e2 : (X.env.kindOf x == some .local) = isLocB st.S x := by
  unfold Env.kindOf isLocB
  rw [G.S]
  cases q : st.S.names.lookup x with
  | none => rfl
  | some k => cases k <;> rfl
 rw [e1, e2, Bool.true_and]
theorem s_set {i : Nat} {px : Pos} {y : XR W} {te : DTE} (hd : DS X (.Assign [.Name x px] e pos) (dAsg te (dName i))) (m : ∀ δ h Q, Of y δ h Q -> te δ h Q) : DS X (.Assign [.Name x px] e pos) (OfS (xSet i y)) := ds_m hd fun E δ h q => by
 obtain ⟨fl, h', e, q⟩ := q
 obtain ⟨⟨w, h1⟩, e1, e⟩ := bind_some e
 cases e
 exact m δ h _ ⟨w, h1, e1, q⟩
theorem of_cell {y : XR (List PyData)} (δ : DSt) (h : Cells) (Q : DK) (q : Of (xCell y) δ h Q) : dCel (Of y) δ h Q := by
 obtain ⟨w, h', e, q⟩ := q
 obtain ⟨p, e1, e2⟩ := bind_some e
 cases e2
 exact ⟨p.1, p.2, e1, q⟩
theorem of_frz {y : XR (List PyData)} (δ : DSt) (h : Cells) (Q : DK) (q : Of (xFrz y) δ h Q) : dFrz (Of y) δ h Q := by
 obtain ⟨w, h', e, q⟩ := q
 obtain ⟨p, e1, e2⟩ := bind_some e
 cases e2
 exact ⟨p.1, p.2, e1, q⟩
theorem fs_comp (S : Snd v) (G : Good X st d) {i : Nat} {px : Pos} (hi : slot st x = some i) (hl : locB st.S x = true) (hf : (st.top || isLocB st.S x) = true) (hc : isComp e = true) (hs : (swB st e x px || !(isLocB st.S x)) = true) :
  DFS X i (.Assign [.Name x px] e pos) (Of (stepF v st e)) := by
 have no : ∀ {e : Expr}, (∀ δ h, stepF v st e δ h = none) -> DFS X i (.Assign [.Name x px] e pos) (Of (stepF v st e)) := fun {e} n pins s σ H D I q => by
  obtain ⟨δ, h, A, μ, k, R, ⟨r, h', e, _⟩, c⟩ := q
  rw [n] at e
  cases e
 cases e with
 | ListComp elt gs sc p =>
  by_cases hw : swB st (.ListComp elt gs sc p) x px = true
  ·match gs with
   | [⟨tg, iter, ifs, a⟩] =>
    by_cases ha : a = 0
    ·subst ha
     have e0 : stepF v st (.ListComp elt [⟨tg, iter, ifs, 0⟩] sc p) = xComp v st elt tg iter ifs sc := rfl
     rw [e0]
     unfold xComp
     split
     ·rename_i hc
      rw [Bool.and_eq_true] at hc
      have hset : isSet iter = false := by simpa using hc.2
      have hloc : st.S.names.lookup x = some .local := by
       unfold swB at hw
       simp only [Bool.and_eq_true] at hw
       exact isLoc_of hw.1.1
      refine ps_mono (dfs_comp (by rw [G.N]; exact G.nd) G.xe G.calm G.S G.N (comp_sc hc.1) (i_iter S G iter) (fun cl C s H fp => S.G (good_blk G hc.1 cl C s H fp) tg) (fun cl C s H fp => ifs_ok S (good_blk G hc.1 cl C s H fp) ifs)
       (fun cl C s H fp => S.E (good_blk G hc.1 cl C s H fp) elt) (slot_at G hi) (by rw [G.S]; exact hloc) (by rw [swaps_is G, hw]) (folded hset _)) fun D σ H q => ?_
      obtain ⟨δ, h, A, μ, k, R, ⟨r, h', e, q⟩, c⟩ := q
      refine ⟨δ, h, A, μ, k, R, ?_, c⟩
      obtain ⟨⟨⟨xs, c⟩, h1⟩, e1, e⟩ := bind_some e
      exact ⟨xs, c, h1, e1, compX_ok _ _ _ _ _ _ e q⟩
     ·exact fun pins s σ H D I q => by
       obtain ⟨δ, h, A, μ, k, R, q, c⟩ := q
       exact (of_no q).elim
    ·exact no fun δ h => by
      show (if a = 0 then xComp v st elt tg iter ifs sc else xno) δ h = none
      rw [if_neg ha]
      rfl
   | [] => exact no fun _ _ => rfl
   | ⟨_, _, _, _⟩ :: _ :: _ => exact no fun _ _ => rfl
  ·have hw' : swB st (.ListComp elt gs sc p) x px = false := by simpa using hw
   exact dfs_of (by rw [G.N]; exact G.nd) (f_step S G _) (slot_at G hi) (loc_of G hl) (by rw [swaps_is G, hw']) (fnOr G hf)
 | SetComp elt gs sc p => exact no fun _ _ => rfl
 | DictComp k w gs sc p => exact no fun _ _ => rfl
 | _ => cases hc
theorem swapped_no {tg : Expr} (h : isTup e = false) (env : Env) : swappedStores [tg] e env = pure none := by
 cases e <;> first | (cases tg <;> rfl) | cases h
theorem star_of (h : ∀ t p, e ≠ .Starred t p) (env : Env) : (assignEach [e] env).map (·.2) = [assign e env] := by
 cases e <;> first | rfl | exact absurd rfl (h _ _)
theorem s_step (S : Snd v) (G : Good X st d) : ∀ s, DS X s (OfS (stepS v st s)) := fun s => by
 unfold stepS
 split
 ·rename_i e p
  refine ds_m (ds_ret (S.E G e)) fun E δ h q => ?_
  obtain ⟨fl, h', e, q⟩ := q
  obtain ⟨⟨w, h1⟩, e1, e⟩ := bind_some e
  cases e
  exact ⟨w, _, e1, q⟩
 ·rename_i c a b p
  refine ds_m (ds_if (S.T G c) (ss_ok S G a) (ss_ok S G b)) fun E δ h q => ?_
  obtain ⟨fl, h', e, q⟩ := q
  obtain ⟨⟨t, h1⟩, e1, e⟩ := bind_some e
  refine ⟨t, h1, e1, ?_⟩
  dsimp only at e ⊢
  split at e
  ·rename_i ht; rw [if_pos ht]; exact ⟨fl, h', e, q⟩
  ·rename_i ht; rw [if_neg ht]; exact ⟨fl, h', e, q⟩
 ·rename_i e p
  split
  ·exact s_no fun _ _ => rfl
  ·rename_i hc
   refine ds_m (ds_expr (S.E G e) (swaps_no (by simpa using hc) _ _ _)) fun E δ h q => ?_
   obtain ⟨fl, h', e, q⟩ := q
   obtain ⟨⟨w, h1⟩, e1, e⟩ := bind_some e
   cases e
   exact ⟨w, _, e1, q⟩
 ·refine ds_m ds_pass fun E δ h q => ?_
  obtain ⟨fl, h', e, q⟩ := q
  cases e
  exact q
 ·exact ds_break
 ·exact ds_continue
 ·rename_i tg iter body p
  split
  ·exact s_no fun _ _ => rfl
  ·rename_i hs
   refine ds_m (ds_for G.xe G.calm (i_iter S G iter) (S.G G tg) (ss_ok S G body) (folded (by simpa using hs) _)) fun E δ h q => ?_
   obtain ⟨fl, h', e, q⟩ := q
   obtain ⟨⟨⟨xs, c⟩, h1⟩, e1, e⟩ := bind_some e
   exact ⟨xs, c, h1, e1, forX_ok _ _ _ _ _ e q⟩
 ·exact ds_while G.xe (S.T G _) (ss_ok S G _) _
 ·rename_i y px e p
  split
  ·rename_i i hi
   split
   ·rename_i hc
    rw [Bool.and_eq_true] at hc
    split
    ·rename_i hcm
     split
     ·rename_i hw
      have hfs := fs_comp S G hi hc.1 hc.2 hcm hw (pos := p)
      split
      ·exact s_set (ds_cel hfs) of_cell
      ·exact s_set (ds_frz hfs) of_frz
     ·exact s_no fun _ _ => rfl
    ·rename_i hcm
     have hsw : ∀ t l, swapsWith e t l X.env = pure false := fun t l => swaps_no (by simpa using hcm) _ _ _
     split
     ·rename_i hz
      rw [Bool.and_eq_true] at hz
      have hd : ∃ pp, e = .Dict [] [] pp := by
       unfold isD0 at hz
       have := hz.2
       split at this
       ·exact ⟨_, rfl⟩
       ·cases this
      obtain ⟨pp, rfl⟩ := hd
      refine s_set (ds_celK (by rw [G.N]; exact G.nd) (slot_at G hi) (loc_of G hc.1) (hsw _ _) (fnOr G hc.2)) fun δ h Q q => ?_
      obtain ⟨w, h', e, q⟩ := q
      cases e
      exact q
     split
     ·exact s_set (ds_cel (dfs_of (by rw [G.N]; exact G.nd) (S.F G e) (slot_at G hi) (loc_of G hc.1) (hsw _ _) (fnOr G hc.2))) of_cell
     ·exact s_set (ds_set (by rw [G.N]; exact G.nd) (S.E G e) (slot_at G hi) (loc_of G hc.1) (hsw _ _) (fnOr G hc.2)) fun _ _ _ q => q
   ·exact s_no fun _ _ => rfl
  ·exact s_no fun _ _ => rfl
 ·rename_i tg e p hne
  split
  ·exact s_no fun _ _ => rfl
  ·rename_i hc
   simp only [Bool.or_eq_true, not_or, Bool.not_eq_true, Bool.not_eq_true', Bool.not_eq_false] at hc
   have hst : notStar tg = true := by simpa using hc.2
   refine ds_m (ds_asg (S.E G e) (S.G G tg) (swaps_no hc.1.1 _ _ _) (swapped_no hc.1.2 _) (star_of (fun t p z => by rw [z] at hst; cases hst) _)) fun E δ h q => ?_
   obtain ⟨fl, h', e, q⟩ := q
   obtain ⟨⟨w, h1⟩, e1, e⟩ := bind_some e
   obtain ⟨⟨δ2, h2⟩, e2, e⟩ := bind_some e
   cases e
   exact ⟨w, h1, e1, δ2, _, e2, q⟩
 ·exact s_no fun _ _ => rfl
end
theorem snd_step {v : Evs} (S : Snd v) : Snd (step v) := ⟨fun G => e_step S G, fun G => t_step S G, fun G => f_step S G, fun G => g_step S G, fun G => s_step S G⟩
theorem snd_no : Snd Evs.no := ⟨fun _ _ => e_no, fun _ _ => t_no, fun _ _ => f_no, fun _ _ => g_no fun _ _ _ => rfl, fun _ _ => s_no fun _ _ => rfl⟩
theorem snd_evs : ∀ n, Snd (evs n)
 | 0 => snd_no
 | n + 1 => snd_step (snd_evs n)
theorem fn_scope {s : Stmt} (h : fnB s = true) : FnScope (locsOf s) (parsOf s) (defScope s) := by
 unfold fnB at h
 simp only [Bool.and_eq_true, decide_eq_true_eq, List.all_eq_true, Bool.not_eq_true'] at h
 obtain ⟨h1, h2, h3, h4, h5, h6⟩ := h
 refine ⟨h1, h2, h3, h4, ?_, fun x hx => ?_, fun y hy e => ?_⟩
 ·unfold locsOf
  rw [List.take_left']
  rfl
 ·have := h5 x hx
  unfold locB at this
  split at this
  ·rename_i q; exact .inl q
  ·rename_i q; exact .inr q
  ·cases this
 ·have := h6 y hy
  rw [e] at this
  cases this
section
variable {P : Program} {w : World} {K : PySem.W.Frag} {mg : Str -> Option Value} {base : Heap}
structure TopOk (t : Top) (P : Program) (w : World) (K : PySem.W.Frag) (mg : Str -> Option Value) (base : Heap) : Prop where
 bl : ∀ x, t.bl.contains x = true -> mg x = none
 gc : ∀ x z, t.gc x = some z -> ∃ v u, mg x = some u /\ RelV v u /\ ∀ A H, Rep K A H z v
 tk : ∀ x f, t.tk x = some f -> ∃ p, mg x = some (.ref p) /\ TabK w K p f
 defs : ∀ x s, t.defs x = some s -> ∃ f fd, Fun K x x s f fd /\ mg x = some (.ref f) /\ Binds K fd (parsOf s) [] /\ ∀ P, t.tb x = some P -> (∃ c0, fd.code = .ref c0 /\ PySem.W.codeHdIn K c0 P = true) /\ base.BuiltinsAt mg P
theorem tb_ok {t : Top} {fn : Str -> Option XF} {fnF : Str -> Option XFF} {x : Str} {s : Stmt} {f : Addr} {fd : FuncData} {cdv : Value} {A : Around} {outer : List Env} {s' : Shared} {H : Hp} {E : XK} (hcd : fd.code = cdv) (htb : ∀ P, t.tb x = some P -> (∃ c0, fd.code = .ref c0 /\ PySem.W.codeHdIn K c0 P = true) /\ base.BuiltinsAt mg P) :
  ∀ Q q, (t.sta fn fnF x s).tb = some (Q, q) -> q = lamQ (cxOf CX0 P w K mg base (locsOf s) x (defScope s) f cdv A outer s' H E).nox /\ (∃ c0, cdv = .ref c0 /\ PySem.W.codeHdIn K c0 Q = true) /\ base.BuiltinsAt mg Q := fun Q q e => by
 obtain ⟨P', e1, e2⟩ := Option.map_eq_some_iff.mp (show (t.tb x).map (fun P => (P, (x ++ ".<locals>.") ++ "<lambda>")) = some (Q, q) from e)
 cases e2
 obtain ⟨⟨c0, h1, h2⟩, h3⟩ := htb _ e1
 exact ⟨rfl, ⟨c0, hcd.symm.trans h1, h2⟩, h3⟩
theorem fn_ok {t : Top} {fn : Str -> Option XF} {fnF : Str -> Option XFF} {x : Str} {s : Stmt} {f : Addr} {fd : FuncData} {k : Nat} (T : TopOk t P w K mg base) (F : Fun K x x s f fd) (hfn : ∀ y m, fn y = some m -> DFn P w K mg base k y (spOf m)) (hfF : ∀ y m, fnF y = some m -> DFnF P w K mg base k y (spOfF m)) (htb : ∀ P, t.tb x = some P -> (∃ c0, fd.code = .ref c0 /\ PySem.W.codeHdIn K c0 P = true) /\ base.BuiltinsAt mg P) :
  FnOk P w K mg base CX0 (k + 1) f fd (parsOf s) (upSp K (spOf (runFn t fn fnF x s))) := by
 by_cases hb : fnB s = true
 ·refine dfn F (fn_scope hb) (fun ws h kk ⟨z, h', e, _⟩ => ?_) fun cdv A outer s' H E hcd hr => ?_
  ·unfold runFn at e
   split at e
   ·rename_i hc; exact hc.2
   ·cases e
  ·refine ⟨_, ss_ok (X := (cxOf CX0 P w K mg base (locsOf s) x (defScope s) f cdv A outer s' H E).nox) (snd_evs t.deep) (st := t.sta fn fnF x s) (d := k) ⟨T.bl, T.gc, T.tk, hfn, rfl, rfl, (fn_scope hb).nd, rfl, rfl, hr, fun _ _ => rfl, (fn_scope hb).kind, hfF, tb_ok hcd htb⟩ _, fun ws h kk ⟨z, h', e, q⟩ => ?_⟩
   unfold runFn at e
   split at e
   ·obtain ⟨⟨fl, h1⟩, e1, e2⟩ := bind_some e
    refine ⟨fl, h1, e1, ?_⟩
    unfold ends at e2
    dsimp only at e2
    cases fl with
    | nx δ => cases e2; exact q
    | bk δ => cases e2
    | ct δ => cases e2
    | rt w =>
     cases w with
     | d z => cases e2; exact q
     | v u => cases e2
     | c i =>
      show (match h1[i]? with
       | some (.l xs) => h.length <= i /\ kk (.list xs) (h1.take h.length)
       | some (.k kvs) => h.length <= i /\ kk (.dict kvs) (h1.take h.length)
       | _ => False)
      dsimp only at e2
      split at e2
      ·rename_i xs ex
       try rw [ex]
       split at e2
       ·rename_i hi; cases e2; exact ⟨hi, q⟩
       ·cases e2
      ·rename_i xs ex
       try rw [ex]
       split at e2
       ·rename_i hi; cases e2; exact ⟨hi, q⟩
       ·cases e2
      ·cases e2
   ·cases e
 ·have no : ∀ ws h kk, ¬ spOf (runFn t fn fnF x s) ws h kk := fun ws h kk ⟨z, h', e, _⟩ => by
   unfold runFn at e
   rw [if_neg fun z => hb z.1] at e
   cases e
  exact ⟨fun vs H Q E ⟨_, _, _, _, _, _, _, q, _⟩ => (no _ _ _ q).elim, fun A outer s H args us vs Q E _ _ _ _ ⟨_, _, _, _, _, _, _, q, _⟩ => (no _ _ _ q).elim⟩
theorem ff_ok {t : Top} {fn : Str -> Option XF} {fnF : Str -> Option XFF} {x : Str} {s : Stmt} {f : Addr} {fd : FuncData} {k : Nat} (T : TopOk t P w K mg base) (F : Fun K x x s f fd) (hfn : ∀ y m, fn y = some m -> DFn P w K mg base k y (spOf m)) (hfF : ∀ y m, fnF y = some m -> DFnF P w K mg base k y (spOfF m)) (htb : ∀ P, t.tb x = some P -> (∃ c0, fd.code = .ref c0 /\ PySem.W.codeHdIn K c0 P = true) /\ base.BuiltinsAt mg P) :
  FnOk P w K mg base CX0 (k + 1) f fd (parsOf s) (upSpF K (spOfF (runFF t fn fnF x s))) := by
 by_cases hb : fnB s = true
 ·refine dfnF F (fn_scope hb) (fun ws h kk ⟨z, h', e, _⟩ => ?_) fun cdv A outer s' H E hcd hr => ?_
  ·unfold runFF at e
   split at e
   ·rename_i hc; exact hc.2
   ·cases e
  ·refine ⟨_, ss_ok (X := (cxOf CX0 P w K mg base (locsOf s) x (defScope s) f cdv A outer s' H E).nox) (snd_evs t.deep) (st := t.sta fn fnF x s) (d := k) ⟨T.bl, T.gc, T.tk, hfn, rfl, rfl, (fn_scope hb).nd, rfl, rfl, hr, fun _ _ => rfl, (fn_scope hb).kind, hfF, tb_ok hcd htb⟩ _, fun ws h kk ⟨z, h', e, q⟩ => ?_⟩
   unfold runFF at e
   split at e
   ·obtain ⟨⟨fl, h1⟩, e1, e2⟩ := bind_some e
    refine ⟨fl, h1, e1, ?_⟩
    unfold endsF at e2
    dsimp only at e2
    split at e2
    ·rename_i i
     split at e2
     ·rename_i xs ex
      split at e2
      ·rename_i hi
       cases e2
       show (match h1[i]? with
        | some (.l xs) => h.length <= i /\ kk xs (h1.take h.length)
        | _ => False)
       rw [ex]
       exact ⟨hi, q⟩
      ·cases e2
     ·cases e2
    ·cases e2
   ·cases e
 ·have no : ∀ ws h kk, ¬ spOfF (runFF t fn fnF x s) ws h kk := fun ws h kk ⟨z, h', e, _⟩ => by
   unfold runFF at e
   rw [if_neg fun z => hb z.1] at e
   cases e
  exact ⟨fun vs H Q E ⟨_, _, _, _, _, _, _, q, _⟩ => (no _ _ _ q).elim, fun A outer s H args us vs Q E _ _ _ _ ⟨_, _, _, _, _, _, _, q, _⟩ => (no _ _ _ q).elim⟩
theorem callB_ok {t : Top} (T : TopOk t P w K mg base) : ∀ (d : Nat) (x : Str) (s : Stmt), t.defs x = some s -> DFn P w K mg base d x (spOf (callD t d x)) /\ DFnF P w K mg base d x (spOfF (callF t d x))
 | 0, x, s, hs => by
  obtain ⟨f, fd, F, hm, hb, _⟩ := T.defs x s hs
  have no : ∀ ws h kk, ¬ spOf (callD t 0 x) ws h kk := fun ws h kk ⟨z, h', e, _⟩ => nomatch e
  have noF : ∀ ws h kk, ¬ spOfF (callF t 0 x) ws h kk := fun ws h kk ⟨z, h', e, _⟩ => nomatch e
  exact ⟨⟨f, fd, parsOf s, ⟨fun vs H Q E ⟨_, _, _, _, _, _, _, q, _⟩ => (no _ _ _ q).elim, fun A outer s H args us vs Q E _ _ _ _ ⟨_, _, _, _, _, _, _, q, _⟩ => (no _ _ _ q).elim⟩, hm, F.kp, hb⟩,
   ⟨f, fd, parsOf s, ⟨fun vs H Q E ⟨_, _, _, _, _, _, _, q, _⟩ => (noF _ _ _ q).elim, fun A outer s H args us vs Q E _ _ _ _ ⟨_, _, _, _, _, _, _, q, _⟩ => (noF _ _ _ q).elim⟩, hm, F.kp, hb⟩⟩
 | d + 1, x, s, hs => by
  obtain ⟨f, fd, F, hm, hb, htb⟩ := T.defs x s hs
  have e : callD t (d + 1) x = runFn t (fun y => (t.defs y).map fun _ => callD t d y) (fun y => (t.defs y).map fun _ => callF t d y) x s := by
   show (match t.defs x with | some s => _ | none => _) = _
   rw [hs]
  have e' : callF t (d + 1) x = runFF t (fun y => (t.defs y).map fun _ => callD t d y) (fun y => (t.defs y).map fun _ => callF t d y) x s := by
   show (match t.defs x with | some s => _ | none => _) = _
   rw [hs]
  rw [e, e']
  have h1 : ∀ y m, ((t.defs y).map fun _ => callD t d y) = some m -> DFn P w K mg base d y (spOf m) := fun y m hy => by
   obtain ⟨s', e1, e2⟩ := map_some hy
   subst e2
   exact (callB_ok T d y s' e1).1
  have h2 : ∀ y m, ((t.defs y).map fun _ => callF t d y) = some m -> DFnF P w K mg base d y (spOfF m) := fun y m hy => by
   obtain ⟨s', e1, e2⟩ := map_some hy
   subst e2
   exact (callB_ok T d y s' e1).2
  exact ⟨dfn_mk (fn_ok T F h1 h2 htb) hm F hb, ⟨f, fd, parsOf s, ff_ok T F h1 h2 htb, hm, F.kp, hb⟩⟩
end
end CI
namespace CI
open PySem PySem.Spec PyProof.Rows L2 DL
def isDef (x : Str) : Stmt -> Bool
 | .FunctionDef n _ _ _ _ _ _ _ _ _ => n == x
 | _ => false
def defsOf (b : List Stmt) (x : Str) : Option Stmt := b.find? (isDef x)
def litOf : Nat -> Expr -> Option PyData
 | _, .Constant (.int i) _ _ => some (.int i)
 | _, .Constant (.str x) _ _ => some (.str x)
 | _, .Constant (.bool x) _ _ => some (.bool x)
 | _, .Constant .none _ _ => some .none
 | n + 1, .Tuple es _ _ => (es.mapM (litOf n)).map .tuple
 | _, _ => none
def gcOf (b : List Stmt) (x : Str) : Option PyData := b.findSome? fun s => match s with
 | .Assign [.Name y _] e _ => if y == x && !(x == ("__name__" : Str)) then litOf 4 e else none
 | _ => none
def tabL : List (Option Expr) -> List Expr -> Option (List (Str × Int))
 | [], [] => some []
 | some (.Constant (.str x) _ _) :: ks, .Constant (.int i) _ _ :: vs => (tabL ks vs).map ((x, i) :: ·)
 | _, _ => none
def tkOf (b : List Stmt) (x : Str) : Option (Str -> Option Int) := b.findSome? fun s => match s with
 | .Assign [.Name y _] (.Dict ks vs _) _ => if y == x then (tabL ks vs).map fun t z => t.lookup z else none
 | _ => none
def blAll : List Str := ["len", "tuple", "all", "any", "isinstance", "int", "bool", "str", "list", "range", "sorted", "set", "zip", "enumerate", "dict", "max", "min", "sum", "reversed", "abs"]
def topOf (b : List Stmt) (ac : Str -> List Nat) (cv : Str -> List Str) (fuel deep : Nat) (tb : Str -> Option Addr := fun _ => none) : Top := ⟨blAll, gcOf b, tkOf b, defsOf b, ac, cv, fuel, deep, tb⟩
end CI
namespace CI
open PySem DL
@[simp] theorem xb_ap {α β : Type} (x : XR α) (f : α -> XR β) (δ : DSt) (h : Cells) : xb x f δ h = (x δ h).bind fun p => f p.1 δ p.2 := rfl
@[simp] theorem xpure_ap {α : Type} (a : α) (δ : DSt) (h : Cells) : xpure a δ h = some (a, h) := rfl
@[simp] theorem xno_ap {α : Type} (δ : DSt) (h : Cells) : (xno : XR α) δ h = none := rfl
@[simp] theorem xVar_ap (i : Nat) (δ : DSt) (h : Cells) : xVar i δ h = match δ[i]? with
 | some (some w) => some (w, h)
 | _ => none := rfl
@[simp] theorem ends_d (n : Nat) (z : PyData) (h : Cells) : ends n (.rt (.d z), h) = some (z, h.take n) := rfl
@[simp] theorem ends_n (n : Nat) (δ : DSt) (h : Cells) : ends n (.nx δ, h) = some (.none, h.take n) := rfl
@[simp] theorem dpick_nil (δ : DSt) : dpick [] δ = [] := rfl
@[simp] theorem dpick_none (r : List (Option Nat)) (δ : DSt) : dpick (none :: r) δ = none :: dpick r δ := rfl
@[simp] theorem dpick_some (i : Nat) (r : List (Option Nat)) (δ : DSt) : dpick (some i :: r) δ = (δ[i]?).bind id :: dpick r δ := rfl
@[simp] theorem xTupG_ap (gs : List XG) (xs : List PyData) (δ : DSt) (h : Cells) : xTupG gs (.d (.tuple xs)) δ h = gRun gs xs δ h := rfl
@[simp] theorem gRun_nil (δ : DSt) (h : Cells) : gRun [] [] δ h = some (δ, h) := rfl
@[simp] theorem gRun_cons (g : XG) (gs : List XG) (x : PyData) (xs : List PyData) (δ : DSt) (h : Cells) : gRun (g :: gs) (x :: xs) δ h = (g (.d x) δ h).bind fun p => gRun gs xs p.1 p.2 := rfl
@[simp] theorem ref_d (h : Cells) (x : PyData) : ref h (.d x) = some x := rfl
end CI
namespace CI
open PySem PySem.Spec PyProof.Rows L2 DL
section
variable {δ : DSt} {h : Cells}
@[simp] theorem xMapW_ap (x : XR Bool) : xMapW x δ h = (x δ h).map asW := rfl
@[simp] theorem asW_ap (b : Bool) : asW (b, h) = (.d (.bool b), h) := rfl
@[simp] theorem xC1_ap (op : CmpOp) (x y : XR W) : xC1 op x y δ h = (x δ h).bind fun u => (y δ u.2).bind fun w => xCmp op u.1 w.1 w.2 := rfl
@[simp] theorem xC2_ap (op op' : CmpOp) (x y z : XR W) : xC2 op op' x y z δ h = (x δ h).bind fun u => (y δ u.2).bind fun w => (xCmp op u.1 w.1 w.2).bind fun p => if p.1 = true then (z δ p.2).bind fun q => xCmp op' w.1 q.1 q.2 else some (false, p.2) := rfl
@[simp] theorem xC3_ap (op op' op'' : CmpOp) (x y z t : XR W) : xC3 op op' op'' x y z t δ h = (x δ h).bind fun u => (y δ u.2).bind fun w => (xCmp op u.1 w.1 w.2).bind fun p =>
 if p.1 = true then (z δ p.2).bind fun q => (xCmp op' w.1 q.1 q.2).bind fun p' => if p'.1 = true then (t δ p'.2).bind fun q' => xCmp op'' q.1 q'.1 q'.2 else some (false, p'.2) else some (false, p.2) := rfl
@[simp] theorem xTabN_ap (f : Str -> Option Int) (x : XR W) : xTabN f x δ h = (x δ h).bind fun p => (match p.1 with
 | .d (.str s) => some (!(f s).isSome, p.2)
 | .d .none => some (true, p.2)
 | _ => none) := by
 unfold xTabN
 rw [xb_ap]
 congr 1
 funext p
 obtain ⟨w, h'⟩ := p
 cases w with
 | d x => cases x <;> rfl
 | c i => rfl
 | v u => rfl
@[simp] theorem xFrz_ap (x : XR (List PyData)) : xFrz x δ h = (x δ h).bind fun p => some (.d (.list p.1), p.2) := rfl
@[simp] theorem xCell_ap (x : XR (List PyData)) : xCell x δ h = (x δ h).bind fun p => some (.c p.2.length, p.2 ++ [.l p.1]) := rfl
@[simp] theorem xPl_ap (x : XR (List W)) : xPl x δ h = (x δ h).bind fun p => (match plains p.1 with
 | some xs => if xs.length <= sizeLine then some (xs, p.2) else none
 | none => none) := rfl
@[simp] theorem xSet_ap (i : Nat) (x : XR W) : xSet i x δ h = (x δ h).bind fun p => some (.nx (δ.set i (some p.1)), p.2) := rfl
@[simp] theorem xEach_ap (x : XR W) : xEach x δ h = (x δ h).bind fun p => (match p.1 with
 | .d (.list xs) => some ((xs, none), p.2)
 | .d (.tuple xs) => some ((xs, none), p.2)
 | .c i => (match p.2[i]? with
  | some (.l xs) => some ((xs, some i), p.2)
  | _ => none)
 | _ => none) := rfl
@[simp] theorem plains_nil : plains [] = some [] := rfl
@[simp] theorem plains_d (x : PyData) (r : List W) : plains (.d x :: r) = (plains r).map (x :: ·) := rfl
@[simp] theorem cmp_lt (i j : Int) : xCmp .Lt (.d (.int i)) (.d (.int j)) h = some (decide (i < j), h) := rfl
@[simp] theorem cmp_le (i j : Int) : xCmp .LtE (.d (.int i)) (.d (.int j)) h = some (decide (i <= j), h) := rfl
@[simp] theorem cmp_gt (i j : Int) : xCmp .Gt (.d (.int i)) (.d (.int j)) h = some (decide (j < i), h) := rfl
@[simp] theorem cmp_ge (i j : Int) : xCmp .GtE (.d (.int i)) (.d (.int j)) h = some (decide (j <= i), h) := rfl
@[simp] theorem cmp_eq (u w : W) : xCmp .Eq u w h = (xEq u w h).map fun b => (b, h) := rfl
@[simp] theorem cmp_ne (u w : W) : xCmp .NotEq u w h = (xEq u w h).map fun b => (!b, h) := rfl
@[simp] theorem cmp_is (u w : W) : xCmp .Is u w h = (xIs u w).map fun b => (b, h) := rfl
@[simp] theorem cmp_isnot (u w : W) : xCmp .IsNot u w h = (xIs u w).map fun b => (!b, h) := rfl
@[simp] theorem cmp_in (u w : W) : xCmp .In u w h = (xIn u w h).map fun b => (b, h) := rfl
@[simp] theorem cmp_notin (u w : W) : xCmp .NotIn u w h = (xIn u w h).map fun b => (!b, h) := rfl
theorem xEq_d (a b : PyData) : xEq (.d a) (.d b) h = if (plainB 64 a && plainB 64 b) = true then some (PyData.eqv a b) else none := rfl
@[simp] theorem pl_none (n : Nat) : plainB n .none = true := by rw [plainB]
@[simp] theorem pl_bool (n : Nat) (b : Bool) : plainB n (.bool b) = true := by rw [plainB]
@[simp] theorem pl_int (n : Nat) (i : Int) : plainB n (.int i) = true := by rw [plainB]
@[simp] theorem pl_str (n : Nat) (x : Str) : plainB n (.str x) = true := by rw [plainB]
@[simp] theorem pl_list (n : Nat) (xs : List PyData) : plainB (n + 1) (.list xs) = plainsB n xs := by rw [plainB]
@[simp] theorem pl_tuple (n : Nat) (xs : List PyData) : plainB (n + 1) (.tuple xs) = plainsB n xs := by rw [plainB]
@[simp] theorem pls_nil (n : Nat) : plainsB n [] = true := by rw [plainsB]
@[simp] theorem pls_cons (n : Nat) (x : PyData) (xs : List PyData) : plainsB n (x :: xs) = (plainB n x && plainsB n xs) := by rw [plainsB]
@[simp] theorem eq_ints (i j : Int) : xEq (.d (.int i)) (.d (.int j)) h = some (decide (i = j)) := by rw [xEq_d]; simp [PyData.eqv]; exact Bool.beq_eq_decide_eq i j
@[simp] theorem eq_strs (x y : Str) : xEq (.d (.str x)) (.d (.str y)) h = some (x == y) := by simp [xEq_d, PyData.eqv]
@[simp] theorem eq_bools (x y : Bool) : xEq (.d (.bool x)) (.d (.bool y)) h = some (x == y) := by cases x <;> cases y <;> simp [xEq_d, PyData.eqv]
@[simp] theorem eq_none_str (y : Str) : xEq (.d .none) (.d (.str y)) h = some false := by simp [xEq_d, PyData.eqv]
@[simp] theorem len_d (x : PyData) : xLen [.d x] h = (match x with
  | .list xs => some (.d (.int xs.length), h)
  | .tuple xs => some (.d (.int xs.length), h)
  | _ => none) := by cases x <;> rfl
@[simp] theorem tuple_l (xs : List PyData) : xTuple [.d (.list xs)] h = some (.d (.tuple xs), h) := rfl
@[simp] theorem tuple_t (xs : List PyData) : xTuple [.d (.tuple xs)] h = some (.d (.tuple xs), h) := rfl
@[simp] theorem all_l (xs : List PyData) : xAll [.d (.list xs)] h = (bools xs).map fun bs => (.d (.bool (bs.all id)), h) := rfl
@[simp] theorem ix_t (xs : List PyData) (i : Int) : xIx (.d (.tuple xs)) (.d (.int i)) h = (atI xs i).map fun v => (.d v, h) := rfl
@[simp] theorem ix_l (xs : List PyData) (i : Int) : xIx (.d (.list xs)) (.d (.int i)) h = (atI xs i).map fun v => (.d v, h) := rfl
@[simp] theorem sl_t (xs : List PyData) (lo hi : Option Int) : xSl (.d (.tuple xs)) lo hi h = some (.d (.tuple (cut xs lo hi)), h) := rfl
@[simp] theorem sl_l (xs : List PyData) (lo hi : Option Int) : xSl (.d (.list xs)) lo hi h = some (.d (.list (cut xs lo hi)), h) := rfl
@[simp] theorem bin_add_i (i j : Int) : xBin .Add (.d (.int i)) (.d (.int j)) h = some (.d (.int (i + j)), h) := rfl
@[simp] theorem bin_sub_i (i j : Int) : xBin .Sub (.d (.int i)) (.d (.int j)) h = some (.d (.int (i - j)), h) := rfl
@[simp] theorem bin_mul_i (i j : Int) : xBin .Mult (.d (.int i)) (.d (.int j)) h = if mulOk i j = true then some (.d (.int (i * j)), h) else none := rfl
@[simp] theorem bin_div_i (i j : Int) : xBin .FloorDiv (.d (.int i)) (.d (.int j)) h = if divOk j = true then some (.d (.int (i / j)), h) else none := rfl
@[simp] theorem bin_mod_i (i j : Int) : xBin .Mod (.d (.int i)) (.d (.int j)) h = if 0 < j then some (.d (.int (i % j)), h) else none := rfl
@[simp] theorem bin_pow_i (i j : Int) : xBin .Pow (.d (.int i)) (.d (.int j)) h = if powOk i j = true then some (.d (.int (i ^ j.toNat)), h) else none := rfl
@[simp] theorem bin_add_t (xs ys : List PyData) : xBin .Add (.d (.tuple xs)) (.d (.tuple ys)) h = if xs.length + ys.length <= sizeLine then some (.d (.tuple (xs ++ ys)), h) else none := rfl
@[simp] theorem bin_add_l (xs ys : List PyData) : xBin .Add (.d (.list xs)) (.d (.list ys)) h = if xs.length + ys.length <= sizeLine then some (.d (.list (xs ++ ys)), h) else none := rfl
@[simp] theorem bin_add_s (x y : Str) : xBin .Add (.d (.str x)) (.d (.str y)) h = if x.length + y.length <= sizeLine then some (.d (.str (x ++ y)), h) else none := rfl
@[simp] theorem cond_none (xs : List PyData) : condB none xs h = true := rfl
theorem compX_map {g : XG} {te : XR W} {all : List PyData} (f : PyData -> PyData) (k : Nat) (hg : ∀ w δ h, g w δ h = some (δ.set k (some w), h)) :
  ∀ (rest : List PyData) (δ : DSt) (ac : List PyData), (∀ x ∈ rest, ∀ u, te ((δ.set k u).set k (some (.d x))) h = some (.d (f x), h)) -> compX g (xpure true) te none all rest δ h ac = some (ac ++ rest.map f, h)
 | [], δ, ac, _ => by simp [compX]
 | x :: r, δ, ac, hf => by
  have e := hf x List.mem_cons_self none
  rw [List.set_set] at e
  rw [compX, cond_none, if_pos rfl, hg]
  simp only [Option.bind_some, xpure_ap, if_true, e]
  rw [compX_map f k hg r _ _ fun y hy u => by
   have := hf y (List.mem_cons_of_mem _ hy) u
   rw [List.set_set] at this ⊢
   rw [List.set_set]
   exact this]
  simp
theorem bools_map {f : PyData -> Bool} : ∀ xs : List PyData, bools (xs.map fun x => .bool (f x)) = some (xs.map f)
 | [] => rfl
 | x :: r => by rw [List.map_cons, bools, bools_map r]; rfl
end
end CI
namespace CI
open PySem PySem.Spec PyProof.Rows L2 DL
abbrev S3 := Int × Int × Int
def stL (s : S3) : Cell := .l [.int s.1, .int s.2.1, .int s.2.2]
theorem mulOk_l {i : Int} (h1 : -(2 ^ 64) < i) (h2 : i < 2 ^ 64) (j : Int) : mulOk i j = true := by
 unfold mulOk
 rw [decide_eq_true h1, decide_eq_true h2]; rfl
theorem mulOk_r {j : Int} (h1 : -(2 ^ 64) < j) (h2 : j < 2 ^ 64) (i : Int) : mulOk i j = true := by
 unfold mulOk
 rw [decide_eq_true h1, decide_eq_true h2, Bool.and_self, Bool.or_true]
theorem divOk_s {j : Int} (h1 : 0 < j) (h2 : j < 1073741824) : divOk j = true := by
 unfold divOk
 rw [decide_eq_true h1, decide_eq_true h2]; rfl
theorem ref_set {h : Cells} {i : Nat} {xs : List PyData} (hi : i < h.length) : ref (h.set i (.l xs)) (.c i) = some (.list xs) := by
 simp [ref, hi]
@[simp] theorem ix_c {h : Cells} {i : Nat} {xs : List PyData} (hi : i < h.length) (k : Int) : xIx (.c i) (.d (.int k)) (h.set i (.l xs)) = (atI xs k).map fun v => (.d v, h.set i (.l xs)) := by
 unfold xIx
 rw [ref_set hi]
end CI
namespace CI
open PySem PySem.Spec PyProof.Rows L2 DL
variable (h : Cells)
theorem bin_mul_t (xs : List PyData) (k : Int) : xBin .Mult (.d (.tuple xs)) (.d (.int k)) h = if k = 1 then some (.d (.tuple xs), h) else if xs ≠ [] /\ 1 < k /\ k < 2 ^ 63 /\ xs.length * k.toNat <= sizeLine then some (.d (.tuple (List.replicate k.toNat xs).flatten), h) else none := rfl
@[simp] theorem take_a (L : Cells) (i : Nat) (c : Cell) : (h.set i c ++ L).take h.length = h.set i c := by
 rw [List.take_append_of_le_length (by simp)]
 simp
end CI
namespace CI
open PySem PySem.Spec PyProof.Rows L2 DL
@[simp] theorem seqD_t (xs : List PyData) : seqD (.d (.tuple xs)) = some xs := rfl
@[simp] theorem seqD_l (xs : List PyData) : seqD (.d (.list xs)) = some xs := rfl
theorem in_tup (a : PyData) (xs : List PyData) (h : Cells) : xIn (.d a) (.d (.tuple xs)) h = if (plainB 64 (.tuple xs) && plainB 64 a) = true then some (xs.any fun z => PyData.eqv z a) else none := rfl
@[simp] theorem in_strs2 (x a b : Str) (h : Cells) : xIn (.d (.str x)) (.d (.tuple [.str a, .str b])) h = some (a == x || b == x) := by
 rw [in_tup]
 simp [PyData.eqv]
end CI
namespace CI
open PySem PySem.Spec PyProof.Rows L2 DL ST
theorem so_inj {a b : String} (h : Str.ofString a = Str.ofString b) : a = b := by
 simp only [Str.ofString_eq_byList] at h
 unfold Str.ofStringByList at h
 have h1 := congrArg Str.cps h
 have h2 : (a.toList.map Char.toNat) = (b.toList.map Char.toNat) := by
  have := congrArg Array.toList h1
  simpa using this
 have h3 : a.toList = b.toList := by
  refine (List.map_inj_right ?_).mp h2
  intro x y e
  exact Char.toNat_inj.mp e
 exact String.toList_inj.mp h3
@[simp] theorem so_eq (a b : String) : (Str.ofString a = Str.ofString b) = (a = b) := propext ⟨so_inj, fun e => by rw [e]⟩
@[simp] theorem so_beq (a b : String) : (Str.ofString a == Str.ofString b) = (a == b) := by
 rw [Bool.eq_iff_iff, beq_iff_eq, beq_iff_eq, so_eq]
theorem forX_inv {g : XG} {tb : XS} {all : List PyData} (I : DSt -> Cells -> Prop) : ∀ (rest : List PyData), (∀ x ∈ rest, ∀ δ h, I δ h -> ∃ δ1 h1 δ2 h2, g (.d x) δ h = some (δ1, h1) /\ tb δ1 h1 = some (.nx δ2, h2) /\ I δ2 h2) ->
  ∀ (δ : DSt) (h : Cells), I δ h -> ∃ δ' h', forX g tb none all rest δ h = some (.nx δ', h') /\ I δ' h'
 | [], _, δ, h, i => ⟨δ, h, by simp [forX], i⟩
 | x :: r, ht, δ, h, i => by
  obtain ⟨δ1, h1, δ2, h2, e1, e2, i2⟩ := ht x List.mem_cons_self δ h i
  obtain ⟨δ3, h3, e3, i3⟩ := forX_inv I r (fun y hy => ht y (List.mem_cons_of_mem _ hy)) δ2 h2 i2
  refine ⟨δ3, h3, ?_, i3⟩
  rw [forX, cond_none, if_pos rfl, e1]
  simp only [Option.bind_some, e2]
  exact e3
theorem forX_inv2 {g : XG} {tb : XS} {all : List PyData} (I : DSt -> Cells -> Prop) (rest : List PyData) (ht : ∀ x ∈ rest, ∀ δ h, I δ h -> ∃ δ1 h1, g (.d x) δ h = some (δ1, h1) /\ ∃ δ2 h2, tb δ1 h1 = some (.nx δ2, h2) /\ I δ2 h2) (δ : DSt) (h : Cells) (i : I δ h) :
  ∃ δ' h', forX g tb none all rest δ h = some (.nx δ', h') /\ I δ' h' := forX_inv I rest (fun x hx δ h i => let ⟨δ1, h1, e1, δ2, h2, e2, i2⟩ := ht x hx δ h i; ⟨δ1, h1, δ2, h2, e1, e2, i2⟩) δ h i
theorem seq_step {x : Option (Fl × Cells)} {f : Fl × Cells -> Option (Fl × Cells)} {P : DSt -> Cells -> Prop} (δ' : DSt) (h' : Cells) (e : x = some (.nx δ', h')) (k : ∃ δ2 h2, f (.nx δ', h') = some (.nx δ2, h2) /\ P δ2 h2) : ∃ δ2 h2, x.bind f = some (.nx δ2, h2) /\ P δ2 h2 := by
 rw [e]
 exact k
theorem seq_stepE {x : Option (Fl × Cells)} {f : Fl × Cells -> Option (Fl × Cells)} {P : DSt -> Cells -> Prop} (J : DSt -> Cells -> Prop) (e : ∃ δ' h', x = some (.nx δ', h') /\ J δ' h') (k : ∀ δ' h', J δ' h' -> ∃ δ2 h2, f (.nx δ', h') = some (.nx δ2, h2) /\ P δ2 h2) : ∃ δ2 h2, x.bind f = some (.nx δ2, h2) /\ P δ2 h2 := by
 obtain ⟨δ', h', e, j⟩ := e
 rw [e]
 exact k δ' h' j
section
variable (h : Cells)
@[simp] theorem ss_ap (xs : List PyData) : xSS [.d (.list xs)] h = (match intsD xs with
 | some ns => if ns.length <= 62 then some (.d (.list ((srt (dd ns)).map .int)), h) else none
 | none => none) := rfl
@[simp] theorem ints_nil : intsD [] = some [] := rfl
@[simp] theorem ints_cons (i : Int) (r : List PyData) : intsD (.int i :: r) = (intsD r).map (i :: ·) := rfl
@[simp] theorem any_l (xs : List PyData) : xAny [.d (.list xs)] h = (bools xs).map fun bs => (.d (.bool (bs.any id)), h) := rfl
theorem ints_map_int (ns : List Int) : intsD (ns.map .int) = some ns := by
 induction ns with
 | nil => rfl
 | cons n r ih => simp [ih]
@[simp] theorem is_nn : xIs (.d .none) (.d .none) = some true := rfl
@[simp] theorem is_in (i : Int) : xIs (.d (.int i)) (.d .none) = some false := rfl
@[simp] theorem is_tn (xs : List PyData) : xIs (.d (.tuple xs)) (.d .none) = some false := rfl
theorem rng_mem {lo : Int} {n : Nat} {x : PyData} (hx : x ∈ rng lo n) : ∃ k : Nat, k < n /\ x = .int (lo + k) := by
 unfold rng at hx
 obtain ⟨k, hk, rfl⟩ := List.mem_map.mp hx
 exact ⟨k, by simpa using hk, rfl⟩
end
end CI
namespace CI
open PySem PySem.Spec PyProof.Rows L2 DL ST
@[simp high] theorem bs {α β : Type} (a : α) (f : α -> Option β) : (some a).bind f = f a := id rfl
theorem forX_idxN {g : XG} {tb : XS} {all : List PyData} {P : DSt -> Cells -> Prop} (I : Nat -> DSt -> Cells -> Prop) {rest : List PyData} {δ : DSt} {h : Cells} (hi : I 0 δ h) (hP : ∀ δ h, I rest.length δ h -> P δ h)
  (ht : ∀ n (hn : n < rest.length) δ h, I n δ h -> ∃ δ1 h1, g (.d rest[n]) δ h = some (δ1, h1) /\ ∃ δ2 h2, tb δ1 h1 = some (.nx δ2, h2) /\ I (n + 1) δ2 h2) : ∃ δ' h', forX g tb none all rest δ h = some (.nx δ', h') /\ P δ' h' := by
 suffices H : ∀ (r : List PyData) (n : Nat) (δ : DSt) (h : Cells), (∃ p, rest = p ++ r /\ p.length = n) -> I n δ h -> ∃ δ' h', forX g tb none all r δ h = some (.nx δ', h') /\ I rest.length δ' h' by
  obtain ⟨δ', h', e, i⟩ := H rest 0 δ h ⟨[], rfl, rfl⟩ hi
  exact ⟨δ', h', e, hP δ' h' i⟩
 intro r
 induction r with
 | nil =>
  rintro n δ h ⟨p, e1, e2⟩ i
  subst e2
  simp at e1
  subst e1
  exact ⟨δ, h, by simp [forX], i⟩
 | cons x r ih =>
  rintro n δ h ⟨p, e1, e2⟩ i
  have hn : n < rest.length := by rw [e1]; simp; omega
  have hx : rest[n] = x := by subst e2; subst e1; simp
  obtain ⟨δ1, h1, e1', δ2, h2, e2', i2⟩ := ht n hn δ h i
  rw [hx] at e1'
  obtain ⟨δ3, h3, e3, i3⟩ := ih (n + 1) δ2 h2 ⟨p ++ [x], by simp [e1], by simp [e2]⟩ i2
  refine ⟨δ3, h3, ?_, i3⟩
  rw [forX, cond_none, if_pos rfl, e1']
  simp only [bs, e2']
  exact e3
theorem rng_len (lo : Int) (n : Nat) : (rng lo n).length = n := by simp [rng]
theorem rng_get (lo : Int) (n k : Nat) (hk : k < (rng lo n).length) : (rng lo n)[k] = .int (lo + k) := by simp [rng]
theorem rngB_nat {i j : Nat} (hi : i <= 100) (hj : j <= 100) : rngB i j = true := by
 unfold rngB
 simp only [Bool.and_eq_true, decide_eq_true_eq]
 omega
@[simp] theorem at4 (a b c e f : PyData) (r : List PyData) : atI (a :: b :: c :: e :: f :: r) 4 = some f := atI_nat (j := 4) (by simp)
@[simp] theorem at5 (a b c e f g : PyData) (r : List PyData) : atI (a :: b :: c :: e :: f :: g :: r) 5 = some g := atI_nat (j := 5) (by simp)
end CI
namespace CI
open PySem PySem.Spec PyProof.Rows L2 DL
def gcl (b : List Stmt) : List (Str × PyData) := b.filterMap fun s => match s with
 | .Assign [.Name y _] e _ => if !(y == ("__name__" : Str)) then (litOf 4 e).map (y, ·) else none
 | _ => none
theorem gc_mem {b : List Stmt} {x : Str} {z : PyData} (h : gcOf b x = some z) : (x, z) ∈ gcl b := by
 obtain ⟨s, hs, e⟩ := List.exists_of_findSome?_eq_some h
 refine List.mem_filterMap.mpr ⟨s, hs, ?_⟩
 split at e
 ·rename_i y p e0 q
  split at e
  ·rename_i hc
   rw [Bool.and_eq_true] at hc
   have : y = x := eq_of_beq hc.1
   subst this
   try simp only []
   rw [if_pos hc.2, e]
   rfl
  ·cases e
 ·cases e
def tkl (b : List Stmt) : List (Str × List (Str × Int)) := b.filterMap fun s => match s with
 | .Assign [.Name y _] (.Dict ks vs _) _ => (tabL ks vs).map (y, ·)
 | _ => none
theorem tk_mem {b : List Stmt} {x : Str} {f : Str -> Option Int} (h : tkOf b x = some f) : ∃ t, (x, t) ∈ tkl b /\ f = fun z => t.lookup z := by
 obtain ⟨s, hs, e⟩ := List.exists_of_findSome?_eq_some h
 split at e
 ·rename_i y p ks vs p2 q
  split at e
  ·rename_i hc
   have : y = x := eq_of_beq hc
   subst this
   obtain ⟨t, et, rfl⟩ := Option.map_eq_some_iff.mp e
   refine ⟨t, List.mem_filterMap.mpr ⟨_, hs, ?_⟩, rfl⟩
   simp only []
   rw [et]
   rfl
  ·cases e
 ·cases e
def dfl (b : List Stmt) : List (Str × Stmt) := b.filterMap fun s => match s with
 | .FunctionDef n _ _ _ _ _ _ _ _ _ => some (n, s)
 | _ => none
theorem df_mem {b : List Stmt} {x : Str} {s : Stmt} (h : defsOf b x = some s) : (x, s) ∈ dfl b := by
 have h1 := List.find?_some h
 have h2 := List.mem_of_find?_eq_some h
 refine List.mem_filterMap.mpr ⟨s, h2, ?_⟩
 unfold isDef at h1
 split at h1
 ·simp only [eq_of_beq h1]
 ·cases h1
section
variable {P : Program} {w : World} {K : PySem.W.Frag} {mg : Str -> Option Value} {base : Heap}
theorem law_fn {t : Top} {x : Str} {s : Stmt} {f : Addr} {fd : FuncData} {k : Nat} (T : TopOk t P w K mg base) (hs : t.defs x = some s) (F : Fun K x x s f fd) (htb : t.tb x = none) : FnOk P w K mg base CX0 (k + 1) f fd (parsOf s) (upSp K (spOf (callD t (k + 1) x))) := by
 have e : callD t (k + 1) x = runFn t (fun y => (t.defs y).map fun _ => callD t k y) (fun y => (t.defs y).map fun _ => callF t k y) x s := by
  show (match t.defs x with | some s => _ | none => _) = _
  rw [hs]
 rw [e]
 refine fn_ok T F (fun y m hy => ?_) (fun y m hy => ?_) fun P e => by rw [htb] at e; cases e
 ·obtain ⟨s', e1, rfl⟩ := Option.map_eq_some_iff.mp hy
  exact (callB_ok T k y s' e1).1
 ·obtain ⟨s', e1, rfl⟩ := Option.map_eq_some_iff.mp hy
  exact (callB_ok T k y s' e1).2
theorem reps_nums (K : PySem.W.Frag) (A : List Addr) (H : Hp) : ∀ ns : List Int, Reps K A H (ns.map .int) (ns.map V.int)
 | [] => .nil
 | n :: r => .cons repI (reps_nums K A H r)
theorem tab_cons {x k : Str} {hh : Int} {t : Tok} {v : Value} {es : List DictEntry} : findBy Value.isStrOf (⟨hh, .str k t, v⟩ :: es).toArray x = if k = x then some v else findBy Value.isStrOf es.toArray x := by
 unfold findBy
 simp only [List.find?_toArray, List.find?_cons, Value.isStrOf]
 by_cases e : k = x
 ·simp [e]
 ·have : (k == x) = false := beq_eq_false_iff_ne.mpr e
  simp [e, this]
end
end CI
namespace CI
open PySem PySem.Spec PyProof.Rows L2 DL
def FI (K : PySem.W.Frag) (n : Str) (s : Stmt) : Prop := ∃ (f : Addr) (od an : Option Addr) (sl : Array (Option Value)) (oc kV dc pm cd ct : Value), PySem.W.nsIn K mainGlobals n = some (some (.ref f)) /\ K.lookup f = some ⟨oc, od, .func (PySem.W.fnOf n n (defArgs s) (defBody s) (defScope s) .none kV dc pm an cd ct), sl⟩ /\ PySem.W.codeIn K cd n = true /\ PySem.W.keepIn K (.ref f) = true
theorem fi_mk {K : PySem.W.Frag} {n : Str} {s : Stmt} {f : Addr} {od an : Option Addr} {sl : Array (Option Value)} {oc kV dc pm cd ct : Value} (a : PySem.W.nsIn K mainGlobals n = some (some (.ref f))) (l : K.lookup f = some ⟨oc, od, .func (PySem.W.fnOf n n (defArgs s) (defBody s) (defScope s) .none kV dc pm an cd ct), sl⟩) (c : PySem.W.codeIn K cd n = true) (k : PySem.W.keepIn K (.ref f) = true) : FI K n s := ⟨_, _, _, _, _, _, _, _, _, _, a, l, c, k⟩
theorem FI.ok {K : PySem.W.Frag} {n : Str} {s : Stmt} {h : Heap} {mg : Str -> Option Value} {ps : List Str} (a : FI K n s) (X : K.In h) (G : h.Ns mainGlobals mg) (hp : parsOf s = ps)
  (hb : ∀ (kV doc pm : Value) (an : Option Addr) (cdv ct : Value) (us : List Value), us.length = ps.length -> bindArgs (PySem.W.fnOf n n (defArgs s) (defBody s) (defScope s) .none kV doc pm an cdv ct) ⟨us, []⟩ = pure (ps.zip us)) : ∃ f fd, Fun K n n s f fd /\ mg n = some (.ref f) /\ Binds K fd (parsOf s) [] := by
 obtain ⟨f, od, an, sl, oc, kV, dc, pm, cd, ct, a, l, c, k⟩ := a
 have F := fun_mk (st := s) l c k
 exact ⟨f, _, F, PySem.W.mg_of X G a, by rw [hp]; exact F.binds hb⟩
end CI
namespace CI
open PySem PySem.Spec PyProof.Rows L2 DL
def OnlyT (Pt : Addr) (H : Hp) : Prop := H Pt = some (.tbl #[]) /\ ∀ b, b ≠ Pt -> H b = none \/ ∃ o xs, H b = some (.frz o (.lst xs))
theorem law_callT {P : Program} {w : World} {K : PySem.W.Frag} {mg mb : Str -> Option Value} {k : Nat} {fa a Pt c0 : Addr} {fd : FuncData} {x : Str} {sp : Sp} {s₁ : Shared} {vs : List Value} {ns : List Int}
  (KX : K.In s₁.heap) (hns : s₁.heap.Ns mainGlobals mg) (hb : s₁.heap.Ns builtinsNs mb) (hbb : ∀ x : Str, x ≠ "__name__" -> mb x = bootBuiltins x) (hlim : s₁.heap.NoLimit) (hg : s₁.gens = #[])
  (ha : s₁.heap.get? a = some { cls := .type "list", data := .seq vs.toArray }) (hi : IntsAre vs ns) (hl : ns.length <= sizeLine) (hr : Room k callerA)
  (hPt : s₁.heap.get? Pt = some (PySem.W.tabObj #[])) (hKP : K.lookup Pt = none) (hcd : PySem.W.codeHdIn K c0 Pt = true)
  (hbm : ∃ bm ob, mg "__builtins__" = some (.ref bm) /\ bm ≠ builtinsNs /\ s₁.heap.get? bm = some ob /\ ob.cls = .type "module" /\ ob.dict = some builtinsNs /\ ob.data = .plain)
  (F : ∀ base : Heap, K.In base -> base.Ns mainGlobals mg -> base.BuiltinsAt mg Pt -> FnOk P w K mg base CX0 k fa fd [x] sp) (hbind : ∀ (s : Shared) (u : Value), BindsTo s fd ⟨[u], []⟩ [(x, u)])
  (hsp : ∀ H : Hp, OnlyT Pt H -> SqL K H a (ns.map V.int) -> sp [.ref a] H (fun v _ => v = .bl true) fun _ _ _ => False) :
  codeAny (model P w) callerA (.call (.ref fa) ⟨[.ref a], []⟩) (fun r s' => r = .ok (.ret (.bool true)) /\ OldK s₁.heap s'.heap /\ s'.os = s₁.os /\ AllBare s'.gens) s₁ := by
 have rv := vals_ints hi
 have lenV := hi.length
 have haP : a ≠ Pt := fun z => by rw [z, hPt] at ha; cases ha
 have core : ∀ H : Hp, OnlyT Pt H -> SqL K H a (ns.map V.int) -> HOk P w H s₁.heap -> (∀ b, H b ≠ none -> b = a \/ b = Pt) -> (H a ≠ none -> K.lookup a = none) ->
   codeAny (model P w) callerA (.call (.ref fa) ⟨[.ref a], []⟩) (fun r s' => r = .ok (.ret (.bool true)) /\ OldK s₁.heap s'.heap /\ s'.os = s₁.os /\ AllBare s'.gens) s₁ := by
  intro H hO hS hok hA hK
  have base_of : ∀ {b : Addr} {o : Obj}, s₁.heap.get? b = some o -> H b = none -> (hidT s₁.heap H).get? b = some o := fun e n => hidT_get e n
  have noA : ∀ {b : Addr} {o : Obj} {es : Array DictEntry} {ep : Nat}, s₁.heap.get? b = some o -> o.data = .dict es ep -> H b = none := fun {b o es ep} e d => by
   cases q : H b with
   | none => rfl
   | some u =>
    rcases hA b (by rw [q]; simp) with e' | e'
    ·subst e'
     rw [ha] at e; cases e
     have d' : Data.seq vs.toArray _ = Data.dict es ep := d
     cases d'
    ·subst e'
     rw [hPt] at e; cases e
     have d' : Data.fields #[] = Data.dict es ep := d
     cases d'
  have nsK : ∀ {b : Addr} {m : Str -> Option Value}, s₁.heap.Ns b m -> (hidT s₁.heap H).Ns b m := fun {b m} ⟨o, es, ep, e, d, r⟩ => ⟨o, es, ep, base_of e (noA e d), d, r⟩
  have hKb : K.In (hidT s₁.heap H) := fun b o e => base_of (KX b o e) (by
   cases q : H b with
   | none => rfl
   | some u =>
    rcases hA b (by rw [q]; simp) with e' | e'
    ·subst e'
     rw [hK (by rw [q]; simp)] at e; cases e
    ·subst e'
     rw [hKP] at e; cases e)
  have hB : (hidT s₁.heap H).BuiltinsAt mg Pt := by
   obtain ⟨bm, ob, b1, b2, b3, b4, b5, b6⟩ := hbm
   have ba : bm ≠ a := fun z => by rw [z, ha] at b3; cases b3; cases b6
   have bP : bm ≠ Pt := fun z => by rw [z, hPt] at b3; cases b3; cases b6
   have bg : bm ≠ mainGlobals := fun z => by
    obtain ⟨o, es, ep, e, d, _⟩ := hns
    rw [<- z, b3] at e
    cases e
    rw [b6] at d
    cases d
   have hn : H bm = none := by
    cases q : H bm with
    | none => rfl
    | some u =>
     rcases hA bm (by rw [q]; simp) with e' | e'
     ·exact (ba e').elim
     ·exact (bP e').elim
   exact ⟨bm, ob, b1, b2, bg, bP, base_of b3 hn, b4, b5, b6⟩
  have hM : Mod K mg (hidT s₁.heap H) := ⟨hKb, nsK hns, ⟨mb, nsK hb, hbb⟩, let ⟨mc, h1, h2⟩ := hlim; ⟨mc, nsK h1, h2⟩⟩
  have e0 : Env0 P w K mg (hidT s₁.heap H) callerA [] s₁ H := ⟨rfl, hM, fun b o e => of_hidT e, Nat.le_of_eq (hidT_size _ _), trivial, fun b hb => absurd (show b ∈ ([] : List Addr) from hb) (by simp), hok, .of_eq hg⟩
  refine codeAny_mono ((F _ hKb (nsK hns) hB).run callerA [] s₁ H ⟨[.ref a], []⟩ [.ref a] [.ref a] _ _ hr e0 (hbind s₁ (.ref a)) (.cons rfl .nil) (hsp H hO hS)) fun r s' h => ?_
  cases r with
  | error e => exact False.elim h
  | ok fl =>
   cases fl with
   | next => exact False.elim h
   | brk => exact False.elim h
   | cont => exact False.elim h
   | ret u =>
    obtain ⟨v, H', os, bare, un, hok', r', q⟩ := h
    have q' : v = .bl true := q
    subst q'
    obtain rfl : u = Value.bool true := r'
    obtain ⟨more, em⟩ := un.tbls Pt #[] hO.1
    have hP' : s'.heap.get? Pt = some (PySem.W.tabObj (#[] ++ more)) := hok' Pt _ em
    have keep : ∀ b o, b ≠ Pt -> s₁.heap.get? b = some o -> s'.heap.get? b = some o := fun b o hb e => by
     cases q : H b with
     | none => exact un.keep b o e q (by intro z; exact absurd (show b ∈ ([] : List Addr) from z) (by simp)) (by simp)
     | some u =>
      rcases hO.2 b hb with z | ⟨ob, xs, z⟩
      ·rw [q] at z; cases z
      ·have z2 := un.frzs b ob _ z
       obtain ⟨e1, _⟩ := hok b _ z
       obtain ⟨e2, _⟩ := hok' b _ z2
       rw [e] at e1; cases e1
       exact e2
    refine ⟨rfl, ⟨fun b o e => ?_, fun b o e => ?_⟩, os, bare⟩
    ·by_cases hb : b = Pt
     ·subst hb
      rw [hPt] at e
      cases e
      have C := PySem.W.codeHd_of_K KX hcd
      exact .inr (.inl ⟨(C.tab hPt).isCodeTable, rfl, #[], more, rfl, hP'⟩)
     ·exact .inl (keep b o hb e)
    ·by_cases hb : b = Pt
     ·subst hb; exact ⟨_, hP'⟩
     ·exact ⟨o, keep b o hb e⟩
 cases hk : K.lookup a with
 | some o =>
  have e := KX a o hk
  rw [ha] at e
  cases e
  refine core (fun b => if b = Pt then some (.tbl #[]) else none) ⟨if_pos rfl, fun b hb => .inl (if_neg hb)⟩ (.inr ⟨_, vs.toArray, _, hk, rfl, rfl, rfl, by rw [List.size_toArray, lenV]; exact hl, by simpa using rv⟩) (fun b u z => ?_) (fun b z => ?_) fun z => absurd (if_neg haP) z
  ·by_cases hb : b = Pt
   ·have z' := (if_pos hb).symm.trans z
    cases z'
    subst hb
    exact hPt
   ·have z' := (if_neg hb).symm.trans z
    cases z'
  ·by_cases hb : b = Pt
   ·exact .inr hb
   ·exact absurd (if_neg hb) z
 | none =>
  have f1 : ∀ b, b = Pt -> (if b = Pt then some (HO.tbl #[]) else if b = a then some (.frz { cls := .type "list", data := .seq vs.toArray } (.lst (ns.map V.int))) else none) = some (.tbl #[]) := fun b hb => if_pos hb
  have f2 : ∀ b, b = a -> (if b = Pt then some (HO.tbl #[]) else if b = a then some (.frz { cls := .type "list", data := .seq vs.toArray } (.lst (ns.map V.int))) else none) = some (.frz { cls := .type "list", data := .seq vs.toArray } (.lst (ns.map V.int))) := fun b hb => by
   rw [if_neg (fun z => haP (hb.symm.trans z)), if_pos hb]
  have f3 : ∀ b, b ≠ Pt -> b ≠ a -> (if b = Pt then some (HO.tbl #[]) else if b = a then some (.frz { cls := .type "list", data := .seq vs.toArray } (.lst (ns.map V.int))) else none) = none := fun b h1 h2 => by
   rw [if_neg h1, if_neg h2]
  refine core (fun b => if b = Pt then some (.tbl #[]) else if b = a then some (.frz { cls := .type "list", data := .seq vs.toArray } (.lst (ns.map V.int))) else none) ⟨f1 _ rfl, fun b hb => ?_⟩ (.inl (.inr ⟨{ cls := .type "list", data := .seq vs.toArray }, f2 _ rfl⟩)) (fun b u z => ?_) (fun b z => ?_) fun _ => hk
  ·by_cases h2 : b = a
   ·exact .inr ⟨_, _, f2 b h2⟩
   ·exact .inl (f3 b hb h2)
  ·by_cases h1 : b = Pt
   ·have z' := (f1 b h1).symm.trans z
    cases z'
    subst h1
    exact hPt
   by_cases h2 : b = a
   ·have z' := (f2 b h2).symm.trans z
    cases z'
    subst h2
    exact ⟨ha, by rw [List.length_map]; exact hl, vs, _, rv, ha⟩
   ·have z' := (f3 b h1 h2).symm.trans z
    cases z'
  ·by_cases h1 : b = Pt
   ·exact .inr h1
   by_cases h2 : b = a
   ·exact .inl h2
   ·exact absurd (f3 b h1 h2) z
theorem walk_ofT {l : PySem.W.OpenLaw} {n k : Nat} {q : Program} {loose : List Str} {XP : (Str -> Option Value) -> Heap -> Prop} {YP : World -> Heap -> Prop} {d : DefRec} {K : Params -> PySem.W.Frag} {sp : World -> Sp} {x : Str} {Pt c0 : Addr}
  (hn : l.most = some n) (hn2 : n <= sizeLine) (hdf : d.params.defaults = []) (hr : Room k callerA)
  (hY : ∀ (w : World) (h : Heap), YP w h -> (K w.params).In h /\ h.get? Pt = some (PySem.W.tabObj #[])) (hKP : ∀ w : World, (K w.params).lookup Pt = none) (hcd : ∀ w : World, PySem.W.codeHdIn (K w.params) c0 Pt = true)
  (F : ∀ (w : World) (mg : Str -> Option Value) (fa : Addr) (h : Heap), (K w.params).In h -> h.Ns mainGlobals mg -> mg d.name = some (.ref fa) ->
   ∃ fd : FuncData, (∀ (s : Shared) (u : Value), BindsTo s fd ⟨[u], []⟩ [(x, u)]) /\
    ∀ base : Heap, (K w.params).In base -> base.Ns mainGlobals mg -> base.BuiltinsAt mg Pt -> FnOk l.prog w (K w.params) mg base CX0 k fa fd [x] (sp w))
  (hsp : ∀ (w : World) (H : Hp) (a : Addr) (ns : List Int), ns.length <= n -> OnlyT Pt H -> SqL (K w.params) H a (ns.map V.int) -> sp w [.ref a] H (fun v _ => v = .bl true) fun _ _ _ => False) :
  PySem.W.WalkO q loose XP YP l.row.toRowW d [] (fun f vs => PySem.call f vs) := by
 refine Att.attach_call hn hdf fun w s₀ s₁ mg mb fa o pm cd doc a vs ns G Y ho hd hcd' hmg hobj hints hlen hg => ?_
 obtain ⟨KX, hP⟩ := hY w _ Y
 obtain ⟨fd, hb, hF⟩ := F w mg fa _ KX G.T.g hmg
 exact law_callT KX G.T.g G.T.b G.T.builtins G.T.nolimit hg hobj hints (Nat.le_trans hlen hn2) hr hP (hKP w) (hcd w) G.T.bmain hF hb (fun H hO hS => hsp w H a ns hlen hO hS)
theorem law_spT {t : Top} {x q : Str} {d : Nat} {Pt : Addr} {pos : Pos} (hL : ∀ ns : List Int, ∃ h', callD t d x [.d (.list (ns.map .int))] [.t Pt pos q] = some (.bool true, h')) (K : PySem.W.Frag) (H : Hp) (a : Addr) (ns : List Int) (hO : OnlyT Pt H) (hS : SqL K H a (ns.map V.int)) : upSp K (spOf (callD t d x)) [.ref a] H (fun v _ => v = .bl true) fun _ _ _ => False := by
 obtain ⟨h', e⟩ := hL ns
 refine ⟨[.d (.list (ns.map .int))], [.t Pt pos q], [Pt], [Pt], fun z _ => z = .bool true, ⟨rfl, by simp, fun _ z => z, fun b z => ?_, fun i b c e1 e2 => ?_⟩, ⟨_, [], rfl, ?_, rfl⟩, ⟨.bool true, h', e, rfl⟩, fun z h' v H' A' e _ _ r => ?_⟩
 ·rw [List.mem_singleton.mp z]; exact ⟨_, hO.1⟩
 ·cases i with
  | zero =>
   simp at e1 e2
   subst e1 e2
   exact ⟨rfl, #[], hO.1, trivial, .inl rfl⟩
  | succ i => simp at e1
 ·show Rep K [Pt] H (.list (ns.map .int)) (.ref a)
  rw [Rep]
  refine ⟨a, _, rfl, ?_, reps_nums K [Pt] H ns⟩
  rcases hS with h | h
  ·refine .inl ⟨fun z => ?_, h⟩
   rw [List.mem_singleton.mp z] at h
   rcases h with h | ⟨o, h⟩ <;> rw [hO.1] at h <;> cases h
  ·exact .inr h
 ·subst e
  rw [Rep] at r
  exact r
def FIT (K : PySem.W.Frag) (n : Str) (s : Stmt) (Pt : Addr) : Prop := ∃ (f c0 : Addr) (od an : Option Addr) (sl : Array (Option Value)) (oc kV dc pm ct : Value), PySem.W.nsIn K mainGlobals n = some (some (.ref f)) /\ K.lookup f = some ⟨oc, od, .func (PySem.W.fnOf n n (defArgs s) (defBody s) (defScope s) .none kV dc pm an (.ref c0) ct), sl⟩ /\ PySem.W.codeIn K (.ref c0) n = true /\ PySem.W.keepIn K (.ref f) = true /\ PySem.W.codeHdIn K c0 Pt = true
theorem fit_mk {K : PySem.W.Frag} {n : Str} {s : Stmt} {Pt f c0 : Addr} {od an : Option Addr} {sl : Array (Option Value)} {oc kV dc pm ct : Value} (a : PySem.W.nsIn K mainGlobals n = some (some (.ref f))) (l : K.lookup f = some ⟨oc, od, .func (PySem.W.fnOf n n (defArgs s) (defBody s) (defScope s) .none kV dc pm an (.ref c0) ct), sl⟩) (c : PySem.W.codeIn K (.ref c0) n = true) (k : PySem.W.keepIn K (.ref f) = true) (hd : PySem.W.codeHdIn K c0 Pt = true) : FIT K n s Pt := ⟨_, _, _, _, _, _, _, _, _, _, a, l, c, k, hd⟩
theorem FIT.ok {K : PySem.W.Frag} {n : Str} {s : Stmt} {h : Heap} {mg : Str -> Option Value} {ps : List Str} {Pt : Addr} (a : FIT K n s Pt) (X : K.In h) (G : h.Ns mainGlobals mg) (hp : parsOf s = ps)
  (hb : ∀ (kV doc pm : Value) (an : Option Addr) (cdv ct : Value) (us : List Value), us.length = ps.length -> bindArgs (PySem.W.fnOf n n (defArgs s) (defBody s) (defScope s) .none kV doc pm an cdv ct) ⟨us, []⟩ = pure (ps.zip us)) : ∃ f fd, Fun K n n s f fd /\ mg n = some (.ref f) /\ Binds K fd (parsOf s) [] /\ ∃ c0, fd.code = .ref c0 /\ PySem.W.codeHdIn K c0 Pt = true := by
 obtain ⟨f, c0, od, an, sl, oc, kV, dc, pm, ct, a, l, c, k, hd⟩ := a
 have F := fun_mk (st := s) l c k
 exact ⟨f, _, F, PySem.W.mg_of X G a, by rw [hp]; exact F.binds hb, c0, rfl, hd⟩
end CI
namespace K08
open PySem PySem.Spec PyProof.Rows L2 DL CI SJ
def body : List Stmt := PySem.Challenge.pw_storejudge_k08_hands_and_times.main.body
def cv (x : Str) : List Str := if x = "law" then ["_law_state", "_law_deeds_here"] else if x = "_law_deeds" then ["_law_free", "_law_over", "_law_used", "_law_found", "_law_state"] else []
def tb (x : Str) : Option Addr := if x = "of_hand" then some 208 else none
def tc : Cell := .t 208 ⟨114, 37, 114, 70⟩ "of_hand.<locals>.<lambda>"
def T : Top := topOf body (fun _ => []) cv 1000 60 tb
end K08
namespace K08
open PySem PySem.Spec PyProof.Rows L2 DL CI
def YE : Fl × Cells -> Option (Fl × Cells) := fun p => match p.1 with
  | Fl.nx δ' => some (Fl.nx δ', p.2)
  | f => some (f, p.2)
@[simp] theorem YE_d  : YE = fun p => match p.1 with
  | Fl.nx δ' => some (Fl.nx δ', p.2)
  | f => some (f, p.2) := rfl
def YN : W -> XR (List W) := fun w => xb (xpure []) fun ws => xpure (w :: ws)
@[simp] theorem YN_d  : YN = fun w => xb (xpure []) fun ws => xpure (w :: ws) := rfl
def YC (w : W) : List W -> XR (List W) := fun ws => xpure (w :: ws)
@[simp] theorem YC_d (w : W) : YC w = fun ws => xpure (w :: ws) := rfl
def YF (d : Nat) (s : String) : List W -> XR W := fun ws x h => Option.bind (callD T d (Str.ofString s) ws h) fun p => some (W.d p.1, p.2)
@[simp] theorem YF_d (d : Nat) (s : String) : YF d s = fun ws x h => Option.bind (callD T d (Str.ofString s) ws h) fun p => some (W.d p.1, p.2) := rfl
def YI (n : Int) : W -> XR W := fun x => xb (xpure (W.d (PyData.int n))) fun y x_1 h => xIx x y h
@[simp] theorem YI_d (n : Int) : YI n = fun x => xb (xpure (W.d (PyData.int n))) fun y x_1 h => xIx x y h := rfl
def YB (o : Operator) (n : Int) : W -> XR W := fun u => xb (xpure (W.d (PyData.int n))) fun w x h => xBin o u w h
@[simp] theorem YB_d (o : Operator) (n : Int) : YB o n = fun u => xb (xpure (W.d (PyData.int n))) fun w x h => xBin o u w h := rfl
def YO (o : Operator) (u : W) : W -> XR W := fun w x h => xBin o u w h
@[simp] theorem YO_d (o : Operator) (u : W) : YO o u = fun w x h => xBin o u w h := rfl
def YT : List PyData -> XR W := fun xs => xpure (W.d (PyData.tuple xs))
@[simp] theorem YT_d  : YT = fun xs => xpure (W.d (PyData.tuple xs)) := rfl
def YW : W × Cells -> Option (Fl × Cells) := fun p => some (Fl.rt p.1, p.2)
@[simp] theorem YW_d  : YW = fun p => some (Fl.rt p.1, p.2) := rfl
def YS (s : String) : XR W := xpure (W.d (PyData.str (Str.ofString s)))
@[simp] theorem YS_d (s : String) : YS s = xpure (W.d (PyData.str (Str.ofString s))) := rfl
def YJ (n : Int) : XR W := xpure (W.d (PyData.int n))
@[simp] theorem YJ_d (n : Int) : YJ n = xpure (W.d (PyData.int n)) := rfl
def YK (f : List W -> Cells -> Option (W × Cells)) : List W -> XR W := fun ws x h => f ws h
@[simp] theorem YK_d (f : List W -> Cells -> Option (W × Cells)) : YK f = fun ws x h => f ws h := rfl
def YQ (k : DSt -> Fl × Cells -> Option (Fl × Cells)) : Fl × Cells -> Option (Fl × Cells) := fun p => match p.1 with
  | Fl.nx δ' => k δ' p
  | f => some (f, p.2)
@[simp] theorem YQ_d (k : DSt -> Fl × Cells -> Option (Fl × Cells)) : YQ k = fun p => match p.1 with
  | Fl.nx δ' => k δ' p
  | f => some (f, p.2) := rfl
def YP {α β : Type} (x : Option α) (f : α -> Option β) : Option β := Option.bind x f
@[simp] theorem YP_d {α β : Type} (x : Option α) (f : α -> Option β) : YP x f = Option.bind x f := rfl
def YG (i : Nat) : XG := fun w δ h => some (List.set δ i (some w), h)
@[simp] theorem YG_d (i : Nat) : YG i = fun w δ h => some (List.set δ i (some w), h) := rfl
def YZ : XR W := xpure (W.d PyData.none)
@[simp] theorem YZ_d : YZ = xpure (W.d PyData.none) := rfl
def YV (i : Nat) (n : Int) : XR W := xb (xVar i) (YI n)
@[simp] theorem YV_d (i : Nat) (n : Int) : YV i n = xb (xVar i) (YI n) := rfl
theorem u_is_whole (d : Nat) (w0 : W) (h : Cells) : callD T (d + 1) "is_whole" [w0] h =
 YP
 (YP
 (YP
 (xb (xb (xVar 0) fun (w : W) (x : DSt) (h : Cells) => YP (ref h w) fun (d : PyData) => some (W.d (PyData.bool (isi d "int")), h))
 (fun (w : W) =>
 match w with
     | W.d (PyData.bool true) =>
      xb (xb (xVar 0) fun (w : W) (x : DSt) (h : Cells) => YP (ref h w) fun (d : PyData) => some (W.d (PyData.bool (isi d "bool")), h)) fun (w : W) =>
 match w with
       | W.d (PyData.bool b) => xpure (W.d (PyData.bool !b))
       | x => xno
     | W.d (PyData.bool false) => xpure (W.d (PyData.bool false))
     | x => xno)
 [some w0] h)
 YW)
 YE)
 (ends (List.length h)) := by kernel_rfl
theorem u_is_between (d : Nat) (w0 w1 w2 : W) (h : Cells) : callD T (d + 1) "is_between" [w0, w1, w2] h =
 YP
 (YP
 (YP
 (xb (xb (xb (xVar 0) YN) (YF d "is_whole"))
 (fun (w : W) =>
 match w with
     | W.d (PyData.bool true) => xMapW (xC2 CmpOp.LtE CmpOp.LtE (xVar 1) (xVar 0) (xVar 2))
     | W.d (PyData.bool false) => xpure (W.d (PyData.bool false))
     | x => xno)
 [some w0, some w1, some w2] h)
 YW)
 YE)
 (ends (List.length h)) := by kernel_rfl
theorem u_is_tuple_of (d : Nat) (w0 w1 : W) (h : Cells) : callD T (d + 1) "is_tuple_of" [w0, w1] h =
 YP
 (YP
 (YP
 (xb (xb (xVar 0) fun (w : W) (x : DSt) (h : Cells) => YP (ref h w) fun (d : PyData) => some (W.d (PyData.bool (isi d "tuple")), h))
 (fun (w : W) =>
 match w with
     | W.d (PyData.bool true) => xMapW (xC1 CmpOp.Eq (xb (xb (xVar 0) YN) (YK xLen)) (xVar 1))
     | W.d (PyData.bool false) => xpure (W.d (PyData.bool false))
     | x => xno)
 [some w0, some w1] h)
 YW)
 YE)
 (ends (List.length h)) := by kernel_rfl
theorem u_are_whole (d : Nat) (w0 : W) (h : Cells) : callD T (d + 1) "are_whole" [w0] h =
 YP
 (YP (YP (xb (xb (xFrz (xb (xEach (xVar 0)) fun p δ h => compX (YG 0) (xpure true) (xb (xb (xVar 0) YN) (YF d "is_whole")) p.2 p.1 p.1 (dpick [none] δ) h [])) YN) (YK xAll) [some w0] h) YW) YE)
 (ends (List.length h)) := by kernel_rfl
theorem u_is_key (d : Nat) (w0 : W) (h : Cells) : callD T (d + 1) "is_key" [w0] h =
 YP
 (YP (YP (xb (xb (xVar 0) fun w => xb (xb (YJ 0) fun w => xb (xb (YJ 7) YN) (YC w)) (YC w)) ((YF d "is_between")) [some w0] h) YW) YE)
 (ends (List.length h)) := by kernel_rfl
theorem u_word_of (d : Nat) (w0 : W) (h : Cells) : callD T (d + 1) "word_of" [w0] h =
 YP
 (YP
 (YP
 (xb
 (xb (xb (xVar 0) fun (w : W) (x : DSt) (h : Cells) => YP (ref h w) fun (d : PyData) => some (W.d (PyData.bool (isi d "tuple")), h)) fun (w : W) =>
 match w with
     | W.d (PyData.bool b) => xpure b
     | x => xno)
 (fun (c : Bool) =>
 if c = true then
 xb (xC1 CmpOp.Gt (xb (xb (xVar 0) YN) (YK xLen)) (YJ 0)) fun (c : Bool) =>
 if c = true then
 xb (xb (YV 0 0) fun (w : W) (x : DSt) (h : Cells) => YP (ref h w) fun (d : PyData) => some (W.d (PyData.bool (isi d "str")), h)) fun (w : W) =>
 match w with
         | W.d (PyData.bool b) => xpure b
         | x => xno
 else xpure false
 else xpure false)
 [some w0] h)
 fun p =>
 if p.1 = true then
 YP (YP (xb (xVar 0) (YI 0) [some w0] p.2) YW) YE
 else some (Fl.nx [some w0], p.2))
 (YQ fun δ' p =>
 YP (YP (YZ δ' p.2) YW) YE))
 (ends (List.length h)) := by kernel_rfl
theorem u_is_worded (d : Nat) (w0 w1 w2 : W) (h : Cells) : callD T (d + 1) "is_worded" [w0, w1, w2] h =
 YP
 (YP
 (YP
 (xb (xMapW (xC1 CmpOp.Eq (xb (xb (xVar 0) YN) (YF d "word_of")) (xVar 1)))
 (fun (w : W) =>
 match w with
     | W.d (PyData.bool true) => xMapW (xC1 CmpOp.Eq (xb (xb (xVar 0) YN) (YK xLen)) (xVar 2))
     | W.d (PyData.bool false) => xpure (W.d (PyData.bool false))
     | x => xno)
 [some w0, some w1, some w2] h)
 YW)
 YE)
 (ends (List.length h)) := by kernel_rfl
theorem u_is_single (d : Nat) (w0 : W) (h : Cells) : callD T (d + 1) "is_single" [w0] h =
 YP
 (YP (xSet 1 (xb (xb (xVar 0) YN) (YF d "word_of")) [some w0, none] h) (YQ fun δ' p =>
   YP
    (YP
     (xb (xTabN (fun (z : Str) => List.lookup z ((fun (x : List (Str × Int)) => (Str.ofString "read", 0) :: x) ((fun (x : List (Str × Int)) => (Str.ofString "write", 1) :: x) ((fun (x : List (Str × Int)) => (Str.ofString "add", 1) :: x) ((fun (x : List (Str × Int)) => (Str.ofString "swap", 2) :: x) []))))) (xVar 1))
      (fun (c : Bool) =>
       if c = true then xpure true
       else
        xC1 CmpOp.NotEq (xb (xb (xVar 0) YN) (YK xLen))
         (xb (YJ 2) fun (u : W) =>
          xb
           (xb (xVar 1) fun (w : W) =>
            match w with
            | W.d (PyData.str z) =>
             match (fun (t : List (Str × Int)) (z : Str) => List.lookup z t) ((fun (x : List (Str × Int)) => (Str.ofString "read", 0) :: x) ((fun (x : List (Str × Int)) => (Str.ofString "write", 1) :: x) ((fun (x : List (Str × Int)) => (Str.ofString "add", 1) :: x) ((fun (x : List (Str × Int)) => (Str.ofString "swap", 2) :: x) [])))) z with
             | some i => xpure (W.d (PyData.int i))
             | none => xno
            | x => xno)
           (YO .Add u)))
      δ' p.2)
     fun p =>
     if p.1 = true then
      YP (YP (xpure (W.d (PyData.bool false)) δ' p.2) YW) YE
     else some (Fl.nx δ', p.2))
    (YQ fun δ' p =>
     YP
      (YP
       (xb (xb (xb (YV 0 1) YN) (YF d "is_key"))
        (fun (w : W) =>
         match w with
         | W.d (PyData.bool true) =>
          xb
           (xb
            (xb (xVar 0) fun (x : W) =>
             xb
              (xb (YJ 2) fun (w : W) =>
               match w with
               | W.d (PyData.int i) => xpure (some i)
               | x => xno)
              fun (l : Option Int) => xb (xpure none) fun (u : Option Int) (x_1 : DSt) (h : Cells) => xSl x l u h)
            YN)
           (YF d "are_whole")
         | W.d (PyData.bool false) => xpure (W.d (PyData.bool false))
         | x => xno)
        δ' p.2)
       YW)
      YE)))
 (ends (List.length h)) := by kernel_rfl
theorem u_is_span (d : Nat) (w0 : W) (h : Cells) : callD T (d + 1) "is_span" [w0] h =
 YP
 (YP
 (YP
 (xb
 (xb
 (xb (xb (xb (xVar 0) fun w => xb (xb (YS "span") fun w => xb (xb (YJ 3) YN) (YC w)) (YC w)) (YF d "is_worded")) fun (w : W) =>
 match w with
      | W.d (PyData.bool b) => xpure b
      | x => xno)
 fun (b : Bool) => xpure !b)
 (fun (c : Bool) =>
 if c = true then xpure true
 else
 xb
 (xb
 (xb
 (xb
 (xb (xVar 0) fun (x : W) =>
 xb
 (xb (YJ 1) fun (w : W) =>
 match w with
             | W.d (PyData.int i) => xpure (some i)
             | x => xno)
 fun (l : Option Int) => xb (xpure none) fun (u : Option Int) (x_1 : DSt) (h : Cells) => xSl x l u h)
 YN)
 (YF d "are_whole"))
 fun (w : W) =>
 match w with
        | W.d (PyData.bool b) => xpure b
        | x => xno)
 fun (b : Bool) => xpure !b)
 [some w0] h)
 fun p =>
 if p.1 = true then
 YP (YP (xpure (W.d (PyData.bool false)) [some w0] p.2) YW) YE
 else some (Fl.nx [some w0], p.2))
 (YQ fun δ' p =>
 YP (YP (xMapW (xC3 CmpOp.LtE CmpOp.Lt CmpOp.LtE (YJ 0) (YV 0 1) (YV 0 2) (xb (YJ 7) (YB .Add 1))) δ' p.2) YW) YE))
 (ends (List.length h)) := by kernel_rfl
theorem u_is_deal (d : Nat) (w0 : W) (h : Cells) : callD T (d + 1) "is_deal" [w0] h =
 YP
 (YP
 (YP
 (xb
 (xb
 (xb (xb (xb (xVar 0) fun w => xb (xb (YS "deal") fun w => xb (xb (YJ 2) YN) (YC w)) (YC w)) (YF d "is_worded")) fun (w : W) =>
 match w with
      | W.d (PyData.bool b) => xpure b
      | x => xno)
 fun (b : Bool) => xpure !b)
 (fun (c : Bool) =>
 if c = true then xpure true
 else
 xb
 (xb (xb (YV 0 1) fun (w : W) (x : DSt) (h : Cells) => YP (ref h w) fun (d : PyData) => some (W.d (PyData.bool (isi d "tuple")), h)) fun (w : W) =>
 match w with
        | W.d (PyData.bool b) => xpure b
        | x => xno)
 fun (b : Bool) => xpure !b)
 [some w0] h)
 fun p =>
 if p.1 = true then
 YP (YP (xpure (W.d (PyData.bool false)) [some w0] p.2) YW) YE
 else some (Fl.nx [some w0], p.2))
 (YQ fun δ' p =>
 YP
 (YP
 (xb (xMapW (xC2 CmpOp.LtE CmpOp.LtE (YJ 1) (xb (xb (YV 0 1) YN) (YK xLen)) (YJ 4)))
 (fun (w : W) =>
 match w with
       | W.d (PyData.bool true) => xb (xb (xFrz (xb (xEach (YV 0 1)) fun p δ h => compX (YG 0) (xpure true) (xb (xb (xVar 0) YN) (YF d "is_single")) p.2 p.1 p.1 (dpick [none] δ) h [])) YN) (YK xAll)
       | W.d (PyData.bool false) => xpure (W.d (PyData.bool false))
       | x => xno)
 δ' p.2)
 YW)
 YE))
 (ends (List.length h)) := by kernel_rfl
theorem u_is_call (d : Nat) (w0 : W) (h : Cells) : callD T (d + 1) "is_call" [w0] h =
 YP
 (YP
 (YP
 (xb (xb (xb (xVar 0) YN) (YF d "is_single"))
 (fun (w : W) =>
 match w with
     | W.d (PyData.bool true) => xpure (W.d (PyData.bool true))
     | W.d (PyData.bool false) =>
      xb (xb (xb (xVar 0) YN) (YF d "is_span")) fun (w : W) =>
 match w with
       | W.d (PyData.bool true) => xpure (W.d (PyData.bool true))
       | W.d (PyData.bool false) => xb (xb (xVar 0) YN) (YF d "is_deal")
       | x => xno
     | x => xno)
 [some w0] h)
 YW)
 YE)
 (ends (List.length h)) := by kernel_rfl
theorem u_is_step (d : Nat) (w0 : W) (h : Cells) : callD T (d + 1) "is_step" [w0] h =
 YP
 (YP
 (YP
 (xb (xb (xb (xVar 0) YN) (YF d "is_call"))
 (fun (w : W) =>
 match w with
     | W.d (PyData.bool true) => xpure (W.d (PyData.bool true))
     | W.d (PyData.bool false) =>
      xb (xb (xb (xVar 0) YN) (YF d "is_look")) fun (w : W) =>
 match w with
       | W.d (PyData.bool true) => xpure (W.d (PyData.bool true))
       | W.d (PyData.bool false) => xb (xb (xVar 0) YN) (YF d "is_lay")
       | x => xno
     | x => xno)
 [some w0] h)
 YW)
 YE)
 (ends (List.length h)) := by kernel_rfl
theorem u_is_answer (d : Nat) (w0 w1 : W) (h : Cells) : callD T (d + 1) "is_answer" [w0, w1] h =
 YP
 (YP
 (YP
 (xb
 (xb (xb (xb (xVar 0) YN) (YF d "is_step")) fun (w : W) =>
 match w with
     | W.d (PyData.bool b) => xpure b
     | x => xno)
 (fun (b : Bool) => xpure !b) [some w0, some w1] h)
 fun p =>
 if p.1 = true then
 YP (YP (xpure (W.d (PyData.bool false)) [some w0, some w1] p.2) YW) YE
 else some (Fl.nx [some w0, some w1], p.2))
 (YQ fun δ' p =>
 YP
 (YP
 (xb (xb (xb (xVar 1) fun w => xb (xb (YS "refused") fun w => xb (xb (YJ 1) YN) (YC w)) (YC w)) (YF d "is_worded"))
 (fun (w : W) =>
 match w with
       | W.d (PyData.bool b) => xpure b
       | x => xno)
 δ' p.2)
 fun p =>
 if p.1 = true then
 YP (YP (xb (xb (xVar 0) YN) ((YF d "is_call")) δ' p.2) YW) YE
 else some (Fl.nx δ', p.2))
 (YQ fun δ' p =>
 YP (YP (xb (xb (xVar 0) fun w => xb (xb (xVar 1) YN) (YC w)) ((YF d "is_own_answer")) δ' p.2) YW) YE)))
 (ends (List.length h)) := by kernel_rfl
theorem u_is_own_answer (d : Nat) (w0 w1 : W) (h : Cells) : callD T (d + 1) "is_own_answer" [w0, w1] h =
 YP
 (YP (xSet 2 (YV 0 0) [some w0, some w1, none] h) (YQ fun δ' p =>
 YP
 (YP (xC1 CmpOp.In (xVar 2) (xb (xPl (xb (YS "read") fun w => xb (xb (YS "add") YN) (YC w))) YT) δ' p.2) fun p =>
 if p.1 = true then
 YP
 (YP
 (xb (xb (xb (xVar 1) fun w => xb (xb (YS "got") fun w => xb (xb (YJ 2) YN) (YC w)) (YC w)) (YF d "is_worded"))
 (fun (w : W) =>
 match w with
          | W.d (PyData.bool true) => xb (xb (YV 1 1) YN) (YF d "is_whole")
          | W.d (PyData.bool false) => xpure (W.d (PyData.bool false))
          | x => xno)
 δ' p.2)
 YW)
 YE
 else some (Fl.nx δ', p.2))
 (YQ fun δ' p =>
 YP
 (YP (xC1 CmpOp.In (xVar 2) (xb (xPl (xb (YS "write") fun w => xb (xb (YS "lay") YN) (YC w))) YT) δ' p.2) fun p =>
 if p.1 = true then
 YP (YP (xb (xb (xVar 1) fun w => xb (xb (YS "done") fun w => xb (xb (YJ 1) YN) (YC w)) (YC w)) ((YF d "is_worded")) δ' p.2) YW) YE
 else some (Fl.nx δ', p.2))
 (YQ fun δ' p =>
 YP
 (YP (xC1 CmpOp.Eq (xVar 2) (YS "swap") δ' p.2) fun p =>
 if p.1 = true then
 YP
 (YP
 (xb (xb (xb (xVar 1) fun w => xb (xb (YS "yes") fun w => xb (xb (YJ 1) YN) (YC w)) (YC w)) (YF d "is_worded"))
 (fun (w : W) =>
 match w with
              | W.d (PyData.bool true) => xpure (W.d (PyData.bool true))
              | W.d (PyData.bool false) => xb (xb (xVar 1) fun w => xb (xb (YS "no") fun w => xb (xb (YJ 1) YN) (YC w)) (YC w)) (YF d "is_worded")
              | x => xno)
 δ' p.2)
 YW)
 YE
 else some (Fl.nx δ', p.2))
 (YQ fun δ' p =>
 YP
 (YP (xC1 CmpOp.Eq (xVar 2) (YS "span") δ' p.2) fun p =>
 if p.1 = true then
 YP
 (YP
 (xb (xb (xb (xVar 1) fun w => xb (xb (YS "all") fun w => xb (xb (YJ 2) YN) (YC w)) (YC w)) (YF d "is_worded"))
 (fun (w : W) =>
 match w with
                | W.d (PyData.bool true) =>
                 xb (xb (xb (YV 1 1) fun w => xb (xb (xb (YV 0 2) fun u => xb (YV 0 1) (YO .Sub u)) YN) (YC w)) (YF d "is_tuple_of")) fun (w : W) =>
 match w with
                  | W.d (PyData.bool true) => xb (xb (YV 1 1) YN) (YF d "are_whole")
                  | W.d (PyData.bool false) => xpure (W.d (PyData.bool false))
                  | x => xno
                | W.d (PyData.bool false) => xpure (W.d (PyData.bool false))
                | x => xno)
 δ' p.2)
 YW)
 YE
 else some (Fl.nx δ', p.2))
 (YQ fun δ' p =>
 YP
 (YP (xC1 CmpOp.Eq (xVar 2) (YS "look") δ' p.2) fun p =>
 if p.1 = true then
 YP (YP (xb (xb (YV 0 1) fun w => xb (xb (xVar 1) YN) (YC w)) ((YF d "is_own_answer")) δ' p.2) YW) YE
 else some (Fl.nx δ', p.2))
 (YQ fun δ' p =>
 YP
 (YP
 (xb
 (xb
 (xb (xb (xb (xVar 1) fun w => xb (xb (YS "each") fun w => xb (xb (YJ 2) YN) (YC w)) (YC w)) (YF d "is_worded")) fun (w : W) =>
 match w with
                  | W.d (PyData.bool b) => xpure b
                  | x => xno)
 fun (b : Bool) => xpure !b)
 (fun (c : Bool) =>
 if c = true then xpure true
 else
 xb
 (xb (xb (xb (YV 1 1) fun w => xb (xb (xb (xb (YV 0 1) YN) (YK xLen)) YN) (YC w)) (YF d "is_tuple_of")) fun (w : W) =>
 match w with
                    | W.d (PyData.bool b) => xpure b
                    | x => xno)
 fun (b : Bool) => xpure !b)
 δ' p.2)
 fun p =>
 if p.1 = true then
 YP (YP (xpure (W.d (PyData.bool false)) δ' p.2) YW) YE
 else some (Fl.nx δ', p.2))
 (YQ fun δ' p =>
 YP (YP (xb (xb (xFrz (xb (xEach (xFrz xno)) fun p δ h => compX (xTupG [YG 0, YG (0 + 1)]) (xpure true) (xb (xb (xVar 0) fun w => xb (xb (xVar 1) YN) (YC w)) (YF d "is_own_answer")) p.2 p.1 p.1 (dpick [none, none] δ) h [])) YN) (YK xAll) δ' p.2) YW) YE))))))))
 (ends (List.length h)) := by kernel_rfl
theorem u_is_time (d : Nat) (w0 : W) (h : Cells) : callD T (d + 1) "is_time" [w0] h =
 YP
 (YP
 (YP
 (xb (xb (xb (xVar 0) YN) (YF d "is_whole"))
 (fun (w : W) =>
 match w with
     | W.d (PyData.bool true) => xMapW (xC1 CmpOp.GtE (xVar 0) (YJ 0))
     | W.d (PyData.bool false) => xpure (W.d (PyData.bool false))
     | x => xno)
 [some w0] h)
 YW)
 YE)
 (ends (List.length h)) := by kernel_rfl
theorem u_is_deed (d : Nat) (w0 : W) (h : Cells) : callD T (d + 1) "is_deed" [w0] h =
 YP
 (YP
 (YP
 (xb
 (xb
 (xb (xb (xb (xVar 0) fun w => xb (xb (YJ 5) YN) (YC w)) (YF d "is_tuple_of")) fun (w : W) =>
 match w with
      | W.d (PyData.bool b) => xpure b
      | x => xno)
 fun (b : Bool) => xpure !b)
 (fun (c : Bool) =>
 if c = true then xpure true
 else
 xb
 (xb (xb (xb (YV 0 0) fun w => xb (xb (YJ 0) fun w => xb (xb (YJ 5) YN) (YC w)) (YC w)) (YF d "is_between")) fun (w : W) =>
 match w with
        | W.d (PyData.bool b) => xpure b
        | x => xno)
 fun (b : Bool) => xpure !b)
 [some w0] h)
 fun p =>
 if p.1 = true then
 YP (YP (xpure (W.d (PyData.bool false)) [some w0] p.2) YW) YE
 else some (Fl.nx [some w0], p.2))
 (YQ fun δ' p =>
 YP
 (YP
 (xb
 (xb
 (xb (xb (xb (YV 0 1) YN) (YF d "is_time")) fun (w : W) =>
 match w with
        | W.d (PyData.bool b) => xpure b
        | x => xno)
 fun (b : Bool) => xpure !b)
 (fun (c : Bool) =>
 if c = true then xpure true
 else
 xb
 (xb (xb (xb (YV 0 3) YN) (YF d "is_call")) fun (w : W) =>
 match w with
          | W.d (PyData.bool b) => xpure b
          | x => xno)
 fun (b : Bool) => xpure !b)
 δ' p.2)
 fun p =>
 if p.1 = true then
 YP (YP (xpure (W.d (PyData.bool false)) δ' p.2) YW) YE
 else some (Fl.nx δ', p.2))
 (YQ fun δ' p =>
 YP
 (YP (xC1 CmpOp.Is (YV 0 2) (YZ) δ' p.2) fun p =>
 if p.1 = true then
 YP (YP (xMapW (xC1 CmpOp.Is (YV 0 4) (YZ)) δ' p.2) YW) YE
 else some (Fl.nx δ', p.2))
 (YQ fun δ' p =>
 YP
 (YP
 (xb (xb (xb (YV 0 2) YN) (YF d "is_time"))
 (fun (w : W) =>
 match w with
           | W.d (PyData.bool true) =>
            xb (xMapW (xC1 CmpOp.Lt (YV 0 1) (YV 0 2))) fun (w : W) =>
 match w with
             | W.d (PyData.bool true) => xb (xb (YV 0 3) fun w => xb (xb (YV 0 4) YN) (YC w)) (YF d "is_answer")
             | W.d (PyData.bool false) => xpure (W.d (PyData.bool false))
             | x => xno
           | W.d (PyData.bool false) => xpure (W.d (PyData.bool false))
           | x => xno)
 δ' p.2)
 YW)
 YE))))
 (ends (List.length h)) := by kernel_rfl
theorem u_times_of (d : Nat) (w0 : W) (h : Cells) : callD T (d + 1) "times_of" [w0] h =
 YP
 (YP (YP (xb (xC1 CmpOp.Is (YV 0 2) (YZ)) (fun (t : Bool) => if t = true then xFrz (xPl (xb (YV 0 1) YN)) else xFrz (xPl (xb (YV 0 1) fun w => xb (xb (YV 0 2) YN) (YC w)))) [some w0] h) YW) YE)
 (ends (List.length h)) := by kernel_rfl
theorem u_ended_below (d : Nat) (w0 w1 : W) (h : Cells) : callD T (d + 1) "ended_below" [w0, w1] h =
 YP
 (YP
 (YP
 (xb (xMapW (xC1 CmpOp.IsNot (YV 0 2) (YZ)))
 (fun (w : W) =>
 match w with
     | W.d (PyData.bool true) => xMapW (xC1 CmpOp.Lt (YV 0 2) (xVar 1))
     | W.d (PyData.bool false) => xpure (W.d (PyData.bool false))
     | x => xno)
 [some w0, some w1] h)
 YW)
 YE)
 (ends (List.length h)) := by kernel_rfl
theorem u_go_together (d : Nat) (w0 w1 : W) (h : Cells) : callD T (d + 1) "go_together" [w0, w1] h =
 YP
 (YP
 (YP
 (xb (xb (xb (xFrz (xb (xEach (xb (xb (xVar 0) YN) (YF d "times_of"))) fun p δ h => compX (YG 0) (xpure true) (xMapW (xC1 CmpOp.In (xVar 0) (xb (xb (xVar 1) YN) (YF d "times_of")))) p.2 p.1 p.1 (dpick [none, some 1] δ) h [])) YN) (YK xAny))
 (fun (w : W) =>
 match w with
     | W.d (PyData.bool b) => xpure b
     | x => xno)
 [some w0, some w1] h)
 fun p =>
 if p.1 = true then
 YP (YP (xpure (W.d (PyData.bool false)) [some w0, some w1] p.2) YW) YE
 else some (Fl.nx [some w0, some w1], p.2))
 (YQ fun δ' p =>
 YP
 (YP
 (xb (xMapW (xC1 CmpOp.NotEq (YV 0 0) (YV 1 0)))
 (fun (w : W) =>
 match w with
       | W.d (PyData.bool true) => xpure (W.d (PyData.bool true))
       | W.d (PyData.bool false) =>
        xb (xb (xb (xVar 0) fun w => xb (xb (YV 1 1) YN) (YC w)) (YF d "ended_below")) fun (w : W) =>
 match w with
         | W.d (PyData.bool true) => xpure (W.d (PyData.bool true))
         | W.d (PyData.bool false) => xb (xb (xVar 1) fun w => xb (xb (YV 0 1) YN) (YC w)) (YF d "ended_below")
         | x => xno
       | x => xno)
 δ' p.2)
 YW)
 YE))
 (ends (List.length h)) := by kernel_rfl
theorem u_look_over (d : Nat) (w0 : W) (h : Cells) : callD T (d + 1) "look_over" [w0] h =
 YP
 (YP
 (YP
 (xb
 (xb
 (xb (xb (xVar 0) fun (w : W) (x : DSt) (h : Cells) => YP (ref h w) fun (d : PyData) => some (W.d (PyData.bool (isi d "tuple")), h)) fun (w : W) =>
 match w with
      | W.d (PyData.bool b) => xpure b
      | x => xno)
 fun (b : Bool) => xpure !b)
 (fun (c : Bool) => if c = true then xpure true else xC1 CmpOp.Gt (xb (xb (xVar 0) YN) (YK xLen)) (YJ 60)) [some w0, none, none, none] h)
 fun p =>
 if p.1 = true then
 YP none YE
 else some (Fl.nx [some w0, none, none, none], p.2))
 (YQ fun δ' p =>
 YP
 (YP
 (xb (xVar 0)
 (fun (u : W) (x : DSt) (h : Cells) =>
 match seqD u with
       | some xs => some ((enumD xs, none), h)
       | none => none)
 δ' p.2)
 fun (p : (List PyData × Option Nat) × Cells) =>
 forX (xTupG [YG (0 + 1), YG (0 + 1 + 1)])
 (fun (x : DSt) (x_1 : Cells) =>
 YP
 (YP
 (xb
 (xb (xb (xb (xVar 2) YN) (YF d "is_deed")) fun (w : W) =>
 match w with
           | W.d (PyData.bool b) => xpure b
           | x => xno)
 (fun (b : Bool) => xpure !b) x x_1)
 fun p =>
 if p.1 = true then
 YP none YE
 else some (Fl.nx x, p.2))
 YE)
 (Prod.snd p.1) (Prod.fst p.1) (Prod.fst p.1) δ' p.2)
 (YQ fun δ' p =>
 YP
 (YP
 (xb (xVar 0)
 (fun (u : W) (x : DSt) (h : Cells) =>
 match seqD u with
         | some xs => some ((enumD xs, none), h)
         | none => none)
 δ' p.2)
 fun (p : (List PyData × Option Nat) × Cells) =>
 forX (xTupG [YG (0 + 1), YG (0 + 1 + 1 + 1)])
 (fun (x : DSt) (x_1 : Cells) =>
 YP
 (YP
 (xb
 (xb
 (xb
 (xb
 (xFrz
 (xb
 (xEach
 (xb (xVar 0) fun (x : W) =>
 xb (xpure none) fun (l : Option Int) =>
 xb
 (xb (xVar 1) fun (w : W) =>
 match w with
                      | W.d (PyData.int i) => xpure (some i)
                      | x => xno)
 fun (u : Option Int) (x_2 : DSt) (h : Cells) => xSl x l u h))
 fun p δ h => compX (YG 0) (xpure true) (xb (xb (xVar 1) fun w => xb (xb (xVar 0) YN) (YC w)) (YF d "go_together")) p.2 p.1 p.1 (dpick [none, some 3] δ) h []))
 YN)
 (YK xAll))
 fun (w : W) =>
 match w with
             | W.d (PyData.bool b) => xpure b
             | x => xno)
 (fun (b : Bool) => xpure !b) x x_1)
 fun p =>
 if p.1 = true then
 YP none YE
 else some (Fl.nx x, p.2))
 YE)
 (Prod.snd p.1) (Prod.fst p.1) (Prod.fst p.1) δ' p.2)
 YE)))
 (ends (List.length h)) := by kernel_rfl
theorem u_hands_in (d : Nat) (w0 : W) (h : Cells) : callD T (d + 1) "hands_in" [w0] h =
 YP
 (YP (YP (xb (xb (xb (xb (xFrz (xb (xEach (xVar 0)) fun p δ h => compX (YG 0) (xpure true) (YV 0 0) p.2 p.1 p.1 (dpick [none] δ) h [])) YN) (YK xSS)) YN) (YK xTuple) [some w0] h) YW) YE)
 (ends (List.length h)) := by kernel_rfl
theorem u_of_hand (d : Nat) (w0 w1 : W) (h : Cells) : callD T (d + 1) "of_hand" [w0, w1] h =
 YP
 (YP
 (xSet 2
 (xFrz
 (xb
 (xb (xVar 0) fun (u : W) (x : DSt) (h : Cells) =>
 match seqD u with
      | some xs => some ((enumD xs, none), h)
      | none => none)
 fun p δ h => compX (xTupG [YG 0, YG (0 + 1)]) (xC1 CmpOp.Eq (YV 1 0) (xVar 2)) (xVar 0) p.2 p.1 p.1 (dpick [none, none, some 1] δ) h []))
 [some w0, some w1, none] h)
 (YQ fun δ' p =>
 YP (YP (xb (xb (xb (xb (xVar 2) YN) fun (ws : List W) (δ : DSt) (h : Cells) => xSK 0 1 208 { line := 114, col := 37, endLine := 114, endCol := 70 } (Str.ofString "of_hand" ++ Str.ofString ".<locals>." ++ Str.ofString "<lambda>") ws δ h) YN) (YK xTuple) δ' p.2) YW) YE))
 (ends (List.length h)) := by kernel_rfl
theorem u_really_ahead (d : Nat) (w0 w1 w2 : W) (h : Cells) : callD T (d + 1) "really_ahead" [w0, w1, w2] h =
 YP
 (YP (YP (xb (xb (xb (xVar 0) fun x => xb (xVar 1) fun (y : W) (x_1 : DSt) (h : Cells) => xIx x y h) fun w => xb (xb (xb (xb (xVar 0) fun x => xb (xVar 2) fun (y : W) (x_1 : DSt) (h : Cells) => xIx x y h) (YI 1)) YN) (YC w)) ((YF d "ended_below")) [some w0, some w1, some w2] h) YW) YE)
 (ends (List.length h)) := by kernel_rfl
theorem u_is_quiet (d : Nat) (w0 w1 : W) (h : Cells) : callD T (d + 1) "is_quiet" [w0, w1] h =
 YP
 (YP
 (xSet 2
 (xFrz
 (xb (xEach (xVar 0)) fun p δ h =>
 compX (YG 0)
 (xb (xb (xb (xVar 0) fun w => xb (xb (xVar 1) YN) (YC w)) (YF d "ended_below")) fun (w : W) =>
 match w with
       | W.d (PyData.bool b) => xpure b
       | x => xno)
 (xVar 0) p.2 p.1 p.1 (dpick [none, some 1] δ) h []))
 [some w0, some w1, none, none] h)
 (YQ fun δ' p =>
 YP (xSet 3 (xFrz (xb (xEach (xVar 0)) fun p δ h => compX (YG 0) (xC1 CmpOp.GtE (YV 0 1) (xVar 1)) (xVar 0) p.2 p.1 p.1 (dpick [none, some 1] δ) h [])) δ' p.2) (YQ fun δ' p =>
 YP
 (YP
 (xb (xMapW (xC1 CmpOp.Gt (xb (xb (xVar 2) YN) (YK xLen)) (YJ 0)))
 (fun (w : W) =>
 match w with
         | W.d (PyData.bool true) =>
          xb (xMapW (xC1 CmpOp.Gt (xb (xb (xVar 3) YN) (YK xLen)) (YJ 0))) fun (w : W) =>
 match w with
           | W.d (PyData.bool true) => xMapW (xC1 CmpOp.Eq (xb (xb (xb (xVar 2) YN) (YK xLen)) fun u => xb (xb (xb (xVar 3) YN) (YK xLen)) (YO .Add u)) (xb (xb (xVar 0) YN) (YK xLen)))
           | W.d (PyData.bool false) => xpure (W.d (PyData.bool false))
           | x => xno
         | W.d (PyData.bool false) => xpure (W.d (PyData.bool false))
         | x => xno)
 δ' p.2)
 YW)
 YE)))
 (ends (List.length h)) := by kernel_rfl
theorem u_quiet_times (d : Nat) (w0 : W) (h : Cells) : callD T (d + 1) "quiet_times" [w0] h =
 YP
 (YP (xSet 1 (xb (xb (xFrz (xb (xEach (xVar 0)) fun p δ h => compX (YG 0) (xC1 CmpOp.IsNot (YV 0 2) (YZ)) (xb (YV 0 2) (YB .Add 1)) p.2 p.1 p.1 (dpick [none] δ) h [])) YN) fun (ws : List W) (x : DSt) (h : Cells) => xSrtI ws h) [some w0, none] h) (YQ fun δ' p =>
 YP
 (YP
 (xb
 (xb
 (xFrz
 (xb (xEach (xVar 1)) fun p δ h =>
 compX (YG 0)
 (xb (xb (xb (xVar 1) fun w => xb (xb (xVar 0) YN) (YC w)) (YF d "is_quiet")) fun (w : W) =>
 match w with
           | W.d (PyData.bool b) => xpure b
           | x => xno)
 (xVar 0) p.2 p.1 p.1 (dpick [none, some 0] δ) h []))
 YN)
 (YK xTuple) δ' p.2)
 YW)
 YE))
 (ends (List.length h)) := by kernel_rfl
theorem u__law_cell_at (d : Nat) (w0 w1 : W) (h : Cells) : callD T (d + 1) "_law_cell_at" [w0, w1] h =
 YP
 (YP
 (YP (xC1 CmpOp.Lt (xVar 1) (xb (xb (xVar 0) YN) (YK xLen)) [some w0, some w1] h) fun p =>
 if p.1 = true then
 YP (YP (xb (xVar 0) (fun x => xb (xVar 1) fun (y : W) (x_1 : DSt) (h : Cells) => xIx x y h) [some w0, some w1] p.2) YW) YE
 else some (Fl.nx [some w0, some w1], p.2))
 (YQ fun δ' p =>
 YP (YP (YJ 0 δ' p.2) YW) YE))
 (ends (List.length h)) := by kernel_rfl
theorem u__law_mixed (d : Nat) (w0 : W) (h : Cells) : callD T (d + 1) "_law_mixed" [w0] h =
 YP
 (YP (xSet 0 (xb (xb (xb (xb (xVar 0) (YB .Mod 2147483647)) (YB .Add 1)) (YB .Mult 48271)) (YB .Mod 2147483647)) [some w0] h) (YQ fun δ' p =>
 YP (xSet 0 (xb (xb (xVar 0) fun u => xb (xb (xb (xVar 0) (YB .FloorDiv 1009)) (YB .Add 69621)) (YO .Mult u)) (YB .Mod 2147483647)) δ' p.2) (YQ fun δ' p =>
 YP (YP (xb (xb (xb (xVar 0) (YB .Add 1)) fun u => xb (xb (xb (xVar 0) (YB .FloorDiv 757)) (YB .Add 16807)) (YO .Mult u)) ((YB .Mod 2147483629)) δ' p.2) YW) YE)))
 (ends (List.length h)) := by kernel_rfl
theorem u__law_digit (d : Nat) (w0 w1 : W) (h : Cells) : callD T (d + 1) "_law_digit" [w0, w1] h =
 YP
 (YP
 (YP (xb (xC1 CmpOp.Eq (YV 0 1) (YJ 0)) (fun (c : Bool) => if c = true then xC1 CmpOp.Gt (YV 0 0) (YJ 0) else xpure false) [some w0, some w1, none] h) fun p =>
 if p.1 = true then
 YP (xSet 2 (xb (YV 0 0) fun u => xb (xVar 1) (YO .Mod u)) [some w0, some w1, none] p.2) (YQ fun δ' p =>
 YP
 (YP (xb (YV 0 0) (fun u => xb (xVar 1) (YO .FloorDiv u)) δ' p.2) fun p =>
 YP
 (YP (xVar 0 δ' p.2) fun (p_1 : W × Cells) =>
 YP (YJ 0 δ' (p_1.2)) fun (q : W × Cells) =>
 match p_1.1, q.1, p.1 with
           | W.c j, W.d y, W.d x =>
            match (q.2)[j]?, y with
            | some (Cell.l xs), PyData.int k => Option.map (fun (n : Nat) => (δ', List.set (q.2) j (Cell.l (List.set xs n x)))) (L2.ixN (List.length xs) k)
            | some (Cell.k kvs), x_1 => if Option.isSome (keyD y) = true /\ List.length kvs < sizeLine then some (δ', List.set (q.2) j (Cell.k (putD kvs y x))) else none
            | x, x_1 => none
           | x, x_1, x_2 => none)
 fun (q : DSt × Cells) => some (Fl.nx (q.1), q.2))
 (YQ fun δ' p =>
 YP (YP (xVar 2 δ' p.2) YW) YE))
 else some (Fl.nx [some w0, some w1, none], p.2))
 (YQ fun δ' p =>
 YP
 (YP (xb (xb (xb (YV 0 2) (YB .Add 1)) YN) ((YF d "_law_mixed")) δ' p.2) fun p =>
 YP
 (YP (xVar 0 δ' p.2) fun (p_1 : W × Cells) =>
 YP (YJ 2 δ' (p_1.2)) fun (q : W × Cells) =>
 match p_1.1, q.1, p.1 with
        | W.c j, W.d y, W.d x =>
         match (q.2)[j]?, y with
         | some (Cell.l xs), PyData.int k => Option.map (fun (n : Nat) => (δ', List.set (q.2) j (Cell.l (List.set xs n x)))) (L2.ixN (List.length xs) k)
         | some (Cell.k kvs), x_1 => if Option.isSome (keyD y) = true /\ List.length kvs < sizeLine then some (δ', List.set (q.2) j (Cell.k (putD kvs y x))) else none
         | x, x_1 => none
        | x, x_1, x_2 => none)
 fun (q : DSt × Cells) => some (Fl.nx (q.1), q.2))
 (YQ fun δ' p =>
 YP (YP (xb (xb (YV 0 2) (YB .FloorDiv 7)) (fun u => xb (xVar 1) (YO .Mod u)) δ' p.2) YW) YE)))
 (ends (List.length h)) := by kernel_rfl
theorem u__law_asked (d : Nat) (w0 : W) (h : Cells) : callD T (d + 1) "_law_asked" [w0] h =
 YP
 (YP (xSet 1 (xb (xb (xVar 0) fun w => xb (xb (YJ 8) YN) (YC w)) (YF d "_law_digit")) [some w0, none, none, none] h) (YQ fun δ' p =>
 YP (xSet 2 (xb (xb (xb (xVar 0) fun w => xb (xb (YJ 9) YN) (YC w)) (YF d "_law_digit")) (YB .Sub 4)) δ' p.2) (YQ fun δ' p =>
 YP (xSet 3 (xFrz (xPl (xb (xb (xPl (xb (xb (xPl (xb (YS "read") fun w => xb (xb (xVar 1) YN) (YC w))) YT) fun w => xb (xb (xb (xPl (xb (YS "got") fun w => xb (xb (xVar 2) YN) (YC w))) YT) YN) (YC w))) YT) fun w => xb (xb (xb (xPl (xb (xb (xPl (xb (YS "write") fun w => xb (xb (xVar 1) fun w => xb (xb (xVar 2) YN) (YC w)) (YC w))) YT) fun w => xb (xb (xb (xPl (xb (YS "done") YN)) YT) YN) (YC w))) YT) fun w => xb (xb (xb (xPl (xb (xb (xPl (xb (YS "add") fun w => xb (xb (xVar 1) fun w => xb (xb (YJ 2) YN) (YC w)) (YC w))) YT) fun w => xb (xb (xb (xPl (xb (YS "got") fun w => xb (xb (xVar 2) YN) (YC w))) YT) YN) (YC w))) YT) YN) (YC w)) (YC w)))) δ' p.2) (YQ fun δ' p =>
 YP (xSet 3 (xb (xVar 3) fun u => xb (xFrz (xPl (xb (xb (xPl (xb (xb (xPl (xb (YS "swap") fun w => xb (xb (xVar 1) fun w => xb (xb (xVar 2) fun w => xb (xb (YJ 5) YN) (YC w)) (YC w)) (YC w))) YT) fun w => xb (xb (xb (xPl (xb (YS "no") YN)) YT) YN) (YC w))) YT) fun w => xb (xb (xb (xPl (xb (xb (xPl (xb (YS "span") fun w => xb (xb (xVar 1) fun w => xb (xb (YJ 8) YN) (YC w)) (YC w))) YT) fun w => xb (xb (xb (xPl (xb (YS "all") fun w => xb (xb (xb (xb (xPl (xb (xVar 2) YN)) YT) fun u => xb (xb (YJ 8) fun u => xb (xVar 1) (YO .Sub u)) (YO .Mult u)) YN) (YC w))) YT) YN) (YC w))) YT) YN) (YC w)))) (YO .Add u)) δ' p.2) (YQ fun δ' p =>
 YP (xSet 3 (xb (xVar 3) fun u => xb (xFrz (xPl (xb (xb (xPl (xb (xb (xPl (xb (YS "read") fun w => xb (xb (xVar 1) YN) (YC w))) YT) fun w => xb (xb (xb (xPl (xb (YS "refused") YN)) YT) YN) (YC w))) YT) fun w => xb (xb (xb (xPl (xb (xb (xPl (xb (YS "write") fun w => xb (xb (xVar 1) fun w => xb (xb (xVar 2) YN) (YC w)) (YC w))) YT) fun w => xb (xb (xb (xPl (xb (YS "refused") YN)) YT) YN) (YC w))) YT) YN) (YC w)))) (YO .Add u)) δ' p.2) (YQ fun δ' p =>
 YP (YP (xb (xVar 3) (fun x => xb (xb (xb (xVar 0) fun w => xb (xb (YJ 7) YN) (YC w)) (YF d "_law_digit")) fun (y : W) (x_1 : DSt) (h : Cells) => xIx x y h) δ' p.2) YW) YE))))))
 (ends (List.length h)) := by kernel_rfl
theorem u__law_deeds (d : Nat) (w0 w1 w2 w3 w4 : W) (h : Cells) : callF T (d + 1) "_law_deeds" [w0, w1, w2, w3, w4] h =
 YP
 (YP
 (xSet 5
 (xCell
 (xb (xCell (xPl (xb (xVar 2) YN))) fun (u : W) =>
 xb (xVar 3) fun (w : W) (x : DSt) (h : Cells) =>
 match u, w with
      | W.c i, W.d (PyData.int k) =>
       match h[i]? with
       | some (Cell.l xs) => if -2 ^ 63 <= k /\ k < 2 ^ 63 /\ List.length xs * Int.toNat k <= sizeLine then some (List.flatten (List.replicate (Int.toNat k) xs), h) else none
       | x => none
      | x, x_1 => none))
 [some w0, some w1, some w2, some w3, some w4, none, none, none, none, none, none, none, none, none, none, none, none] h)
 (YQ fun δ' p =>
 YP (xSet 6 (xCell (xPl (xpure []))) δ' p.2) (YQ fun δ' p =>
 YP (xSet 7 xCelK δ' p.2) (YQ fun δ' p =>
 YP (xSet 8 (xCell (xPl (xpure []))) δ' p.2) (YQ fun δ' p =>
 YP
 (YP
 (xb (xVar 1)
 (fun (w : W) (x : DSt) (h : Cells) =>
 match w with
             | W.d (PyData.int j) => if rngB 0 j = true then some ((rng 0 (Int.toNat j), none), h) else none
             | x => none)
 δ' p.2)
 fun (p : (List PyData × Option Nat) × Cells) =>
 forX (YG (0 + 1 + 1 + 1 + 1 + 1 + 1 + 1 + 1 + 1))
 (fun (x : DSt) (x_1 : Cells) =>
 YP (xSet 10 (xb (xb (xVar 0) fun w => xb (xb (xb (YJ 3) fun u => xb (xVar 9) (YO .Add u)) YN) (YC w)) (YF d "_law_cell_at")) x x_1) (YQ fun δ' p =>
 YP (xSet 11 (xCell (xPl (xb (xb (xVar 10) (YB .FloorDiv 2)) fun w => xb (xb (xb (xVar 10) (YB .Mod 2)) fun w => xb (xb (xb (xVar 10) fun u => xb (xb (YJ 31) fun u => xb (xVar 9) (YO .Mult u)) (YO .Add u)) YN) (YC w)) (YC w)))) δ' p.2) (YQ fun δ' p =>
 YP (xSet 12 (xb (xb (xVar 11) fun w => xb (xb (xVar 3) YN) (YC w)) (YF d "_law_digit")) δ' p.2) (YQ fun δ' p =>
 YP (xSet 13 (xb (xb (xVar 5) fun x => xb (xVar 12) fun (y : W) (x_2 : DSt) (h : Cells) => xIx x y h) fun u => xb (xb (xb (xVar 11) fun w => xb (xb (YJ 5) YN) (YC w)) (YF d "_law_digit")) (YO .Add u)) δ' p.2) (YQ fun δ' p =>
 YP
 (YP
 (xb
 (xb (xVar 4) fun (w : W) =>
 match w with
                         | W.d (PyData.bool b) => xpure b
                         | x => xno)
 (fun (c : Bool) => if c = true then xC1 CmpOp.Eq (xb (xb (xVar 11) fun w => xb (xb (YJ 3) YN) (YC w)) (YF d "_law_digit")) (YJ 0) else xpure false) δ' p.2)
 fun p =>
 if p.1 = true then
 YP (xSet 13 (xb (xb (xb (xb (xVar 5) YN) (YK xMax)) fun u => xb (xb (xb (xVar 11) fun w => xb (xb (YJ 3) YN) (YC w)) (YF d "_law_digit")) (YO .Add u)) fun u => xb (xb (xFrz (xPl (xb (YJ 0) fun w => xb (xb (YJ 0) fun w => xb (xb (xb (YJ 10) (YB .Pow 30)) YN) (YC w)) (YC w)))) fun x => xb (xb (xb (xVar 11) fun w => xb (xb (YJ 3) YN) (YC w)) (YF d "_law_digit")) fun (y : W) (x_2 : DSt) (h : Cells) => xIx x y h) (YO .Add u)) δ' p.2) YE
 else some (Fl.nx δ', p.2))
 (YQ fun δ' p =>
 YP
 (whileX (xC1 CmpOp.In (xVar 13) (xVar 7))
 (fun (x : DSt) (x_2 : Cells) =>
 YP (xSet 13 (xb (xVar 13) (YB .Add 1)) x x_2) YE)
 1000 δ' p.2)
 (YQ fun δ' p =>
 YP
 (YP (xpure (W.d (PyData.bool true)) δ' p.2) fun p =>
 YP
 (YP (xVar 7 δ' p.2) fun (p_1 : W × Cells) =>
 YP (xVar 13 δ' (p_1.2)) fun (q : W × Cells) =>
 match p_1.1, q.1, p.1 with
                              | W.c j, W.d y, W.d x =>
                               match (q.2)[j]?, y with
                               | some (Cell.l xs), PyData.int k => Option.map (fun (n : Nat) => (δ', List.set (q.2) j (Cell.l (List.set xs n x)))) (L2.ixN (List.length xs) k)
                               | some (Cell.k kvs), x_2 => if Option.isSome (keyD y) = true /\ List.length kvs < sizeLine then some (δ', List.set (q.2) j (Cell.k (putD kvs y x))) else none
                               | x, x_2 => none
                              | x, x_2, x_3 => none)
 fun (q : DSt × Cells) => some (Fl.nx (q.1), q.2))
 (YQ fun δ' p =>
 YP (xSet 14 (xb (xb (xVar 13) (YB .Add 1)) fun u => xb (xb (xb (xVar 11) fun w => xb (xb (YJ 9) YN) (YC w)) (YF d "_law_digit")) (YO .Add u)) δ' p.2) (YQ fun δ' p =>
 YP
 (whileX (xC1 CmpOp.In (xVar 14) (xVar 7))
 (fun (x : DSt) (x_2 : Cells) =>
 YP (xSet 14 (xb (xVar 14) (YB .Add 1)) x x_2) YE)
 1000 δ' p.2)
 (YQ fun δ' p =>
 YP (YP (xb (xb (xVar 11) YN) ((YF d "_law_asked")) δ' p.2) fun p => YP (xTupG [YG (0 + 1 + 1 + 1 + 1 + 1 + 1 + 1 + 1 + 1 + 1 + 1 + 1 + 1 + 1 + 1), YG (0 + 1 + 1 + 1 + 1 + 1 + 1 + 1 + 1 + 1 + 1 + 1 + 1 + 1 + 1 + 1 + 1)] p.1 δ' p.2) fun (q : DSt × Cells) => some (Fl.nx (q.1), q.2)) (YQ fun δ' p =>
 YP
 (YP (xC1 CmpOp.In (xVar 12) (xVar 6) δ' p.2) fun p =>
 if p.1 = true then
 YP
 (YP
 (xb (xVar 7)
 (fun (w : W) (δ : DSt) (h : Cells) =>
 match w with
                                        | W.c j =>
                                         match h[j]? with
                                         | some (Cell.l xs) => YP (xb (xVar 13) (YN) δ h) fun (p : List W × Cells) => popL j p.1 p.2
                                         | some (Cell.k kvs) => YP (xVar 13 δ h) fun p => popK j p.1 p.2
                                         | x => none
                                        | x => none)
 δ' p.2)
 fun p => some (Fl.nx δ', p.2))
 YE
 else
 YP
 (YP (xC1 CmpOp.Eq (xb (xb (xVar 11) fun w => xb (xb (YJ 16) YN) (YC w)) (YF d "_law_digit")) (YJ 15) δ' p.2) fun p =>
 if p.1 = true then
 YP
 (YP
 (xb (xVar 6)
 (fun (w : W) (δ : DSt) (h : Cells) =>
 if mpre (Str.ofString "append") w h = true then
 YP (xb (xVar 12) (YN) δ h) fun (p : List W × Cells) =>
 match w, p.1 with
                                             | W.c j, [W.d x] =>
                                              match p.2[j]? with
                                              | some (Cell.l xs) => if List.length xs < sizeLine then some (W.d PyData.none, List.set p.2 j (Cell.l (xs ++ [x]))) else none
                                              | x => none
                                             | x, x_2 => none
 else none)
 δ' p.2)
 fun p => some (Fl.nx δ', p.2))
 (YQ fun δ' p =>
 YP
 (YP
 (xb (xVar 8)
 (fun (w : W) (δ : DSt) (h : Cells) =>
 if mpre (Str.ofString "append") w h = true then
 YP (xb (xb (xPl (xb (xVar 12) fun w => xb (xb (xVar 13) fun w => xb (xb (YZ) fun w => xb (xb (xVar 15) fun w => xb (xb (YZ) YN) (YC w)) (YC w)) (YC w)) (YC w))) YT) (YN) δ h) fun (p : List W × Cells) =>
 match w, p.1 with
                                               | W.c j, [W.d x] =>
                                                match p.2[j]? with
                                                | some (Cell.l xs) => if List.length xs < sizeLine then some (W.d PyData.none, List.set p.2 j (Cell.l (xs ++ [x]))) else none
                                                | x => none
                                               | x, x_2 => none
 else none)
 δ' p.2)
 fun p => some (Fl.nx δ', p.2))
 YE)
 else
 YP
 (YP (xpure (W.d (PyData.bool true)) δ' p.2) fun p =>
 YP
 (YP (xVar 7 δ' p.2) fun (p_1 : W × Cells) =>
 YP (xVar 14 δ' (p_1.2)) fun (q : W × Cells) =>
 match p_1.1, q.1, p.1 with
                                            | W.c j, W.d y, W.d x =>
                                             match (q.2)[j]?, y with
                                             | some (Cell.l xs), PyData.int k => Option.map (fun (n : Nat) => (δ', List.set (q.2) j (Cell.l (List.set xs n x)))) (L2.ixN (List.length xs) k)
                                             | some (Cell.k kvs), x_2 => if Option.isSome (keyD y) = true /\ List.length kvs < sizeLine then some (δ', List.set (q.2) j (Cell.k (putD kvs y x))) else none
                                             | x, x_2 => none
                                            | x, x_2, x_3 => none)
 fun (q : DSt × Cells) => some (Fl.nx (q.1), q.2))
 (YQ fun δ' p =>
 YP
 (YP (xb (xVar 14) ((YB .Add 1)) δ' p.2) fun p =>
 YP
 (YP (xVar 5 δ' p.2) fun (p_1 : W × Cells) =>
 YP (xVar 12 δ' (p_1.2)) fun (q : W × Cells) =>
 match p_1.1, q.1, p.1 with
                                              | W.c j, W.d y, W.d x =>
                                               match (q.2)[j]?, y with
                                               | some (Cell.l xs), PyData.int k => Option.map (fun (n : Nat) => (δ', List.set (q.2) j (Cell.l (List.set xs n x)))) (L2.ixN (List.length xs) k)
                                               | some (Cell.k kvs), x_2 => if Option.isSome (keyD y) = true /\ List.length kvs < sizeLine then some (δ', List.set (q.2) j (Cell.k (putD kvs y x))) else none
                                               | x, x_2 => none
                                              | x, x_2, x_3 => none)
 fun (q : DSt × Cells) => some (Fl.nx (q.1), q.2))
 (YQ fun δ' p =>
 YP
 (YP
 (xb (xVar 8)
 (fun (w : W) (δ : DSt) (h : Cells) =>
 if mpre (Str.ofString "append") w h = true then
 YP (xb (xb (xPl (xb (xVar 12) fun w => xb (xb (xVar 13) fun w => xb (xb (xVar 14) fun w => xb (xb (xVar 15) fun w => xb (xb (xVar 16) YN) (YC w)) (YC w)) (YC w)) (YC w))) YT) (YN) δ h) fun (p : List W × Cells) =>
 match w, p.1 with
                                                 | W.c j, [W.d x] =>
                                                  match p.2[j]? with
                                                  | some (Cell.l xs) => if List.length xs < sizeLine then some (W.d PyData.none, List.set p.2 j (Cell.l (xs ++ [x]))) else none
                                                  | x => none
                                                 | x, x_2 => none
 else none)
 δ' p.2)
 fun p => some (Fl.nx δ', p.2))
 YE)))
 YE)
 YE)))))))))))
 (Prod.snd p.1) (Prod.fst p.1) (Prod.fst p.1) δ' p.2)
 (YQ fun δ' p =>
 YP (YP (xVar 8 δ' p.2) YW) YE))))))
 (endsF (List.length h)) := by kernel_rfl
theorem u__law_quiet (d : Nat) (w0 w1 : W) (h : Cells) : callD T (d + 1) "_law_quiet" [w0, w1] h =
 YP
 (YP (xSet 2 (xFrz (xb (xEach (xVar 0)) fun p δ h => compX (YG 0) (xb (xC1 CmpOp.IsNot (YV 0 2) (YZ)) fun (c : Bool) => if c = true then xC1 CmpOp.Lt (YV 0 2) (xVar 1) else xpure false) (xVar 0) p.2 p.1 p.1 (dpick [none, some 1] δ) h [])) [some w0, some w1, none, none] h) (YQ fun δ' p =>
 YP (xSet 3 (xFrz (xb (xEach (xVar 0)) fun p δ h => compX (YG 0) (xC1 CmpOp.GtE (YV 0 1) (xVar 1)) (xVar 0) p.2 p.1 p.1 (dpick [none, some 1] δ) h [])) δ' p.2) (YQ fun δ' p =>
 YP
 (YP
 (xb (xMapW (xC1 CmpOp.NotEq (xVar 2) (xFrz (xPl (xpure [])))))
 (fun (w : W) =>
 match w with
         | W.d (PyData.bool true) =>
          xb (xMapW (xC1 CmpOp.NotEq (xVar 3) (xFrz (xPl (xpure []))))) fun (w : W) =>
 match w with
           | W.d (PyData.bool true) => xMapW (xC1 CmpOp.Eq (xb (xb (xb (xVar 2) YN) (YK xLen)) fun u => xb (xb (xb (xVar 3) YN) (YK xLen)) (YO .Add u)) (xb (xb (xVar 0) YN) (YK xLen)))
           | W.d (PyData.bool false) => xpure (W.d (PyData.bool false))
           | x => xno
         | W.d (PyData.bool false) => xpure (W.d (PyData.bool false))
         | x => xno)
 δ' p.2)
 YW)
 YE)))
 (ends (List.length h)) := by kernel_rfl
theorem u__law_right (d : Nat) (w0 : W) (h : Cells) : callD T (d + 1) "_law_right" [w0] h =
 YP
 (YP
 (YP (xC1 CmpOp.NotEq (xb (xb (xVar 0) YN) (YF d "hands_in")) (xb (xb (xb (xb (xFrz (xb (xEach (xVar 0)) fun p δ h => compX (YG 0) (xpure true) (YV 0 0) p.2 p.1 p.1 (dpick [none] δ) h [])) YN) (YK xSS)) YN) (YK xTuple)) [some w0, none, none, none, none, none, none, none, none] h) fun p =>
 if p.1 = true then
 YP (YP (xpure (W.d (PyData.bool false)) [some w0, none, none, none, none, none, none, none, none] p.2) YW) YE
 else some (Fl.nx [some w0, none, none, none, none, none, none, none, none], p.2))
 (YQ fun δ' p =>
 YP
 (YP
 (xb (YJ 6)
 (fun (w : W) (x : DSt) (h : Cells) =>
 match w with
       | W.d (PyData.int j) => if rngB 0 j = true then some ((rng 0 (Int.toNat j), none), h) else none
       | x => none)
 δ' p.2)
 fun (p : (List PyData × Option Nat) × Cells) =>
 forX (YG (0 + 1))
 (fun (x : DSt) (x_1 : Cells) =>
 YP (xSet 2 (xb (xb (xFrz (xb (xEach (xVar 0)) fun p δ h => compX (YG 0) (xC1 CmpOp.Eq (YV 0 0) (xVar 1)) (YV 0 1) p.2 p.1 p.1 (dpick [none, some 1] δ) h [])) YN) fun (ws : List W) (x : DSt) (h : Cells) => xSrtI ws h) x x_1) (YQ fun δ' p =>
 YP (xSet 3 (xb (xb (xVar 0) fun w => xb (xb (xVar 1) YN) (YC w)) (YF d "of_hand")) δ' p.2) (YQ fun δ' p =>
 YP
 (YP
 (xb
 (xb
 (xb (xb (xVar 3) fun (w : W) (x : DSt) (h : Cells) => YP (ref h w) fun (d : PyData) => some (W.d (PyData.bool (isi d "tuple")), h)) fun (w : W) =>
 match w with
                | W.d (PyData.bool b) => xpure b
                | x => xno)
 fun (b : Bool) => xpure !b)
 (fun (c : Bool) => if c = true then xpure true else xC1 CmpOp.NotEq (xFrz (xb (xEach (xVar 3)) fun p δ h => compX (YG 0) (xpure true) (xb (xb (xVar 1) fun x => xb (xVar 0) fun (y : W) (x_2 : DSt) (h : Cells) => xIx x y h) (YI 1)) p.2 p.1 p.1 (dpick [none, some 0] δ) h [])) (xVar 2)) δ' p.2)
 fun p =>
 if p.1 = true then
 YP (YP (xpure (W.d (PyData.bool false)) δ' p.2) YW) YE
 else some (Fl.nx δ', p.2))
 (YQ fun δ' p =>
 YP
 (YP (xC1 CmpOp.NotEq (xFrz (xb (xEach (xVar 3)) fun p δ h => compX (YG 0) (xC1 CmpOp.NotEq (xb (xb (xVar 2) fun x => xb (xVar 0) fun (y : W) (x_2 : DSt) (h : Cells) => xIx x y h) (YI 0)) (xVar 1)) (xVar 0) p.2 p.1 p.1 (dpick [none, some 1, some 0] δ) h [])) (xFrz (xPl (xpure []))) δ' p.2) fun p =>
 if p.1 = true then
 YP (YP (xpure (W.d (PyData.bool false)) δ' p.2) YW) YE
 else some (Fl.nx δ', p.2))
 YE))))
 (Prod.snd p.1) (Prod.fst p.1) (Prod.fst p.1) δ' p.2)
 (YQ fun δ' p =>
 YP
 (YP
 (xb (xb (xb (xVar 0) YN) (YK xLen))
 (fun (w : W) (x : DSt) (h : Cells) =>
 match w with
         | W.d (PyData.int j) => if rngB 0 j = true then some ((rng 0 (Int.toNat j), none), h) else none
         | x => none)
 δ' p.2)
 fun (p : (List PyData × Option Nat) × Cells) =>
 forX (YG (0 + 1 + 1 + 1 + 1))
 (fun (x : DSt) (x_1 : Cells) =>
 YP
 (YP
 (xb (xb (xb (xVar 0) YN) (YK xLen))
 (fun (w : W) (x : DSt) (h : Cells) =>
 match w with
             | W.d (PyData.int j) => if rngB 0 j = true then some ((rng 0 (Int.toNat j), none), h) else none
             | x => none)
 x x_1)
 fun (p : (List PyData × Option Nat) × Cells) =>
 forX (YG (0 + 1 + 1 + 1 + 1 + 1))
 (fun (x : DSt) (x_2 : Cells) =>
 YP (xSet 6 (xb (xb (xVar 0) fun w => xb (xb (xVar 4) fun w => xb (xb (xVar 5) YN) (YC w)) (YC w)) (YF d "really_ahead")) x x_2) (YQ fun δ' p =>
 YP
 (xSet 7
 (xb (xMapW (xC1 CmpOp.IsNot (xb (xb (xVar 0) fun x => xb (xVar 4) fun (y : W) (x_3 : DSt) (h : Cells) => xIx x y h) (YI 2)) (YZ))) fun (w : W) =>
 match w with
                  | W.d (PyData.bool true) => xMapW (xC1 CmpOp.Lt (xb (xb (xVar 0) fun x => xb (xVar 4) fun (y : W) (x_3 : DSt) (h : Cells) => xIx x y h) (YI 2)) (xb (xb (xVar 0) fun x => xb (xVar 5) fun (y : W) (x_3 : DSt) (h : Cells) => xIx x y h) (YI 1)))
                  | W.d (PyData.bool false) => xpure (W.d (PyData.bool false))
                  | x => xno)
 δ' p.2)
 (YQ fun δ' p =>
 YP
 (YP
 (xb
 (xb
 (xb (xb (xVar 6) fun (w : W) (x : DSt) (h : Cells) => YP (ref h w) fun (d : PyData) => some (W.d (PyData.bool (isi d "bool")), h)) fun (w : W) =>
 match w with
                      | W.d (PyData.bool b) => xpure b
                      | x => xno)
 fun (b : Bool) => xpure !b)
 (fun (c : Bool) => if c = true then xpure true else xC1 CmpOp.NotEq (xVar 6) (xVar 7)) δ' p.2)
 fun p =>
 if p.1 = true then
 YP (YP (xpure (W.d (PyData.bool false)) δ' p.2) YW) YE
 else some (Fl.nx δ', p.2))
 YE)))
 (Prod.snd p.1) (Prod.fst p.1) (Prod.fst p.1) x p.2)
 YE)
 (Prod.snd p.1) (Prod.fst p.1) (Prod.fst p.1) δ' p.2)
 (YQ fun δ' p =>
 YP (xSet 8 (xb (xb (xFrz (xb (xEach (xVar 0)) fun p δ h => compX (YG 0) (xC1 CmpOp.IsNot (YV 0 2) (YZ)) (xb (YV 0 2) (YB .Add 1)) p.2 p.1 p.1 (dpick [none] δ) h [])) YN) fun (ws : List W) (x : DSt) (h : Cells) => xSrtI ws h) δ' p.2) (YQ fun δ' p =>
 YP
 (YP
 (xMapW
 (xC1 CmpOp.Eq (xb (xb (xVar 0) YN) (YF d "quiet_times"))
 (xb
 (xb
 (xFrz
 (xb (xEach (xVar 8)) fun p δ h =>
 compX (YG 0)
 (xb (xb (xb (xVar 1) fun w => xb (xb (xVar 0) YN) (YC w)) (YF d "_law_quiet")) fun (w : W) =>
 match w with
                   | W.d (PyData.bool b) => xpure b
                   | x => xno)
 (xVar 0) p.2 p.1 p.1 (dpick [none, some 0] δ) h []))
 YN)
 (YK xTuple)))
 δ' p.2)
 YW)
 YE)))))
 (ends (List.length h)) := by kernel_rfl
theorem u_law (d : Nat) (w0 : W) (h : Cells) : callD T (d + 1) "law" [w0] h =
 YP
 (YP (xSet 1 (xCell (xPl (xb (xb (xb (xb (xVar 0) fun w => xb (xb (YJ 0) YN) (YC w)) (YF d "_law_cell_at")) (YB .FloorDiv 2)) fun w => xb (xb (xb (xb (xb (xVar 0) fun w => xb (xb (YJ 0) YN) (YC w)) (YF d "_law_cell_at")) (YB .Mod 2)) fun w => xb (xb (xb (xb (xVar 0) fun w => xb (xb (YJ 0) YN) (YC w)) (YF d "_law_cell_at")) YN) (YC w)) (YC w)))) [some w0, none, none, none, none, none, none, none] h) (YQ fun δ' p =>
 YP (xSet 2 (xb (xb (xVar 1) fun w => xb (xb (YJ 17) YN) (YC w)) (YF d "_law_digit")) δ' p.2) (YQ fun δ' p =>
 YP (xSet 3 (xb (xFrz (xPl (xb (xb (xb (xVar 1) fun w => xb (xb (YJ 5) YN) (YC w)) (YF d "_law_digit")) fun w => xb (xb (xb (xb (xb (xVar 0) fun w => xb (xb (YJ 1) YN) (YC w)) (YF d "_law_cell_at")) fun u => xb (xb (YJ 10) (YB .Pow 30)) (YO .Mod u)) YN) (YC w)))) fun x => xb (xb (xb (xb (xVar 1) fun w => xb (xb (YJ 4) YN) (YC w)) (YF d "_law_digit")) (YB .FloorDiv 3)) fun (y : W) (x_1 : DSt) (h : Cells) => xIx x y h) δ' p.2) (YQ fun δ' p =>
 YP (xSet 4 (xCell (xb (xb (xVar 0) fun w => xb (xb (xVar 2) fun w => xb (xb (xVar 3) fun w => xb (xb (xb (YJ 1) fun u => xb (xb (xb (xVar 1) fun w => xb (xb (YJ 6) YN) (YC w)) (YF d "_law_digit")) (YO .Add u)) fun w => xb (xb (xMapW (xC1 CmpOp.Eq (xb (xb (xVar 1) fun w => xb (xb (YJ 3) YN) (YC w)) (YF d "_law_digit")) (YJ 0))) YN) (YC w)) (YC w)) (YC w)) (YC w)) fun (ws : List W) (x : DSt) (h : Cells) => callF T d (Str.ofString "_law_deeds") ws h)) δ' p.2) (YQ fun δ' p =>
 YP (xSet 1 (xCell (xPl (xb (xb (xb (xb (xVar 0) fun w => xb (xb (YJ 2) YN) (YC w)) (YF d "_law_cell_at")) (YB .FloorDiv 2)) fun w => xb (xb (xb (xb (xb (xVar 0) fun w => xb (xb (YJ 2) YN) (YC w)) (YF d "_law_cell_at")) (YB .Mod 2)) fun w => xb (xb (xb (xb (xVar 0) fun w => xb (xb (YJ 2) YN) (YC w)) (YF d "_law_cell_at")) YN) (YC w)) (YC w)))) δ' p.2) (YQ fun δ' p =>
 YP
 (YP
 (xb (xb (xb (xVar 4) YN) (YK xLen))
 (fun (w : W) (x : DSt) (h : Cells) =>
 match w with
               | W.d (PyData.int j) => if rngB 0 j = true then some ((rng 0 (Int.toNat j), none), h) else none
               | x => none)
 δ' p.2)
 fun (p : (List PyData × Option Nat) × Cells) =>
 forX (YG (0 + 1 + 1 + 1 + 1 + 1))
 (fun (x : DSt) (x_1 : Cells) =>
 YP (xSet 6 (xb (xb (xVar 1) fun w => xb (xb (xb (xb (xVar 4) YN) (YK xLen)) YN) (YC w)) (YF d "_law_digit")) x x_1) (YQ fun δ' p =>
 YP
 (YP
 (xb (xVar 4)
 (fun (w : W) (δ : DSt) (h : Cells) =>
 if mpre (Str.ofString "append") w h = true then
 YP
 (xb
 (xb (xVar 4) fun (w : W) (δ : DSt) (h : Cells) =>
 match w with
                         | W.c j =>
                          match h[j]? with
                          | some (Cell.l xs) => YP (xb (xVar 6) (YN) δ h) fun (p : List W × Cells) => popL j p.1 p.2
                          | some (Cell.k kvs) => YP (xVar 6 δ h) fun p => popK j p.1 p.2
                          | x => none
                         | x => none)
 (YN) δ h)
 fun (p : List W × Cells) =>
 match w, p.1 with
                       | W.c j, [W.d x] =>
                        match p.2[j]? with
                        | some (Cell.l xs) => if List.length xs < sizeLine then some (W.d PyData.none, List.set p.2 j (Cell.l (xs ++ [x]))) else none
                        | x => none
                       | x, x_2 => none
 else none)
 δ' p.2)
 fun p => some (Fl.nx δ', p.2))
 YE))
 (Prod.snd p.1) (Prod.fst p.1) (Prod.fst p.1) δ' p.2)
 (YQ fun δ' p =>
 YP (xSet 7 (xb (xb (xVar 4) YN) (YK xTuple)) δ' p.2) (YQ fun δ' p =>
 YP
 (YP (xC1 CmpOp.IsNot (xb (xb (xVar 7) YN) (YF d "look_over")) (YZ) δ' p.2) fun p =>
 if p.1 = true then
 YP (YP (xpure (W.d (PyData.bool false)) δ' p.2) YW) YE
 else some (Fl.nx δ', p.2))
 (YQ fun δ' p =>
 YP
 (YP
 (xb (xb (xb (xVar 7) YN) (YF d "_law_right"))
 (fun (w : W) =>
 match w with
                     | W.d (PyData.bool true) =>
                      xb (xb (xb (xVar 7) YN) (YF d "_law_right")) fun (w : W) =>
 match w with
                       | W.d (PyData.bool true) => xMapW (xC1 CmpOp.Eq (xVar 7) (xb (xb (xVar 4) YN) (YK xTuple)))
                       | W.d (PyData.bool false) => xpure (W.d (PyData.bool false))
                       | x => xno
                     | W.d (PyData.bool false) => xpure (W.d (PyData.bool false))
                     | x => xno)
 δ' p.2)
 YW)
 YE)))))))))
 (ends (List.length h)) := by kernel_rfl
end K08
namespace K08
open PySem PySem.Spec PyProof.Rows L2 DL SJ
structure De where
 hd : Int
 b : Int
 e : Option Int
 c : PyData
 a : PyData
def optI : Option Int -> PyData
 | none => .none
 | some t => .int t
def De.an (x : De) : PyData := match x.e with
 | none => .none
 | some _ => x.a
def De.dat (x : De) : PyData := .tuple [.int x.hd, .int x.b, optI x.e, x.c, x.an]
def De.times (x : De) : List Int := match x.e with
 | none => [x.b]
 | some t => [x.b, t]
def eb (x : De) (t : Int) : Bool := match x.e with
 | none => false
 | some u => decide (u < t)
def meet (x y : De) : Bool := x.times.any fun t => y.times.any fun u => decide (u = t)
def tog (x y : De) : Bool := !meet x y && (decide (x.hd ≠ y.hd) || (eb x y.b || eb y x.b))
theorem meet_symm (x y : De) : meet x y = meet y x := by
 unfold meet
 rw [Bool.eq_iff_iff]
 simp only [List.any_eq_true, decide_eq_true_eq]
 constructor
 ·rintro ⟨t, ht, u, hu, rfl⟩; exact ⟨_, hu, _, ht, rfl⟩
 ·rintro ⟨t, ht, u, hu, rfl⟩; exact ⟨_, hu, _, ht, rfl⟩
theorem tog_symm {x y : De} (h : tog x y = true) : tog y x = true := by
 unfold tog at *
 rw [meet_symm y x, Bool.or_comm (eb y x.b)]
 simp only [Bool.and_eq_true, Bool.or_eq_true, decide_eq_true_eq] at *
 exact ⟨h.1, h.2.imp (fun z e => z e.symm) id⟩
theorem b_times (x : De) : x.b ∈ x.times := by
 unfold De.times
 split <;> simp
theorem tog_b {x y : De} (h : tog x y = true) : x.b ≠ y.b := fun e => by
 unfold tog at h
 simp only [Bool.and_eq_true, Bool.not_eq_true'] at h
 have h1 := h.1
 unfold meet at h1
 rw [List.any_eq_false] at h1
 have h2 := h1 x.b (b_times x)
 rw [Bool.not_eq_true, List.any_eq_false] at h2
 exact h2 y.b (b_times y) (by simp [e])
def CA (c a : PyData) : Prop := ∃ (k : Nat) (v : Int), k < 8 /\
 ((c = .tuple [.str "read", .int k] /\ a = .tuple [.str "got", .int v]) \/
  (c = .tuple [.str "write", .int k, .int v] /\ a = .tuple [.str "done"]) \/
  (c = .tuple [.str "add", .int k, .int 2] /\ a = .tuple [.str "got", .int v]) \/
  (c = .tuple [.str "swap", .int k, .int v, .int 5] /\ a = .tuple [.str "no"]) \/
  (c = .tuple [.str "span", .int k, .int 8] /\ a = .tuple [.str "all", .tuple (List.replicate (8 - k) (.int v))]) \/
  (c = .tuple [.str "read", .int k] /\ a = .tuple [.str "refused"]) \/
  (c = .tuple [.str "write", .int k, .int v] /\ a = .tuple [.str "refused"]))
structure Good (x : De) : Prop where
 h0 : 0 <= x.hd
 h5 : x.hd <= 5
 b0 : 0 <= x.b
 ca : CA x.c x.a
 lt : ∀ t, x.e = some t -> x.b < t
structure Iv (hands : Nat) (free over used : List Int) (found : List De) (k : Nat) : Prop where
 fl : free.length = hands
 f0 : ∀ t ∈ free, 0 <= t
 us : ∀ x ∈ found, ∀ t ∈ x.times, t ∈ used
 gd : ∀ x ∈ found, Good x
 ov : ∀ x ∈ found, x.e = none -> x.hd ∈ over
 fr : ∀ x ∈ found, ∀ t, x.e = some t -> t < free.getD x.hd.toNat 0
 tg : found.Pairwise fun x y => tog x y = true
 ul : used.length <= 2 * k
 fk : found.length <= k
 ol : over.length <= k
theorem Iv.skip {hands : Nat} {free over used : List Int} {found : List De} {k : Nat} (I : Iv hands free over used found k) : Iv hands free over used found (k + 1) :=
 ⟨I.fl, I.f0, I.us, I.gd, I.ov, I.fr, I.tg, by have := I.ul; omega, by have := I.fk; omega, by have := I.ol; omega⟩
theorem Iv.new_tog {hands : Nat} {free over used : List Int} {found : List De} {k : Nat} (I : Iv hands free over used found k) {j : Nat} {b : Int} (hb : free.getD j 0 <= b) (hu : b ∉ used) (ho : (j : Int) ∉ over) {e : Option Int} (he : ∀ t, e = some t -> t ∉ used) (c a : PyData) (x : De) (hx : x ∈ found) : tog x ⟨j, b, e, c, a⟩ = true := by
 have hm : meet x ⟨j, b, e, c, a⟩ = false := by
  unfold meet
  rw [List.any_eq_false]
  intro t ht
  rw [Bool.not_eq_true, List.any_eq_false]
  intro u hu' z
  have z := of_decide_eq_true z
  subst z
  have hin := I.us x hx u ht
  unfold De.times at hu'
  cases e with
  | none => simp at hu'; subst hu'; exact hu hin
  | some t =>
   simp at hu'
   rcases hu' with rfl | rfl
   ·exact hu hin
   ·exact he _ rfl hin
 unfold tog
 rw [hm]
 simp only [Bool.not_false, Bool.true_and, Bool.or_eq_true, decide_eq_true_eq]
 by_cases hh : x.hd = j
 ·right
  left
  cases ex : x.e with
  | none => exact (ho (hh ▸ I.ov x hx ex)).elim
  | some t =>
   have := I.fr x hx t ex
   rw [hh] at this
   simp only [Int.toNat_natCast] at this
   simp [eb, ex]
   omega
 ·exact .inl hh
theorem getD_ge {free : List Int} {j : Nat} (h : ∀ t ∈ free, 0 <= t) : 0 <= free.getD j 0 := by
 rw [List.getD_eq_getElem?_getD]
 cases e : free[j]? with
 | none => simp
 | some t => simpa using h t (List.mem_of_getElem? e)
theorem Iv.opened {hands : Nat} {free over used : List Int} {found : List De} {k : Nat} (I : Iv hands free over used found k) (h6 : hands <= 6) {j : Nat} (hj : j < hands) {b : Int} (hb : free.getD j 0 <= b) (hu : b ∉ used) (ho : (j : Int) ∉ over) {c a : PyData} (ca : CA c a) :
  Iv hands free (over ++ [(j : Int)]) (used ++ [b]) (found ++ [⟨j, b, none, c, a⟩]) (k + 1) := by
 refine ⟨I.fl, I.f0, ?_, ?_, ?_, ?_, ?_, by have := I.ul; simp; omega, by have := I.fk; simp; omega, by have := I.ol; simp; omega⟩
 ·intro x hx t ht
  rcases List.mem_append.mp hx with hx | hx
  ·exact List.mem_append_left _ (I.us x hx t ht)
  ·simp at hx; subst hx; simp [De.times] at ht; simp [ht]
 ·intro x hx
  rcases List.mem_append.mp hx with hx | hx
  ·exact I.gd x hx
  ·simp at hx; subst hx
   exact ⟨by simp, by simp; omega, by have := getD_ge (j := j) I.f0; simp; omega, ca, fun t z => by cases z⟩
 ·intro x hx e
  rcases List.mem_append.mp hx with hx | hx
  ·exact List.mem_append_left _ (I.ov x hx e)
  ·simp at hx; subst hx; simp
 ·intro x hx t e
  rcases List.mem_append.mp hx with hx | hx
  ·exact I.fr x hx t e
  ·simp at hx; subst hx; cases e
 ·rw [List.pairwise_append]
  refine ⟨I.tg, List.pairwise_singleton _ _, fun x hx y hy => ?_⟩
  simp at hy; subst hy
  exact I.new_tog hb hu ho (fun t z => by cases z) c a x hx
theorem Iv.ended {hands : Nat} {free over used : List Int} {found : List De} {k : Nat} (I : Iv hands free over used found k) (h6 : hands <= 6) {j : Nat} (hj : j < hands) {b e : Int} (hb : free.getD j 0 <= b) (hu : b ∉ used) (ho : (j : Int) ∉ over) (hbe : b < e) (he : e ∉ used) {c a : PyData} (ca : CA c a) :
  Iv hands (free.set j (e + 1)) over (used ++ [b] ++ [e]) (found ++ [⟨j, b, some e, c, a⟩]) (k + 1) := by
 have b0 : 0 <= b := by have := getD_ge (j := j) I.f0; omega
 refine ⟨by simp [I.fl], ?_, ?_, ?_, ?_, ?_, ?_, by have := I.ul; simp; omega, by have := I.fk; simp; omega, by have := I.ol; omega⟩
 ·intro t ht
  rcases List.mem_or_eq_of_mem_set ht with ht | rfl
  ·exact I.f0 t ht
  ·omega
 ·intro x hx t ht
  rcases List.mem_append.mp hx with hx | hx
  ·have := I.us x hx t ht; simp [this]
  ·simp at hx; subst hx; simp [De.times] at ht; rcases ht with rfl | rfl <;> simp
 ·intro x hx
  rcases List.mem_append.mp hx with hx | hx
  ·exact I.gd x hx
  ·simp at hx; subst hx
   exact ⟨by simp, by simp; omega, b0, ca, fun t z => by cases z; exact hbe⟩
 ·intro x hx e'
  rcases List.mem_append.mp hx with hx | hx
  ·exact I.ov x hx e'
  ·simp at hx; subst hx; cases e'
 ·intro x hx t e'
  have hset : ∀ i : Nat, (free.set j (e + 1)).getD i 0 = if i = j then e + 1 else free.getD i 0 := fun i => by
   rw [List.getD_eq_getElem?_getD, List.getD_eq_getElem?_getD, List.getElem?_set]
   by_cases q : j = i
   ·subst q; simp [I.fl, hj]
   ·rw [if_neg q, if_neg fun z : i = j => q z.symm]
  rcases List.mem_append.mp hx with hx | hx
  ·have h1 := I.fr x hx t e'
   rw [hset]
   split
   ·rename_i q; rw [q] at h1; omega
   ·exact h1
  ·simp at hx; subst hx
   cases e'
   rw [hset]
   simp
   omega
 ·rw [List.pairwise_append]
  refine ⟨I.tg, List.pairwise_singleton _ _, fun x hx y hy => ?_⟩
  simp at hy; subst hy
  exact I.new_tog hb hu ho (fun t z => by cases z; exact he) c a x hx
theorem Iv.start {hands : Nat} {s : Int} (hs : 0 <= s) : Iv hands (List.replicate hands s) [] [] [] 0 :=
 ⟨by simp, fun t ht => by rw [(List.mem_replicate.mp ht).2]; exact hs, (fun _ z => nomatch z), (fun _ z => nomatch z), (fun _ z => nomatch z), (fun _ z => nomatch z), .nil, Nat.le_refl _, Nat.le_refl _, Nat.le_refl _⟩
theorem cnt_lt {us : List Int} {b : Int} (h : b ∈ us) : (us.filter fun u => decide (b + 1 <= u)).length < (us.filter fun u => decide (b <= u)).length := by
 have e : (us.filter fun u => decide (b + 1 <= u)) = (us.filter fun u => decide (b <= u)).filter fun u => decide (b + 1 <= u) := by
  rw [List.filter_filter]
  congr 1
  funext u
  by_cases q : b + 1 <= u <;> simp [q]
  omega
 rw [e]
 refine List.length_filter_lt_length_iff_exists.mpr ⟨b, List.mem_filter.mpr ⟨h, by simp⟩, by simp; omega⟩
structure His (xs : List De) : Prop where
 gd : ∀ x ∈ xs, Good x
 tg : xs.Pairwise fun x y => tog x y = true
 ln : xs.length <= 16
theorem His.perm {xs ys : List De} (H : His xs) (p : xs.Perm ys) : His ys :=
 ⟨fun x hx => H.gd x (p.mem_iff.mpr hx), (p.pairwise_iff fun {a b} h => tog_symm h).mp H.tg, by rw [<- p.length_eq]; exact H.ln⟩
theorem His.bnd {xs : List De} (H : His xs) : (xs.map (·.b)).Nodup := by
 rw [List.nodup_iff_pairwise_ne, List.pairwise_map]
 exact H.tg.imp fun h => tog_b h
abbrev Qs := List (De × Nat)
def hq (xs : List De) (j : Int) : Qs := xs.zipIdx.filter fun q => decide (q.1.hd = j)
theorem hq_mem {xs : List De} {j : Int} {q : De × Nat} (h : q ∈ hq xs j) : xs[q.2]? = some q.1 /\ q.1.hd = j := by
 obtain ⟨h1, h2⟩ := List.mem_filter.mp h
 exact ⟨List.mem_zipIdx_iff_getElem?.mp h1, of_decide_eq_true h2⟩
theorem hq_fst (xs : List De) (j : Int) : (hq xs j).map (·.1) = xs.filter fun x => decide (x.hd = j) := by
 unfold hq
 rw [show (fun q : De × Nat => decide (q.1.hd = j)) = (fun x : De => decide (x.hd = j)) ∘ Prod.fst from rfl, <- List.filter_map, List.zipIdx_map_fst]
def hk (xs : List De) (j : Int) : List Int := (hq xs j).map fun q => q.1.b
def hn (xs : List De) (j : Int) : List Int := (hq xs j).map fun q => (q.2 : Int)
theorem hk_eq (xs : List De) (j : Int) : hk xs j = (xs.filter fun x => decide (x.hd = j)).map (·.b) := by
 rw [<- hq_fst, List.map_map]
 rfl
theorem hk_nd {xs : List De} (H : His xs) (j : Int) : (hk xs j).Nodup := by
 rw [hk_eq]
 exact H.bnd.sublist (List.filter_sublist.map _)
def hp (xs : List De) (j : Int) : List (Int × Int) := ((hk xs j).zip (hn xs j)).mergeSort fun a b => decide (a.1 <= b.1)
theorem hp_zip (xs : List De) (j : Int) : (hk xs j).zip (hn xs j) = (hq xs j).map fun q => (q.1.b, (q.2 : Int)) := by
 unfold hk hn
 rw [List.zip_map']
theorem hp_mem {xs : List De} {j : Int} {p : Int × Int} (h : p ∈ hp xs j) : ∃ (n : Nat) (x : De), p = (x.b, (n : Int)) /\ xs[n]? = some x /\ x.hd = j := by
 have h1 := (List.mergeSort_perm _ _).mem_iff.mp h
 rw [hp_zip] at h1
 obtain ⟨q, hq', rfl⟩ := List.mem_map.mp h1
 obtain ⟨e1, e2⟩ := hq_mem hq'
 exact ⟨q.2, q.1, rfl, e1, e2⟩
theorem hp_snd (xs : List De) (j : Int) : srtK (hk xs j) (hn xs j) = (hp xs j).map (·.2) := rfl
theorem hp_fst (xs : List De) (j : Int) : (hp xs j).map (·.1) = srt (hk xs j) := by
 refine srt_only ?_ ?_
 ·refine ((List.mergeSort_perm _ _).map _).trans ?_
  rw [hp_zip, List.map_map]
  rfl
 ·rw [List.pairwise_map]
  have h := List.pairwise_mergeSort (le := fun a b : Int × Int => decide (a.1 <= b.1)) (fun a b c h1 h2 => by simp at *; omega) (fun a b => by simp; omega) ((hk xs j).zip (hn xs j))
  exact h.imp fun h => by simpa using h
end K08
namespace K08
open PySem PySem.Spec PyProof.Rows L2 DL CI SJ
variable (d : Nat) (x : PyData) (h : Cells)
@[simp] theorem c_is_whole : callD T (d+1) "is_whole" [.d x] h = some (.bool (isWh x), h) := by
 cases x <;> simp [u_is_whole, isi, tyOf, isWh]
@[simp] theorem c_is_between (lo hi : Int) : callD T (d+2) "is_between" [.d x, .d (.int lo), .d (.int hi)] h = some (.bool (between x lo hi), h) := by
 cases x <;> simp [u_is_between, c_is_whole, between, isWh]
 split <;> simp_all
 omega
@[simp] theorem c_is_tuple_of (n : Int) : callD T (d+1) "is_tuple_of" [.d x, .d (.int n)] h = some (.bool (tupOf x n), h) := by
 cases x <;> simp [u_is_tuple_of, isi, tyOf, tupOf]
@[simp] theorem c_are_whole (xs : List PyData) : callD T (d+2) "are_whole" [.d (.tuple xs)] h = some (.bool (xs.all isWh), h) := by
 simp [u_are_whole]
 rw [compX_map (fun x => .bool (isWh x)) 0 (fun _ _ _ => rfl)]
 ·simp [bools_map]
 ·intro y _ u
  simp [c_is_whole]
@[simp] theorem c_is_key : callD T (d+3) "is_key" [.d x] h = some (.bool (isKey x), h) := by
 simp [u_is_key, c_is_between, isKey]
@[simp] theorem c_word_of : callD T (d+1) "word_of" [.d x] h = some (wordOf x, h) := by
 cases x <;> simp [u_word_of, isi, tyOf, wordOf]
 rename_i xs
 cases xs with
 | nil => simp
 | cons y r => cases y <;> simp [wordOf, isi, tyOf]
@[simp] theorem c_is_worded (s : Str) (n : Int) : callD T (d+2) "is_worded" [.d x, .d (.str s), .d (.int n)] h = some (.bool (worded x s n), h) := by
 simp [u_is_worded, c_word_of]
 cases x <;> simp [wordOf, worded]
 rename_i xs
 cases xs with
 | nil => simp [wordOf, worded]
 | cons y r => cases y <;> simp [wordOf, worded]; rename_i t; cases e : (t == s) <;> simp
theorem lk (s : Str) : List.lookup s [(Str.ofString "read", (0 : Int)), (Str.ofString "write", 1), (Str.ofString "add", 1), (Str.ofString "swap", 2)] = nb s := by
 unfold nb
 simp only [List.lookup]
 repeat' split
 all_goals simp_all
theorem cut2 (a b : PyData) (r : List PyData) : cut (a :: b :: r) (some 2) none = r := by
 have e1 : HT.sIx (a :: b :: r).length 0 (some 2) = 2 := by simp [HT.sIx]
 have e2 : HT.sIx (a :: b :: r).length (a :: b :: r).length none = r.length + 2 := by simp [HT.sIx]
 rw [cut, e1, e2]; simp
theorem cut1 (a : PyData) (r : List PyData) : cut (a :: r) (some 1) none = r := by
 have e1 : HT.sIx (a :: r).length 0 (some 1) = 1 := by simp [HT.sIx]
 have e2 : HT.sIx (a :: r).length (a :: r).length none = r.length + 1 := by simp [HT.sIx]
 rw [cut, e1, e2]; simp
@[simp] theorem c_is_single : callD T (d+4) "is_single" [.d x] h = some (.bool (isSingle x), h) := by
 simp [u_is_single, c_word_of, c_is_key, c_are_whole, lk]
 cases x <;> simp [wordOf, isSingle]
 rename_i xs
 cases xs with
 | nil => simp [wordOf, isSingle]
 | cons y r =>
  cases y <;> simp [wordOf, isSingle]
  rename_i t
  cases e : nb t with
  | none => simp
  | some n =>
   have hn : 0 <= n := by
    unfold nb at e
    repeat' split at e
    all_goals simp at e
    all_goals omega
   by_cases hl : (r.length : Int) + 1 = 2 + n
   ·cases r with
    | nil => simp at hl; omega
    | cons k vs =>
     cases ek : isKey k <;> simp_all [c_is_key, cut2, c_are_whole]
   ·simp [hl, e]
theorem worded2 {x : PyData} {s : Str} (e : worded x s 2 = true) : ∃ a, x = .tuple [.str s, a] := by
 unfold worded at e
 split at e
 ·rename_i t r
  simp at e
  obtain ⟨rfl, e⟩ := e
  match r, e with
  | [a], _ => exact ⟨a, rfl⟩
  | [], e => simp at e
  | _ :: _ :: _, e => simp at e; omega
 ·cases e
theorem worded3 {x : PyData} {s : Str} (e : worded x s 3 = true) : ∃ a b, x = .tuple [.str s, a, b] := by
 unfold worded at e
 split at e
 ·rename_i t r
  simp at e
  obtain ⟨rfl, e⟩ := e
  match r, e with
  | [a, b], _ => exact ⟨a, b, rfl⟩
  | [], e => simp at e
  | [_], e => simp at e
  | _ :: _ :: _ :: _, e => simp at e; omega
 ·cases e
theorem no_span {x : PyData} (e : worded x "span" 3 = false) : isSpan x = false := by
 unfold isSpan
 split
 ·simp [worded] at e; simp [e]
 ·rfl
theorem no_deal {x : PyData} (e : worded x "deal" 2 = false) : isDeal x = false := by
 unfold isDeal
 split
 ·simp [worded] at e; simp [e]
 ·rfl
@[simp] theorem c_is_span : callD T (d+3) "is_span" [.d x] h = some (.bool (isSpan x), h) := by
 simp [u_is_span, c_is_worded, c_are_whole]
 cases e : worded x (Str.ofString "span") 3
 ·simp [no_span e]
 ·obtain ⟨a, b, rfl⟩ := worded3 e
  simp [cut1, c_are_whole]
  cases a <;> cases b <;> simp [isWh, isSpan]
  rename_i i j
  by_cases h1 : 0 <= i <;> by_cases h2 : i < j <;> simp [h1, h2]
@[simp] theorem c_is_deal : callD T (d+5) "is_deal" [.d x] h = some (.bool (isDeal x), h) := by
 simp [u_is_deal, c_is_worded]
 cases e : worded x (Str.ofString "deal") 2
 ·simp [no_deal e]
 ·obtain ⟨a, rfl⟩ := worded2 e
  cases a <;> simp [isi, tyOf, isDeal]
  rename_i ps
  by_cases h1 : (1 : Int) <= ps.length
  ·by_cases h2 : (ps.length : Int) <= 4
   ·simp [h1, h2]
    rw [compX_map (fun x => .bool (isSingle x)) 0 (fun _ _ _ => rfl)]
    ·have h3 : 1 <= ps.length := by omega
     have h4 : ps.length <= 4 := by omega
     simp [bools_map, h3, h4]
    ·intro y _ u
     simp [c_is_single]
   ·have h4 : ¬ ps.length <= 4 := by omega
    simp [h1, h2, h4]
  ·have h4 : ¬ 1 <= ps.length := by omega
   simp [h1, h4]
@[simp] theorem c_is_call : callD T (d+6) "is_call" [.d x] h = some (.bool (isCall x), h) := by
 simp [u_is_call, c_is_single, c_is_span, c_is_deal, isCall]
 cases e1 : isSingle x <;> cases e2 : isSpan x <;> cases e3 : isDeal x <;> simp [e1, e2, e3]
end K08
namespace K08
open PySem PySem.Spec PyProof.Rows L2 DL CI SJ ST
variable (d : Nat) (h : Cells)
theorem comp_g {α : Type} {g : XG} {tt : XR Bool} {te : XR W} {all : List PyData} {h : Cells} (F : α -> PyData) (p : α -> Bool) (f : α -> PyData) (I : DSt -> Prop) : ∀ (qs : List α) (δ : DSt) (ac : List PyData), I δ ->
  (∀ q ∈ qs, ∀ δ, I δ -> ∃ δ', g (.d (F q)) δ h = some (δ', h) /\ I δ' /\ tt δ' h = some (p q, h) /\ (p q = true -> te δ' h = some (.d (f q), h))) -> compX g tt te none all (qs.map F) δ h ac = some (ac ++ (qs.filter p).map f, h)
 | [], δ, ac, _, _ => by simp [compX]
 | x :: r, δ, ac, i, hx => by
  obtain ⟨δ', e1, i', e2, e3⟩ := hx x List.mem_cons_self δ i
  have ih := fun ac => comp_g (all := all) F p f I r δ' ac i' fun y hy => hx y (List.mem_cons_of_mem _ hy)
  rw [List.map_cons, compX, cond_none, if_pos rfl, e1]
  simp only [bs, e2]
  cases hp : p x with
  | true => rw [if_pos rfl, e3 hp]; simp only [bs]; rw [ih]; simp [hp]
  | false => rw [if_neg (by simp)]; rw [ih]; simp [hp]
theorem filter_true {α : Type} (l : List α) : l.filter (fun _ => true) = l := List.filter_eq_self.mpr fun _ _ => rfl
@[simp] theorem opt_none : optI none = .none := rfl
@[simp] theorem opt_some (t : Int) : optI (some t) = .int t := rfl
@[simp] theorem c_is_time (t : Int) : callD T (d+2) "is_time" [.d (.int t)] h = some (.bool (decide (0 <= t)), h) := by
 simp [u_is_time, isWh]
theorem pls_rep (n : Nat) (v : Int) (m : Nat) : plainsB m (List.replicate n (.int v)) = true := by
 induction n with
 | zero => simp
 | succ n ih => simp [List.replicate_succ, ih]
theorem rep_wh (n : Nat) (v : Int) : (List.replicate n (PyData.int v)).all isWh = true := by
 rw [List.all_eq_true]
 intro x hx
 rw [(List.mem_replicate.mp hx).2]
 rfl
theorem ca_call {c a : PyData} (ca : CA c a) : isCall c = true := by
 obtain ⟨k, v, hk, q⟩ := ca
 have h1 : (0 : Int) <= k := by omega
 have h2 : (k : Int) <= 7 := by omega
 have h3 : (k : Int) < 8 := by omega
 rcases q with ⟨rfl, rfl⟩ | ⟨rfl, rfl⟩ | ⟨rfl, rfl⟩ | ⟨rfl, rfl⟩ | ⟨rfl, rfl⟩ | ⟨rfl, rfl⟩ | ⟨rfl, rfl⟩ <;> simp [isCall, isSingle, isSpan, nb, isKey, between, isWh, h2, h3]
theorem ca_plain {c a : PyData} (ca : CA c a) (n : Nat) : plainB (n + 2) c = true /\ plainB (n + 2) a = true := by
 obtain ⟨k, v, hk, q⟩ := ca
 rcases q with ⟨rfl, rfl⟩ | ⟨rfl, rfl⟩ | ⟨rfl, rfl⟩ | ⟨rfl, rfl⟩ | ⟨rfl, rfl⟩ | ⟨rfl, rfl⟩ | ⟨rfl, rfl⟩ <;> simp [pls_rep]
theorem c_is_answer {c a : PyData} (ca : CA c a) : callD T (d+8) "is_answer" [.d c, .d a] h = some (.bool true, h) := by
 have hc := ca_call ca
 have hs : ∀ h, callD T (d+7) "is_step" [.d c] h = some (.bool true, h) := fun h => by simp [u_is_step, hc]
 obtain ⟨k, v, hk, q⟩ := ca
 have h8 : (((8 - k : Nat) : Int)) = 8 - (k : Int) := by omega
 rcases q with ⟨rfl, rfl⟩ | ⟨rfl, rfl⟩ | ⟨rfl, rfl⟩ | ⟨rfl, rfl⟩ | ⟨rfl, rfl⟩ | ⟨rfl, rfl⟩ | ⟨rfl, rfl⟩ <;> simp [u_is_answer, hs, hc, u_is_own_answer, worded, isWh, szl, tupOf, h8, rep_wh]
theorem c_is_deed {x : De} (G : Good x) : callD T (d+9) "is_deed" [.d x.dat] h = some (.bool true, h) := by
 obtain ⟨hd, b, e, c, a⟩ := x
 have h0 := G.h0
 have h5 := G.h5
 have b0 := G.b0
 have hc := ca_call G.ca
 have ha := fun h => c_is_answer d h G.ca
 have lt := G.lt
 dsimp only at h0 h5 b0 hc ha lt
 cases e with
 | none => simp [u_is_deed, De.dat, De.an, tupOf, between, h0, h5, b0, hc]
 | some t =>
  have hl := lt t rfl
  have ht : 0 <= t := by omega
  simp [u_is_deed, De.dat, De.an, tupOf, between, h0, h5, b0, hc, hl, ht, ha]
theorem c_times_of (x : De) : callD T (d+1) "times_of" [.d x.dat] h = some (.list (x.times.map .int), h) := by
 obtain ⟨hd, b, e, c, a⟩ := x
 cases e <;> simp [u_times_of, De.dat, De.times, szl, xFrz]
@[simp] theorem c_ended_below (x : De) (t : Int) : callD T (d+1) "ended_below" [.d x.dat, .d (.int t)] h = some (.bool (eb x t), h) := by
 obtain ⟨hd, b, e, c, a⟩ := x
 cases e <;> simp [u_ended_below, De.dat, eb]
theorem ints_plain (ns : List Int) (m : Nat) : plainsB m (ns.map .int) = true := by
 induction ns with
 | nil => simp
 | cons n r ih => simp [ih]
theorem in_ints (t : Int) (ns : List Int) : xIn (.d (.int t)) (.d (.list (ns.map .int))) h = some (ns.any fun u => decide (u = t)) := by
 show (if (plainB 64 (.list (ns.map .int)) && plainB 64 (.int t)) = true then some ((ns.map PyData.int).any fun z => PyData.eqv z (.int t)) else none) = _
 rw [if_pos (by simp [ints_plain]), List.any_map]
 congr 2
theorem ix0 (x : De) (h : Cells) : xIx (.d x.dat) (.d (.int 0)) h = some (.d (.int x.hd), h) := by simp [De.dat]
theorem ix1 (x : De) (h : Cells) : xIx (.d x.dat) (.d (.int 1)) h = some (.d (.int x.b), h) := by simp [De.dat]
theorem ix2 (x : De) (h : Cells) : xIx (.d x.dat) (.d (.int 2)) h = some (.d (optI x.e), h) := by simp [De.dat]
theorem c_go_together (x y : De) : callD T (d+2) "go_together" [.d x.dat, .d y.dat] h = some (.bool (tog x y), h) := by
 have hx := fun h => c_times_of d h x
 have hy := fun h => c_times_of d h y
 have hc : ∀ all, compX (fun (w : W) (δ : DSt) (h : Cells) => some (List.set δ 0 (some w), h)) (xpure true) (xMapW (xC1 CmpOp.In (xVar 0) (xb (xb (xVar 1) fun w => xb (xpure []) fun ws => xpure (w :: ws)) fun ws x h => Option.bind (callD T (d+1) "times_of" ws h) fun p => some (W.d p.1, p.2)))) none all (x.times.map .int) [none, some (.d y.dat)] h [] = some (x.times.map fun t => .bool (y.times.any fun u => decide (u = t)), h) := fun all => by
  rw [comp_g PyData.int (fun _ => true) (fun t => .bool (y.times.any fun u => decide (u = t))) (fun δ => ∃ u, δ = [u, some (.d y.dat)]) x.times _ _ ⟨_, rfl⟩, filter_true, List.nil_append]
  rintro t _ δ ⟨u, rfl⟩
  refine ⟨[some (.d (.int t)), some (.d y.dat)], by simp, ⟨_, rfl⟩, rfl, fun _ => ?_⟩
  simp [hy, in_ints]
 have hb : bools (x.times.map fun t => PyData.bool (y.times.any fun u => decide (u = t))) = some (x.times.map fun t => y.times.any fun u => decide (u = t)) := by
  generalize x.times = ts
  induction ts with
  | nil => rfl
  | cons t r ih => rw [List.map_cons, bools, ih]; rfl
 have hA : ∀ h, xAny [.d (.list (x.times.map fun t => PyData.bool (y.times.any fun u => decide (u = t))))] h = some (.d (.bool (meet x y)), h) := fun h => by
  rw [any_l, hb, Option.map_some, List.any_map]
  rfl
 simp [u_go_together, hx, hc, hA, xFrz, ix0, ix1, -any_l, -List.any_eq_true]
 unfold tog
 cases meet x y
 ·by_cases q : x.hd = y.hd
  ·cases q1 : eb x y.b <;> simp [q, q1, ix0, ix1]
  ·simp [q, ix0, ix1]
 ·simp
end K08
namespace K08
open PySem PySem.Spec PyProof.Rows L2 DL CI SJ ST
variable (d : Nat) (h : Cells)
def qD (q : De × Nat) : PyData := .tuple [.int q.2, q.1.dat]
theorem enum_zip : ∀ (xs : List De) (k : Nat), enumF k (xs.map De.dat) = (xs.zipIdx k).map qD
 | [], k => by simp [enumF]
 | x :: r, k => by
  rw [List.map_cons, enumF, enum_zip r (k + 1), List.zipIdx_cons, List.map_cons]
  rfl
theorem enum_d (xs : List De) : enumD (xs.map De.dat) = xs.zipIdx.map qD := enum_zip xs 0
theorem end_of {x : Option (Fl × Cells)} {n : Nat} {H : Cells} (k : ∃ δ2 h2, x = some (.nx δ2, h2) /\ h2.take n = H) : x.bind (ends n) = some (.none, H) := by
 obtain ⟨δ2, h2, rfl, rfl⟩ := k
 rfl
theorem all_true {xs : List De} {p : De -> Bool} (h : ∀ x ∈ xs, p x = true) : bools (xs.map fun x => PyData.bool (p x)) = some (xs.map p) := by
 clear h
 induction xs with
 | nil => rfl
 | cons x r ih => rw [List.map_cons, bools, ih]; rfl
theorem cut_take (xs : List PyData) (k : Nat) (hk : k <= xs.length) : cut xs none (some (k : Int)) = xs.take k := by
 have e1 : HT.sIx xs.length 0 none = 0 := by simp [HT.sIx]
 have e2 : HT.sIx xs.length xs.length (some (k : Int)) = k := by
  unfold HT.sIx
  dsimp only
  split <;> omega
 rw [cut, e1, e2]
 simp
def Hv (X : W) (H : Cells) (δ : DSt) (h' : Cells) : Prop := (∃ a b c, δ = [some X, a, b, c]) /\ h' = H
theorem c_look_over {xs : List De} (H : His xs) : callD T (d+10) "look_over" [.d (.tuple (xs.map De.dat))] h = some (.none, h) := by
 have hd : ∀ x ∈ xs, ∀ h, callD T (d+9) "is_deed" [.d x.dat] h = some (.bool true, h) := fun x hx h => c_is_deed d h (H.gd x hx)
 have hg : ∀ x y h, callD T (d+9) "go_together" [.d x.dat, .d y.dat] h = some (.bool (tog x y), h) := fun x y h => c_go_together (d+7) h x y
 have hl := H.ln
 simp only [u_look_over, YE_d, YF_d, YG_d, YJ_d, YK_d, YN_d, YP_d, YQ_d, YC_d]
 generalize callD T (d+9) = f at *
 refine end_of ?_
 refine seq_step [some (.d (.tuple (xs.map De.dat))), none, none, none] h (by simp [isi, tyOf]; omega) ?_
 dsimp only
 refine seq_stepE (Hv (.d (.tuple (xs.map De.dat))) h) ?_ ?_
 ·simp only [xb_ap, xVar_ap, List.getElem?_cons_zero, bs, seqD_t, enum_d]
  refine forX_inv2 (Hv (.d (.tuple (xs.map De.dat))) h) _ ?_ _ _ ⟨⟨_, _, _, rfl⟩, rfl⟩
  rintro x hx δ h' ⟨⟨a, b, c, rfl⟩, rfl⟩
  obtain ⟨q, hq, rfl⟩ := List.mem_map.mp hx
  have hm : q.1 ∈ xs := List.mem_of_getElem? (List.mem_zipIdx_iff_getElem?.mp hq)
  refine ⟨[some (.d (.tuple (xs.map De.dat))), some (.d (.int q.2)), some (.d q.1.dat), c], h', by simp [qD, xTupG, gRun], [some (.d (.tuple (xs.map De.dat))), some (.d (.int q.2)), some (.d q.1.dat), c], h', ?_, ⟨_, _, _, rfl⟩, rfl⟩
  simp [hd q.1 hm]
 ·rintro δ h' ⟨⟨a, b, c, rfl⟩, rfl⟩
  dsimp only
  refine seq_stepE (Hv (.d (.tuple (xs.map De.dat))) h') ?_ fun δ h2 j => ⟨δ, h2, rfl, by rw [j.2]; simp⟩
  simp only [xb_ap, xVar_ap, List.getElem?_cons_zero, bs, seqD_t, enum_d]
  refine forX_inv2 (Hv (.d (.tuple (xs.map De.dat))) h') _ ?_ _ _ ⟨⟨_, _, _, rfl⟩, rfl⟩
  rintro x hx δ h2 ⟨⟨a, b, c, rfl⟩, rfl⟩
  obtain ⟨q, hq, rfl⟩ := List.mem_map.mp hx
  have hi := List.mem_zipIdx_iff_getElem?.mp hq
  have hlt : q.2 < xs.length := (List.getElem?_eq_some_iff.mp hi).1
  refine ⟨[some (.d (.tuple (xs.map De.dat))), some (.d (.int q.2)), b, some (.d q.1.dat)], h2, by simp [qD, xTupG, gRun], [some (.d (.tuple (xs.map De.dat))), some (.d (.int q.2)), b, some (.d q.1.dat)], h2, ?_, ⟨_, _, _, rfl⟩, rfl⟩
  have hc := cut_take (xs.map De.dat) q.2 (by simp; omega)
  have hall : ∀ y ∈ xs.take q.2, tog q.1 y = true := fun y hy => by
   obtain ⟨j, hj, rfl⟩ := List.mem_iff_getElem.mp hy
   have hj' : j < q.2 := by simp at hj; omega
   have := List.pairwise_iff_getElem.mp H.tg j q.2 (by omega) hlt hj'
   have e : xs[q.2] = q.1 := (List.getElem?_eq_some_iff.mp hi).2
   rw [e] at this
   rw [List.getElem_take]
   exact tog_symm this
  have hcomp : ∀ all, compX (fun (w : W) (δ : DSt) (h : Cells) => some (List.set δ 0 (some w), h)) (xpure true) (xb (xb (xVar 1) fun w => xb (xb (xVar 0) fun w => xb (xpure []) fun ws => xpure (w :: ws)) fun ws => xpure (w :: ws)) fun ws x h => Option.bind (f "go_together" ws h) fun p => some (W.d p.1, p.2)) none all ((xs.take q.2).map De.dat) [none, some (.d q.1.dat)] h2 [] = some ((xs.take q.2).map fun y => .bool (tog q.1 y), h2) := fun all => by
   rw [comp_g De.dat (fun _ => true) (fun y => .bool (tog q.1 y)) (fun δ => ∃ u, δ = [u, some (.d q.1.dat)]) (xs.take q.2) _ _ ⟨_, rfl⟩, filter_true, List.nil_append]
   rintro y _ δ ⟨u, rfl⟩
   exact ⟨[some (.d y.dat), some (.d q.1.dat)], by simp, ⟨_, rfl⟩, rfl, fun _ => by simp [hg]⟩
  have hA : ((xs.take q.2).map fun y => tog q.1 y).all id = true := by
   rw [List.all_map, List.all_eq_true]
   exact fun y hy => hall y hy
  rw [<- List.map_take] at hc
  have hb := all_true (p := fun y => tog q.1 y) hall
  simp only [List.map_take] at hcomp hb hA hc
  simp [hc, hcomp, xFrz, hb]
  rw [if_neg]
  ·rfl
  rw [<- List.map_take]
  intro z
  obtain ⟨y, hy, e⟩ := List.mem_map.mp z
  rw [hall y hy] at e
  cases e
end K08
namespace K08
open PySem PySem.Spec PyProof.Rows L2 DL CI SJ ST
variable (d : Nat) (h : Cells)
abbrev G0 : XG := fun (w : W) (δ : DSt) (h : Cells) => some (List.set δ 0 (some w), h)
theorem ints_hd (xs : List De) : intsD (xs.map fun x => PyData.int x.hd) = some (xs.map (·.hd)) := by
 have := ints_map_int (xs.map (·.hd))
 rwa [List.map_map] at this
theorem comp_hd (xs : List De) (all : List PyData) : compX G0 (xpure true) (xb (xVar 0) fun x => xb (xpure (W.d (PyData.int 0))) fun y x_1 h => xIx x y h) none all (xs.map De.dat) [none] h [] = some (xs.map fun x => .int x.hd, h) := by
 rw [comp_g De.dat (fun _ => true) (fun x => .int x.hd) (fun δ => ∃ u, δ = [u]) xs _ _ ⟨_, rfl⟩, filter_true, List.nil_append]
 rintro y _ δ ⟨u, rfl⟩
 exact ⟨[some (.d y.dat)], by simp, ⟨_, rfl⟩, rfl, fun _ => by simp [ix0]⟩
def handsD (xs : List De) : PyData := .tuple ((srt (ST.dd (xs.map (·.hd)))).map .int)
theorem c_hands_in {xs : List De} (hl : xs.length <= 62) : callD T (d+1) "hands_in" [.d (.tuple (xs.map De.dat))] h = some (handsD xs, h) := by
 have hc := comp_hd h xs
 simp [u_hands_in, xFrz, hc, ints_hd, hl, handsD]
theorem keys_of (xs : List De) : ∀ qs : Qs, (∀ q ∈ qs, xs[q.2]? = some q.1) -> keysD (xs.map De.dat) 1 (qs.map fun q => (q.2 : Int)) = some (qs.map fun q => q.1.b)
 | [], _ => rfl
 | q :: r, hq => by
  have e := hq q List.mem_cons_self
  have ih := keys_of xs r fun y hy => hq y (List.mem_cons_of_mem _ hy)
  rw [List.map_cons, keysD]
  have e1 : atI (xs.map De.dat) (q.2 : Int) = some q.1.dat := atI_nat (by rw [List.getElem?_map, e]; rfl)
  rw [e1]
  simp [De.dat, ih]
theorem comp_num (xs : List De) (j : Int) (all : List PyData) : compX (xTupG [G0, fun (w : W) (δ : DSt) (h : Cells) => some (List.set δ 1 (some w), h)]) (xC1 CmpOp.Eq (xb (xVar 1) fun x => xb (xpure (W.d (PyData.int 0))) fun y x_1 h => xIx x y h) (xVar 2)) (xVar 0) none all (xs.zipIdx.map qD) [none, none, some (.d (.int j))] h [] = some ((hn xs j).map .int, h) := by
 rw [comp_g qD (fun q => decide (q.1.hd = j)) (fun q => .int q.2) (fun δ => ∃ u v, δ = [u, v, some (.d (.int j))]) xs.zipIdx _ _ ⟨_, _, rfl⟩, List.nil_append]
 ·simp [hn, hq, List.map_map, Function.comp_def]
 ·rintro q _ δ ⟨u, v, rfl⟩
  exact ⟨[some (.d (.int q.2)), some (.d q.1.dat), some (.d (.int j))], by simp [qD], ⟨_, _, rfl⟩, by simp [ix0], fun _ => by simp⟩
theorem hn_len (xs : List De) (j : Int) : (hn xs j).length <= xs.length := by
 unfold hn hq
 rw [List.length_map]
 refine Nat.le_trans (List.length_filter_le _ _) ?_
 simp
theorem sk_ap {xs : List De} (H : His xs) (j : Int) (a : Option W) (R : Cells) : xSK 0 1 208 { line := 114, col := 37, endLine := 114, endCol := 70 } (Str.ofString "of_hand" ++ Str.ofString ".<locals>." ++ Str.ofString "<lambda>") [.d (.list ((hn xs j).map .int))] [some (.d (.tuple (xs.map De.dat))), a, some (.d (.list ((hn xs j).map .int)))] (tc :: R) = some (.d (.list (((hp xs j).map (·.2)).map .int)), tc :: R) := by
 have hk : keysD (xs.map De.dat) 1 (hn xs j) = some (hk xs j) := keys_of xs _ fun q hq => (hq_mem hq).1
 have hl : (hn xs j).length <= 62 := Nat.le_trans (hn_len xs j) (by have := H.ln; omega)
 have ht : isT (tc :: R)[0]? 208 { line := 114, col := 37, endLine := 114, endCol := 70 } (Str.ofString "of_hand" ++ Str.ofString ".<locals>." ++ Str.ofString "<lambda>") = true := by
  show isT (some tc) _ _ _ = true
  decide +kernel
 unfold xSK
 simp only [List.getElem?_cons_zero, ref_d, ints_map_int, hk, bs]
 rw [if_pos ⟨hl, hk_nd H j, ht⟩, hp_snd]
theorem c_of_hand {xs : List De} (H : His xs) (j : Int) (R : Cells) : callD T (d+1) "of_hand" [.d (.tuple (xs.map De.dat)), .d (.int j)] (tc :: R) = some (.tuple (((hp xs j).map (·.2)).map .int), tc :: R) := by
 have hc := comp_num (tc :: R) xs j
 have hs := sk_ap H j (some (.d (.int j))) R
 simp [u_of_hand, enum_d, hc, xFrz, hs, -List.map_map]
theorem c_really_ahead {xs : List De} {i k : Nat} {x y : De} (hi : xs[i]? = some x) (hk : xs[k]? = some y) : callD T (d+2) "really_ahead" [.d (.tuple (xs.map De.dat)), .d (.int i), .d (.int k)] h = some (.bool (eb x y.b), h) := by
 have e1 : atI (xs.map De.dat) (i : Int) = some x.dat := atI_nat (by rw [List.getElem?_map, hi]; rfl)
 have e2 : atI (xs.map De.dat) (k : Int) = some y.dat := atI_nat (by rw [List.getElem?_map, hk]; rfl)
 simp [u_really_ahead, e1, e2, ix1]
def ended (xs : List De) (t : Int) : List De := xs.filter fun x => eb x t
def later (xs : List De) (t : Int) : List De := xs.filter fun x => decide (t <= x.b)
def quiet (xs : List De) (t : Int) : Bool := decide (0 < (ended xs t).length) && (decide (0 < (later xs t).length) && decide ((ended xs t).length + (later xs t).length = xs.length))
theorem comp_ended {tt : XR Bool} (xs : List De) (t : Int) (all : List PyData) (htt : ∀ y : De, tt [some (.d y.dat), some (.d (.int t))] h = some (eb y t, h)) : compX G0 tt (xVar 0) none all (xs.map De.dat) [none, some (.d (.int t))] h [] = some ((ended xs t).map De.dat, h) := by
 rw [comp_g De.dat (fun x => eb x t) De.dat (fun δ => ∃ u, δ = [u, some (.d (.int t))]) xs _ _ ⟨_, rfl⟩, List.nil_append]
 ·rfl
 ·rintro y _ δ ⟨u, rfl⟩
  exact ⟨[some (.d y.dat), some (.d (.int t))], by simp, ⟨_, rfl⟩, htt y, fun _ => by simp⟩
theorem comp_later (xs : List De) (t : Int) (all : List PyData) : compX G0 (xC1 CmpOp.GtE (xb (xVar 0) fun x => xb (xpure (W.d (PyData.int 1))) fun y x_1 h => xIx x y h) (xVar 1)) (xVar 0) none all (xs.map De.dat) [none, some (.d (.int t))] h [] = some ((later xs t).map De.dat, h) := by
 rw [comp_g De.dat (fun x => decide (t <= x.b)) De.dat (fun δ => ∃ u, δ = [u, some (.d (.int t))]) xs _ _ ⟨_, rfl⟩, List.nil_append]
 ·rfl
 ·rintro y _ δ ⟨u, rfl⟩
  exact ⟨[some (.d y.dat), some (.d (.int t))], by simp, ⟨_, rfl⟩, by simp [ix1], fun _ => by simp⟩
theorem comp_below (xs : List De) (t : Int) (all : List PyData) : compX G0 (xb (xC1 CmpOp.IsNot (xb (xVar 0) fun x => xb (xpure (W.d (PyData.int 2))) fun y x_1 h => xIx x y h) (xpure (W.d PyData.none))) fun c => if c = true then xC1 CmpOp.Lt (xb (xVar 0) fun x => xb (xpure (W.d (PyData.int 2))) fun y x_1 h => xIx x y h) (xVar 1) else xpure false) (xVar 0) none all (xs.map De.dat) [none, some (.d (.int t))] h [] = some ((ended xs t).map De.dat, h) := by
 rw [comp_g De.dat (fun x => eb x t) De.dat (fun δ => ∃ u, δ = [u, some (.d (.int t))]) xs _ _ ⟨_, rfl⟩, List.nil_append]
 ·rfl
 ·rintro y _ δ ⟨u, rfl⟩
  refine ⟨[some (.d y.dat), some (.d (.int t))], by simp, ⟨_, rfl⟩, ?_, fun _ => by simp⟩
  obtain ⟨hd, b, e, c, a⟩ := y
  cases e <;> simp [ix2, eb]
theorem c_is_quiet (xs : List De) (t : Int) : callD T (d+2) "is_quiet" [.d (.tuple (xs.map De.dat)), .d (.int t)] h = some (.bool (quiet xs t), h) := by
 have h2 := comp_later h xs t
 simp only [u_is_quiet, YE_d, YF_d, YG_d, YJ_d, YK_d, YN_d, YP_d, YQ_d, YC_d, YO_d, YV_d, YI_d, YW_d]
 have h1 := fun tt all => comp_ended (tt := tt) h xs t all
 simp [xFrz, h1, h2]
 have e : (((ended xs t).length : Int) + (later xs t).length = xs.length) ↔ ((ended xs t).length + (later xs t).length = xs.length) := by omega
 unfold quiet
 by_cases q1 : 0 < (ended xs t).length
 ·by_cases q2 : 0 < (later xs t).length
  ·simp [q1, q2, h1, h2, e]
  ·simp [q1, q2, h1, h2]
 ·simp [q1, h1, h2]
theorem de_plain {x : De} (G : Good x) (n : Nat) : plainB (n + 3) x.dat = true := by
 obtain ⟨hd, b, e, c, a⟩ := x
 have := ca_plain G.ca n
 cases e <;> simp [De.dat, De.an, this.1, this.2]
theorem des_plain {xs : List De} (G : ∀ x ∈ xs, Good x) (n : Nat) : plainsB (n + 3) (xs.map De.dat) = true := by
 induction xs with
 | nil => simp
 | cons x r ih => simp [de_plain (G x List.mem_cons_self), ih fun y hy => G y (List.mem_cons_of_mem _ hy)]
theorem eq_nil {xs : List De} (G : ∀ x ∈ xs, Good x) : xEq (.d (.list (xs.map De.dat))) (.d (.list [])) h = some (decide (xs.length = 0)) := by
 rw [xEq_d, if_pos (by simp [des_plain G 60])]
 cases xs <;> simp [PyData.eqv, PyData.eqvAll]
theorem c__law_quiet {xs : List De} (H : His xs) (t : Int) : callD T (d+1) "_law_quiet" [.d (.tuple (xs.map De.dat)), .d (.int t)] h = some (.bool (quiet xs t), h) := by
 have h1 := comp_below h xs t
 have h2 := comp_later h xs t
 have h3 := eq_nil h (xs := ended xs t) fun x hx => H.gd x (List.mem_filter.mp hx).1
 have h4 := eq_nil h (xs := later xs t) fun x hx => H.gd x (List.mem_filter.mp hx).1
 simp [u__law_quiet, xFrz, h1, h2, h3, h4, szl]
 unfold quiet
 by_cases q1 : ended xs t = []
 ·simp [q1]
 ·have q1' : 0 < (ended xs t).length := List.length_pos_iff.mpr q1
  by_cases q2 : later xs t = []
  ·rw [q2] at h4
   have h4' : xEq (.d (.list [])) (.d (.list [])) h = some true := by simpa using h4
   simp [q1, q2, h4', szl]
  ·have q2' : 0 < (later xs t).length := List.length_pos_iff.mpr q2
   have e : (((ended xs t).length : Int) + (later xs t).length = xs.length) ↔ ((ended xs t).length + (later xs t).length = xs.length) := by omega
   simp [q1, q2, q1', q2', e, h4, szl]
def endT (xs : List De) : List Int := (xs.filter fun x => x.e.isSome).map fun x => x.e.getD 0 + 1
theorem comp_endT (xs : List De) (all : List PyData) : compX G0 (xC1 CmpOp.IsNot (xb (xVar 0) fun x => xb (xpure (W.d (PyData.int 2))) fun y x_1 h => xIx x y h) (xpure (W.d PyData.none))) (xb (xb (xVar 0) fun x => xb (xpure (W.d (PyData.int 2))) fun y x_1 h => xIx x y h) fun u => xb (xpure (W.d (PyData.int 1))) fun w x h => xBin .Add u w h) none all (xs.map De.dat) [none] h [] = some ((endT xs).map .int, h) := by
 rw [comp_g De.dat (fun x => x.e.isSome) (fun x => .int (x.e.getD 0 + 1)) (fun δ => ∃ u, δ = [u]) xs _ _ ⟨_, rfl⟩, List.nil_append]
 ·simp [endT, Function.comp_def]
 ·rintro y _ δ ⟨u, rfl⟩
  refine ⟨[some (.d y.dat)], by simp, ⟨_, rfl⟩, ?_, fun hp => ?_⟩
  ·obtain ⟨hd, b, e, c, a⟩ := y
   cases e <;> simp [ix2]
  ·obtain ⟨hd, b, e, c, a⟩ := y
   cases e with
   | none => cases hp
   | some t => simp [ix2]
theorem endT_len (xs : List De) : (endT xs).length <= xs.length := by
 unfold endT
 rw [List.length_map]
 exact List.length_filter_le _ _
theorem srtI_ap (ns : List Int) (hl : ns.length <= 62) : xSrtI [.d (.list (ns.map .int))] h = some (.d (.list ((srt ns).map .int)), h) := by
 unfold xSrtI
 simp only [ref_d, ints_map_int]
 rw [if_pos hl]
def quietD (xs : List De) : PyData := .tuple (((srt (endT xs)).filter (quiet xs)).map .int)
theorem c_quiet_times {xs : List De} (hl : xs.length <= 62) : callD T (d+3) "quiet_times" [.d (.tuple (xs.map De.dat))] h = some (quietD xs, h) := by
 have h1 := comp_endT h xs
 have h2 := srtI_ap h (endT xs) (Nat.le_trans (endT_len xs) hl)
 have h3 : ∀ {tt : XR Bool} (all : List PyData), (∀ y : Int, tt [some (.d (.int y)), some (.d (.tuple (xs.map De.dat)))] h = some (quiet xs y, h)) -> compX G0 tt (xVar 0) none all ((srt (endT xs)).map .int) [none, some (.d (.tuple (xs.map De.dat)))] h [] = some (((srt (endT xs)).filter (quiet xs)).map .int, h) := fun {tt} all htt => by
  rw [comp_g PyData.int (quiet xs) PyData.int (fun δ => ∃ u, δ = [u, some (.d (.tuple (xs.map De.dat)))]) _ _ _ ⟨_, rfl⟩, List.nil_append]
  rintro y _ δ ⟨u, rfl⟩
  exact ⟨[some (.d (.int y)), some (.d (.tuple (xs.map De.dat)))], by simp, ⟨_, rfl⟩, htt y, fun _ => by simp⟩
 simp [u_quiet_times, xFrz, h1, h2, h3, quietD, c_is_quiet]
end K08
namespace K08
open PySem PySem.Spec PyProof.Rows L2 DL CI SJ ST
variable (d : Nat) (h : Cells)
mutual
theorem plain_refl : ∀ (x : PyData) (n : Nat), plainB n x = true -> PyData.eqv x x = true
 | .none, _, _ => by simp [PyData.eqv]
 | .bool b, _, _ => by cases b <;> simp [PyData.eqv]
 | .int i, _, _ => by simp
 | .str s, _, _ => by simp
 | .list xs, n, h => by
  cases n with
  | zero => simp [plainB] at h
  | succ n => rw [PyData.eqv]; exact plains_refl xs n (by simpa using h)
 | .tuple xs, n, h => by
  cases n with
  | zero => simp [plainB] at h
  | succ n => rw [PyData.eqv]; exact plains_refl xs n (by simpa using h)
 | .dict _, n, h => by cases n <;> simp [plainB] at h
theorem plains_refl : ∀ (xs : List PyData) (n : Nat), plainsB n xs = true -> PyData.eqvAll xs xs = true
 | [], _, _ => by simp [PyData.eqvAll]
 | x :: r, n, h => by
  rw [pls_cons, Bool.and_eq_true] at h
  rw [PyData.eqvAll, plain_refl x n h.1, plains_refl r n h.2]; rfl
end
theorem eq_same {x : PyData} (hp : plainB 64 x = true) (h : Cells) : xEq (.d x) (.d x) h = some true := by
 rw [xEq_d, hp, plain_refl x 64 hp]; rfl
theorem eq_tints (ns : List Int) (h : Cells) : xEq (.d (.tuple (ns.map .int))) (.d (.tuple (ns.map .int))) h = some true := eq_same (by simp [ints_plain]) h
theorem eq_lints (ns : List Int) (h : Cells) : xEq (.d (.list (ns.map .int))) (.d (.list (ns.map .int))) h = some true := eq_same (by simp [ints_plain]) h
theorem comp_beg (xs : List De) (j : Int) (all : List PyData) : compX G0 (xC1 CmpOp.Eq (xb (xVar 0) fun x => xb (xpure (W.d (PyData.int 0))) fun y x_1 h => xIx x y h) (xVar 1)) (xb (xVar 0) fun x => xb (xpure (W.d (PyData.int 1))) fun y x_1 h => xIx x y h) none all (xs.map De.dat) [none, some (.d (.int j))] h [] = some ((hk xs j).map .int, h) := by
 rw [comp_g De.dat (fun x => decide (x.hd = j)) (fun x => .int x.b) (fun δ => ∃ u, δ = [u, some (.d (.int j))]) xs _ _ ⟨_, rfl⟩, List.nil_append, hk_eq, List.map_map]
 ·rfl
 ·rintro y _ δ ⟨u, rfl⟩
  exact ⟨[some (.d y.dat), some (.d (.int j))], by simp, ⟨_, rfl⟩, by simp [ix0], fun _ => by simp [ix1]⟩
theorem comp_at (xs : List De) (j : Int) (all : List PyData) : compX G0 (xpure true) (xb (xb (xVar 1) fun x => xb (xVar 0) fun y x_2 h => xIx x y h) fun x => xb (xpure (W.d (PyData.int 1))) fun y x_1 h => xIx x y h) none all (((hp xs j).map (·.2)).map .int) [none, some (.d (.tuple (xs.map De.dat)))] h [] = some ((srt (hk xs j)).map .int, h) := by
 rw [List.map_map, comp_g (PyData.int ∘ Prod.snd) (fun _ => true) (fun p : Int × Int => .int p.1) (fun δ => ∃ u, δ = [u, some (.d (.tuple (xs.map De.dat)))]) (hp xs j) _ _ ⟨_, rfl⟩, filter_true, List.nil_append, <- hp_fst, List.map_map]
 ·rfl
 ·rintro p hp' δ ⟨u, rfl⟩
  obtain ⟨n, x, rfl, e1, e2⟩ := hp_mem hp'
  have e3 : atI (xs.map De.dat) (n : Int) = some x.dat := atI_nat (by rw [List.getElem?_map, e1]; rfl)
  exact ⟨[some (.d (.int n)), some (.d (.tuple (xs.map De.dat)))], by simp, ⟨_, rfl⟩, rfl, fun _ => by simp [e3, ix1]⟩
theorem comp_else (xs : List De) (j : Int) (all : List PyData) : compX G0 (xC1 CmpOp.NotEq (xb (xb (xVar 2) fun x => xb (xVar 0) fun y x_2 h => xIx x y h) fun x => xb (xpure (W.d (PyData.int 0))) fun y x_1 h => xIx x y h) (xVar 1)) (xVar 0) none all (((hp xs j).map (·.2)).map .int) [none, some (.d (.int j)), some (.d (.tuple (xs.map De.dat)))] h [] = some ([], h) := by
 rw [List.map_map, comp_g (PyData.int ∘ Prod.snd) (fun _ => false) (fun p : Int × Int => .int p.1) (fun δ => ∃ u, δ = [u, some (.d (.int j)), some (.d (.tuple (xs.map De.dat)))]) (hp xs j) _ _ ⟨_, rfl⟩]
 ·simp
 ·rintro p hp' δ ⟨u, rfl⟩
  obtain ⟨n, x, rfl, e1, e2⟩ := hp_mem hp'
  have e3 : atI (xs.map De.dat) (n : Int) = some x.dat := atI_nat (by rw [List.getElem?_map, e1]; rfl)
  exact ⟨[some (.d (.int n)), some (.d (.int j)), some (.d (.tuple (xs.map De.dat)))], by simp, ⟨_, rfl⟩, by simp [e3, ix0, e2], fun z => by cases z⟩
theorem hk_len (xs : List De) (j : Int) : (hk xs j).length <= xs.length := by
 rw [hk_eq, List.length_map]
 exact List.length_filter_le _ _
def Rv (X : W) (H : Cells) (δ : DSt) (h' : Cells) : Prop := (∃ a b c e f g i j, δ = [some X, a, b, c, e, f, g, i, j]) /\ h' = H
theorem end_rt {x : Option (Fl × Cells)} {f : Fl × Cells -> Option (Fl × Cells)} {n : Nat} {z : PyData} {H : Cells} (δ' : DSt) (h' : Cells) (e : x = some (.nx δ', h')) (k : (f (.nx δ', h')).bind (ends n) = some (z, H)) : (x.bind f).bind (ends n) = some (z, H) := by
 rw [e]
 exact k
theorem end_rtE {x : Option (Fl × Cells)} {f : Fl × Cells -> Option (Fl × Cells)} {n : Nat} {z : PyData} {H : Cells} (J : DSt -> Cells -> Prop) (e : ∃ δ' h', x = some (.nx δ', h') /\ J δ' h') (k : ∀ δ' h', J δ' h' -> (f (.nx δ', h')).bind (ends n) = some (z, H)) : (x.bind f).bind (ends n) = some (z, H) := by
 obtain ⟨δ', h', e, j⟩ := e
 rw [e]
 exact k δ' h' j
theorem c_right {xs : List De} (H : His xs) (R : Cells) : callD T (d+4) "_law_right" [.d (.tuple (xs.map De.dat))] (tc :: R) = some (.bool true, tc :: R) := by
 have hl := H.ln
 have a1 : ∀ h, callD T (d+3) "hands_in" [.d (.tuple (xs.map De.dat))] h = some (handsD xs, h) := fun h => c_hands_in (d+2) h (by omega)
 have a2 : ∀ j : Int, callD T (d+3) "of_hand" [.d (.tuple (xs.map De.dat)), .d (.int j)] (tc :: R) = some (.tuple (((hp xs j).map (·.2)).map .int), tc :: R) := fun j => c_of_hand (d+2) H j R
 have a3 : ∀ {i k : Nat} {x y : De}, xs[i]? = some x -> xs[k]? = some y -> ∀ h, callD T (d+3) "really_ahead" [.d (.tuple (xs.map De.dat)), .d (.int i), .d (.int k)] h = some (.bool (eb x y.b), h) := fun hi hk h => c_really_ahead (d+1) h hi hk
 have a4 : ∀ h, callD T (d+3) "quiet_times" [.d (.tuple (xs.map De.dat))] h = some (quietD xs, h) := fun h => c_quiet_times d h (by omega)
 have a5 : ∀ t h, callD T (d+3) "_law_quiet" [.d (.tuple (xs.map De.dat)), .d (.int t)] h = some (.bool (quiet xs t), h) := fun t h => c__law_quiet (d+2) h H t
 have b1 := comp_hd (tc :: R) xs
 have b2 := fun j => comp_beg (tc :: R) xs j
 have b3 := fun j => comp_at (tc :: R) xs j
 have b4 := fun j => comp_else (tc :: R) xs j
 have b5 := comp_endT (tc :: R) xs
 have s1 := fun j => srtI_ap (tc :: R) (hk xs j) (Nat.le_trans (hk_len xs j) (by omega))
 have s2 := srtI_ap (tc :: R) (endT xs) (Nat.le_trans (endT_len xs) (by omega))
 have q1 : ∀ h, xEq (.d (handsD xs)) (.d (handsD xs)) h = some true := eq_tints _
 have q2 : ∀ h, xEq (.d (quietD xs)) (.d (quietD xs)) h = some true := eq_tints _
 have q3 : ∀ h, xEq (.d (.list [])) (.d (.list [])) h = some true := fun h => eq_lints [] h
 have r6 : rngB 0 6 = true := by decide
 have rl : rngB 0 (xs.length : Int) = true := rngB_nat (i := 0) (j := xs.length) (by omega) (by omega)
 have b6 : ∀ {tt : XR Bool} (all : List PyData), (∀ y : Int, tt [some (.d (.int y)), some (.d (.tuple (xs.map De.dat)))] (tc :: R) = some (quiet xs y, tc :: R)) -> compX G0 tt (xVar 0) none all ((srt (endT xs)).map .int) [none, some (.d (.tuple (xs.map De.dat)))] (tc :: R) [] = some (((srt (endT xs)).filter (quiet xs)).map .int, tc :: R) := fun {tt} all htt => by
  rw [comp_g PyData.int (quiet xs) PyData.int (fun δ => ∃ u, δ = [u, some (.d (.tuple (xs.map De.dat)))]) _ _ _ ⟨_, rfl⟩, List.nil_append]
  rintro y _ δ ⟨u, rfl⟩
  exact ⟨[some (.d (.int y)), some (.d (.tuple (xs.map De.dat)))], by simp, ⟨_, rfl⟩, htt y, fun _ => by simp⟩
 have hh : ∀ h, xSS [.d (.list (xs.map fun x => PyData.int x.hd))] h = some (.d (.list ((srt (ST.dd (xs.map (·.hd)))).map .int)), h) := fun h => by
  rw [ss_ap, ints_hd]
  dsimp only
  rw [if_pos (by rw [List.length_map]; omega)]
 simp only [u__law_right, YE_d, YF_d, YG_d, YJ_d, YK_d, YN_d, YP_d, YQ_d, YC_d, YO_d, YV_d, YI_d, YW_d, YB_d, YZ_d]
 generalize callD T (d+3) = f at *
 generalize hE : tc :: R = E at *
 refine end_rt [some (.d (.tuple (xs.map De.dat))), none, none, none, none, none, none, none, none] E ?_ ?_
 ·simp [a1, b1, xFrz, hh]
  rw [show PyData.tuple ((srt (ST.dd (xs.map (·.hd)))).map .int) = handsD xs from rfl, q1]
  simp
 dsimp only
 refine end_rtE (Rv (.d (.tuple (xs.map De.dat))) E) ?_ ?_
 ·simp only [xb_ap, xpure_ap, bs, r6, if_true]
  refine forX_inv2 (Rv (.d (.tuple (xs.map De.dat))) E) _ ?_ _ _ ⟨⟨_, _, _, _, _, _, _, _, rfl⟩, rfl⟩
  rintro x hx δ h' ⟨⟨x1, x2, x3, x4, x5, x6, x7, x8, rfl⟩, rfl⟩
  obtain ⟨k, _, rfl⟩ := rng_mem hx
  generalize ((0 : Int) + (k : Int)) = j
  refine ⟨[some (.d (.tuple (xs.map De.dat))), some (.d (.int j)), x2, x3, x4, x5, x6, x7, x8], h', by simp, ?_⟩
  refine seq_step [some (.d (.tuple (xs.map De.dat))), some (.d (.int j)), some (.d (.list ((srt (hk xs j)).map .int))), x3, x4, x5, x6, x7, x8] h' (by simp [xFrz, b2, s1]) ?_
  dsimp only
  refine seq_step [some (.d (.tuple (xs.map De.dat))), some (.d (.int j)), some (.d (.list ((srt (hk xs j)).map .int))), some (.d (.tuple (((hp xs j).map (·.2)).map .int))), x4, x5, x6, x7, x8] h' (by simp [a2, -List.map_map]) ?_
  dsimp only
  refine seq_step [some (.d (.tuple (xs.map De.dat))), some (.d (.int j)), some (.d (.list ((srt (hk xs j)).map .int))), some (.d (.tuple (((hp xs j).map (·.2)).map .int))), x4, x5, x6, x7, x8] h' (by simp [isi, tyOf, xFrz, b3, eq_lints, -List.map_map]) ?_
  dsimp only
  refine seq_step [some (.d (.tuple (xs.map De.dat))), some (.d (.int j)), some (.d (.list ((srt (hk xs j)).map .int))), some (.d (.tuple (((hp xs j).map (·.2)).map .int))), x4, x5, x6, x7, x8] h' (by simp [xFrz, b4, q3, szl, -List.map_map]) ?_
  exact ⟨_, _, rfl, ⟨_, _, _, _, _, _, _, _, rfl⟩, rfl⟩
 ·rintro δ h' ⟨⟨x1, x2, x3, x4, x5, x6, x7, x8, rfl⟩, rfl⟩
  dsimp only
  refine end_rtE (Rv (.d (.tuple (xs.map De.dat))) h') ?_ ?_
  ·simp only [xb_ap, xpure_ap, xVar_ap, List.getElem?_cons_zero, bs, len_d, List.length_map, rl, if_true]
   refine forX_inv2 (Rv (.d (.tuple (xs.map De.dat))) h') _ ?_ _ _ ⟨⟨_, _, _, _, _, _, _, _, rfl⟩, rfl⟩
   rintro x hx δ h' ⟨⟨x1, x2, x3, x4, x5, x6, x7, x8, rfl⟩, rfl⟩
   obtain ⟨k, hk, rfl⟩ := rng_mem hx
   have hk : k < xs.length := by omega
   rw [Int.zero_add]
   refine ⟨[some (.d (.tuple (xs.map De.dat))), x1, x2, x3, some (.d (.int k)), x5, x6, x7, x8], h', by simp, ?_⟩
   refine seq_stepE (fun δ h2 => (∃ a b c e f g i, δ = [some (.d (.tuple (xs.map De.dat))), a, b, c, some (.d (.int k)), e, f, g, i]) /\ h2 = h') ?_ ?_
   ·simp only [xb_ap, xpure_ap, xVar_ap, List.getElem?_cons_zero, bs, len_d, List.length_map, rl, if_true]
    refine forX_inv2 (fun δ h2 => (∃ a b c e f g i, δ = [some (.d (.tuple (xs.map De.dat))), a, b, c, some (.d (.int k)), e, f, g, i]) /\ h2 = h') _ ?_ _ _ ⟨⟨_, _, _, _, _, _, _, rfl⟩, rfl⟩
    rintro x hx δ h' ⟨⟨x1, x2, x3, x5, x6, x7, x8, rfl⟩, rfl⟩
    obtain ⟨l, hl', rfl⟩ := rng_mem hx
    have hl' : l < xs.length := by omega
    rw [Int.zero_add]
    have g1 : xs[k]? = some xs[k] := List.getElem?_eq_getElem hk
    have g2 : xs[l]? = some xs[l] := List.getElem?_eq_getElem hl'
    have e1 : atI (xs.map De.dat) (k : Int) = some xs[k].dat := atI_nat (by rw [List.getElem?_map, g1]; rfl)
    have e2 : atI (xs.map De.dat) (l : Int) = some xs[l].dat := atI_nat (by rw [List.getElem?_map, g2]; rfl)
    have a3' := a3 g1 g2
    refine ⟨[some (.d (.tuple (xs.map De.dat))), x1, x2, x3, some (.d (.int k)), some (.d (.int l)), x6, x7, x8], h', by simp, ?_⟩
    refine seq_step [some (.d (.tuple (xs.map De.dat))), x1, x2, x3, some (.d (.int k)), some (.d (.int l)), some (.d (.bool (eb xs[k] xs[l].b))), x7, x8] h' (by simp [a3']) ?_
    dsimp only
    refine seq_step [some (.d (.tuple (xs.map De.dat))), x1, x2, x3, some (.d (.int k)), some (.d (.int l)), some (.d (.bool (eb xs[k] xs[l].b))), some (.d (.bool (eb xs[k] xs[l].b))), x8] h' ?_ ?_
    ·generalize xs[k] = y at *
     generalize xs[l] = z at *
     obtain ⟨hd, b, e, c, a⟩ := y
     cases e <;> simp [e1, e2, ix2, ix1, eb]
    dsimp only
    refine seq_step [some (.d (.tuple (xs.map De.dat))), x1, x2, x3, some (.d (.int k)), some (.d (.int l)), some (.d (.bool (eb xs[k] xs[l].b))), some (.d (.bool (eb xs[k] xs[l].b))), x8] h' (by simp [isi, tyOf]) ?_
    exact ⟨_, _, rfl, ⟨_, _, _, _, _, _, _, rfl⟩, rfl⟩
   ·rintro δ h2 ⟨⟨x1, x2, x3, x5, x6, x7, x8, rfl⟩, rfl⟩
    exact ⟨_, _, rfl, ⟨_, _, _, _, _, _, _, _, rfl⟩, rfl⟩
  ·rintro δ h' ⟨⟨x1, x2, x3, x4, x5, x6, x7, x8, rfl⟩, rfl⟩
   dsimp only
   refine end_rt [some (.d (.tuple (xs.map De.dat))), x1, x2, x3, x4, x5, x6, x7, some (.d (.list ((srt (endT xs)).map .int)))] h' (by simp [xFrz, b5, s2]) ?_
   dsimp only
   simp [a4, xFrz, b6, a5]
   rw [show PyData.tuple (((srt (endT xs)).filter (quiet xs)).map .int) = quietD xs from rfl, q2]
   simp
end K08
namespace K08
open PySem PySem.Spec PyProof.Rows L2 DL CI SJ ST
variable (d : Nat) (h : Cells)
theorem c_cell (ns : List Int) (k : Nat) : callD T (d+1) "_law_cell_at" [.d (.list (ns.map .int)), .d (.int k)] h = some (.int (ns.getD k 0), h) := by
 by_cases hk : k < ns.length
 ·have e : atI (ns.map PyData.int) (k : Int) = some (.int (ns.getD k 0)) := atI_nat (by rw [List.getElem?_map, List.getElem?_eq_getElem hk, List.getD_eq_getElem?_getD, List.getElem?_eq_getElem hk]; rfl)
  simp [u__law_cell_at, hk, e]
 ·have e : ns.getD k 0 = 0 := by rw [List.getD_eq_getElem?_getD, List.getElem?_eq_none (by omega)]; rfl
  rw [e]
  simp [u__law_cell_at, hk]
def mixF (n : Int) : Int :=
 ((((n % 2147483647 + 1) * 48271 % 2147483647) * (((n % 2147483647 + 1) * 48271 % 2147483647) / 1009 + 69621) % 2147483647) + 1) * (((((n % 2147483647 + 1) * 48271 % 2147483647) * (((n % 2147483647 + 1) * 48271 % 2147483647) / 1009 + 69621) % 2147483647)) / 757 + 16807) % 2147483629
@[simp] theorem c_mixed (n : Int) : callD T (d+1) "_law_mixed" [.d (.int n)] h = some (.int (mixF n), h) := by
 have h1 := mulOk_r (j := 48271) (by decide) (by decide) (n % 2147483647 + 1)
 have h2 : mulOk ((n % 2147483647 + 1) * 48271 % 2147483647) (((n % 2147483647 + 1) * 48271 % 2147483647) / 1009 + 69621) = true := mulOk_l (by omega) (by omega) _
 have h3 : mulOk (((n % 2147483647 + 1) * 48271 % 2147483647) * (((n % 2147483647 + 1) * 48271 % 2147483647) / 1009 + 69621) % 2147483647 + 1) ((((n % 2147483647 + 1) * 48271 % 2147483647) * (((n % 2147483647 + 1) * 48271 % 2147483647) / 1009 + 69621) % 2147483647) / 757 + 16807) = true := mulOk_l (by omega) (by omega) _
 have e1 : divOk 1009 = true := by decide
 have e2 : divOk 757 = true := by decide
 simp [u__law_mixed, h1, h2, h3, e1, e2, mixF]
def digR (s : S3) (b : Int) : Int := if s.2.1 = 0 /\ 0 < s.1 then s.1 % b else mixF (s.2.2 + 1) / 7 % b
def digS (s : S3) (b : Int) : S3 := if s.2.1 = 0 /\ 0 < s.1 then (s.1 / b, s.2.1, s.2.2) else (s.1, s.2.1, mixF (s.2.2 + 1))
theorem dig_lo (s : S3) {b : Int} (hb : 0 < b) : 0 <= digR s b := by
 unfold digR
 split <;> exact Int.emod_nonneg _ (by omega)
theorem dig_hi (s : S3) {b : Int} (hb : 0 < b) : digR s b < b := by
 unfold digR
 split <;> exact Int.emod_lt_of_pos _ hb
@[simp] theorem c_digit {i : Nat} (s : S3) (b : Int) (hi : i < h.length) (hb : 0 < b) (hb2 : b < 1073741824) : callD T (d+2) "_law_digit" [.c i, .d (.int b)] (h.set i (stL s)) = some (.int (digR s b), h.set i (stL (digS s b))) := by
 have e1 : divOk 7 = true := by decide
 have e2 := divOk_s hb hb2
 by_cases h1 : s.2.1 = 0 <;> by_cases h2 : 0 < s.1 <;> simp [u__law_digit, stL, hi, e1, e2, hb, h1, h2, digR, digS]
theorem c_dig (h : Cells) (s : S3) (b : Int) (hb : 0 < b) (hb2 : b < 1073741824) : callD T (d+2) "_law_digit" [.c h.length, .d (.int b)] (h ++ [stL s]) = some (.int (digR s b), h ++ [stL (digS s b)]) := by
 have := c_digit d (h ++ [stL s]) (i := h.length) s b (by simp) hb hb2
 simpa using this
theorem dig_nat (s : S3) {b : Int} (hb : 0 < b) : ∃ n : Nat, digR s b = n /\ (n : Int) < b := ⟨(digR s b).toNat, by have := dig_lo s hb; omega, by have := dig_lo s hb; have := dig_hi s hb; omega⟩
theorem mul_one (x : PyData) (m : Nat) (h1 : 1 <= m) (h8 : m <= 8) : xBin .Mult (.d (.tuple [x])) (.d (.int m)) h = some (.d (.tuple (List.replicate m x)), h) := by
 rw [bin_mul_t]
 by_cases e : m = 1
 ·subst e; simp
 ·rw [if_neg (by omega), if_pos ⟨by simp, by omega, by omega, by simp [sizeLine_eq]; omega⟩]
  simp
theorem tk1 (h : Cells) (x : Cell) : List.take (List.length h + 1) (h ++ [x]) = h ++ [x] := List.take_of_length_le (by simp)
theorem c_asked (s : S3) : ∃ c a s', CA c a /\ ∀ (d : Nat) (h : Cells), callD T (d+3) "_law_asked" [.c h.length] (h ++ [stL s]) = some (.tuple [c, a], h ++ [stL s']) := by
 obtain ⟨k, ek, hk⟩ := dig_nat s (b := 8) (by decide)
 obtain ⟨n, en, hn⟩ := dig_nat (digS (digS s 8) 9) (b := 7) (by decide)
 have em : (8 : Int) - k = ((8 - k : Nat) : Int) := by omega
 have hm := fun h => mul_one h (.int (digR (digS s 8) 9 - 4)) (8 - k) (by omega) (by omega)
 have h0 : n = 0 \/ n = 1 \/ n = 2 \/ n = 3 \/ n = 4 \/ n = 5 \/ n = 6 := by omega
 have e6 : ∀ a b c e f g i : PyData, atI [a, b, c, e, f, g, i] 6 = some i := fun a b c e f g i => atI_nat (j := 6) (by simp)
 rcases h0 with rfl | rfl | rfl | rfl | rfl | rfl | rfl
 ·refine ⟨_, _, digS (digS (digS s 8) 9) 7, ⟨k, digR (digS s 8) 9 - 4, by omega, .inl ⟨rfl, rfl⟩⟩, fun d h => ?_⟩
  simp [u__law_asked, c_dig, ek, en, em, hm, szl, xFrz, tk1]
 ·refine ⟨_, _, digS (digS (digS s 8) 9) 7, ⟨k, digR (digS s 8) 9 - 4, by omega, .inr (.inl ⟨rfl, rfl⟩)⟩, fun d h => ?_⟩
  simp [u__law_asked, c_dig, ek, en, em, hm, szl, xFrz, tk1]
 ·refine ⟨_, _, digS (digS (digS s 8) 9) 7, ⟨k, digR (digS s 8) 9 - 4, by omega, .inr (.inr (.inl ⟨rfl, rfl⟩))⟩, fun d h => ?_⟩
  simp [u__law_asked, c_dig, ek, en, em, hm, szl, xFrz, tk1]
 ·refine ⟨_, _, digS (digS (digS s 8) 9) 7, ⟨k, digR (digS s 8) 9 - 4, by omega, .inr (.inr (.inr (.inl ⟨rfl, rfl⟩)))⟩, fun d h => ?_⟩
  simp [u__law_asked, c_dig, ek, en, em, hm, szl, xFrz, tk1]
 ·refine ⟨_, _, digS (digS (digS s 8) 9) 7, ⟨k, digR (digS s 8) 9 - 4, by omega, .inr (.inr (.inr (.inr (.inl ⟨rfl, rfl⟩))))⟩, fun d h => ?_⟩
  simp [u__law_asked, c_dig, ek, en, em, hm, szl, xFrz, tk1]
 ·refine ⟨_, _, digS (digS (digS s 8) 9) 7, ⟨k, digR (digS s 8) 9 - 4, by omega, .inr (.inr (.inr (.inr (.inr (.inl ⟨rfl, rfl⟩)))))⟩, fun d h => ?_⟩
  simp [u__law_asked, c_dig, ek, en, em, hm, szl, xFrz, tk1]
 ·refine ⟨_, _, digS (digS (digS s 8) 9) 7, ⟨k, digR (digS s 8) 9 - 4, by omega, .inr (.inr (.inr (.inr (.inr (.inr ⟨rfl, rfl⟩)))))⟩, fun d h => ?_⟩
  simp [u__law_asked, c_dig, ek, en, em, hm, szl, xFrz, tk1, e6]
end K08
namespace K08
open PySem PySem.Spec PyProof.Rows L2 DL CI SJ ST
def uD (t : Int) : PyData × PyData := (.int t, .bool true)
section
variable {G : Cells} {i : Nat}
theorem ref_at {xs : List PyData} (e : G[i]? = some (.l xs)) : ref G (.c i) = some (.list xs) := by
 unfold ref
 simp only [e]
 try rfl
theorem refk_at {xs : List (PyData × PyData)} (e : G[i]? = some (.k xs)) : ref G (.c i) = some (.dict xs) := by
 unfold ref
 simp only [e]
 try rfl
theorem ix_at {xs : List PyData} (e : G[i]? = some (.l xs)) (k : Int) : xIx (.c i) (.d (.int k)) G = (atI xs k).map fun v => (.d v, G) := by
 unfold xIx
 rw [ref_at e]
theorem len_at {xs : List PyData} (e : G[i]? = some (.l xs)) : xLen [.c i] G = some (.d (.int xs.length), G) := by
 unfold xLen
 simp only [ref_at e]
theorem tup_at {xs : List PyData} (e : G[i]? = some (.l xs)) : xTuple [.c i] G = some (.d (.tuple xs), G) := by
 unfold xTuple
 simp only [ref_at e]
theorem max_at {ns : List Int} (e : G[i]? = some (.l (ns.map .int))) (hn : ns ≠ []) : xMax [.c i] G = some (.d (.int (mxI ns)), G) := by
 unfold xMax
 simp only [ref_at e, ints_map_int]
 rw [if_pos hn]
theorem in_at {ns : List Int} (e : G[i]? = some (.l (ns.map .int))) (t : Int) : xIn (.d (.int t)) (.c i) G = some (ns.any fun u => decide (u = t)) := by
 have := in_ints G t ns
 unfold xIn at this ⊢
 rw [ref_at e]
 exact this
theorem ink_at {us : List Int} (e : G[i]? = some (.k (us.map uD))) (t : Int) : xIn (.d (.int t)) (.c i) G = some (us.any fun u => decide (u = t)) := by
 unfold xIn
 rw [refk_at e]
 simp only [ref_d, keyD, List.any_map]
 congr 1
 congr 1
 funext u
 simp [uD, keyD]
theorem mpre_at {xs : List PyData} (e : G[i]? = some (.l xs)) : mpre "append" (.c i) G = true := by
 unfold mpre
 rw [if_pos rfl]
 simp only [e]
 try rfl
end
theorem any_not {us : List Int} {t : Int} (h : t ∉ us) : (us.any fun u => decide (u = t)) = false := by
 rw [List.any_eq_false]
 intro u hu z
 exact h (of_decide_eq_true z ▸ hu)
theorem any_is {us : List Int} {t : Int} (h : t ∈ us) : (us.any fun u => decide (u = t)) = true := List.any_eq_true.mpr ⟨t, h, by simp⟩
theorem put_new {us : List Int} {t : Int} (h : t ∉ us) : putD (us.map uD) (.int t) (.bool true) = (us ++ [t]).map uD := by
 unfold putD
 rw [if_neg]
 ·simp [uD]
 ·rw [List.any_map, Bool.not_eq_true, List.any_eq_false]
  intro u hu z
  simp [uD, keyD] at z
  exact h (z ▸ hu)
theorem pop_new {us : List Int} {t : Int} (h : t ∉ us) : dropD ((us ++ [t]).map uD) (.inl t) = us.map uD := by
 unfold dropD
 rw [List.map_append, List.filter_append, List.filter_eq_self.mpr, List.filter_eq_nil_iff.mpr]
 ·simp
 ·intro p hp; simp at hp; subst hp; simp [uD, keyD]
 ·intro p hp
  obtain ⟨u, hu, rfl⟩ := List.mem_map.mp hp
  simp [uD, keyD]
  intro z; exact h (z ▸ hu)
theorem find_new {us : List Int} {t : Int} (h : t ∉ us) : (((us ++ [t]).map uD).find? fun p => decide (keyD p.1 = some (.inl t))) = some (uD t) := by
 rw [List.map_append, List.find?_append, List.find?_eq_none.mpr]
 ·simp [uD, keyD]
 ·intro p hp
  obtain ⟨u, hu, rfl⟩ := List.mem_map.mp hp
  simp [uD, keyD]
  intro z; exact h (z ▸ hu)
theorem while_free {c : XR Bool} {tb : XS} {us : List Int} {G : Cells} (D : Int -> DSt) (hc : ∀ t, c (D t) G = some (us.any fun u => decide (u = t), G)) (hb : ∀ t, tb (D t) G = some (.nx (D (t + 1)), G)) :
  ∀ (n : Nat) (b : Int), (us.filter fun u => decide (b <= u)).length < n -> ∃ b', b <= b' /\ b' ∉ us /\ whileX c tb n (D b) G = some (.nx (D b'), G)
 | 0, b, h => absurd h (Nat.not_lt_zero _)
 | n + 1, b, h => by
  by_cases hm : b ∈ us
  ·have := cnt_lt hm
   obtain ⟨b', h1, h2, h3⟩ := while_free D hc hb n (b + 1) (by omega)
   refine ⟨b', by omega, h2, ?_⟩
   rw [whileX, hc, any_is hm]
   simp only [bs, if_true, hb]
   exact h3
  ·refine ⟨b, Int.le_refl _, hm, ?_⟩
   rw [whileX, hc, any_not hm]
   simp
structure Hl (h0 H : Cells) (free over used : List Int) (found : List De) : Prop where
 ln : h0.length + 5 <= H.length
 tk : H.take h0.length = h0
 c1 : H[h0.length + 1]? = some (.l (free.map .int))
 c2 : H[h0.length + 2]? = some (.l (over.map .int))
 c3 : H[h0.length + 3]? = some (.k (used.map uD))
 c4 : H[h0.length + 4]? = some (.l (found.map De.dat))
theorem Hl.app {h0 H : Cells} {free over used : List Int} {found : List De} (L : Hl h0 H free over used found) (x : Cell) : Hl h0 (H ++ [x]) free over used found := by
 have := L.ln
 refine ⟨by simp; omega, by rw [List.take_append_of_le_length (by omega)]; exact L.tk, ?_, ?_, ?_, ?_⟩
 ·rw [List.getElem?_append_left (by omega)]; exact L.c1
 ·rw [List.getElem?_append_left (by omega)]; exact L.c2
 ·rw [List.getElem?_append_left (by omega)]; exact L.c3
 ·rw [List.getElem?_append_left (by omega)]; exact L.c4
theorem take_set {H : Cells} {n i : Nat} {x : Cell} (h : n <= i) : (H.set i x).take n = H.take n := by
 rw [List.take_set, List.set_eq_of_length_le (by simp; omega)]
theorem Hl.s1 {h0 H : Cells} {free over used free' : List Int} {found : List De} (L : Hl h0 H free over used found) : Hl h0 (H.set (h0.length + 1) (.l (free'.map .int))) free' over used found := by
 have := L.ln
 refine ⟨by simp; omega, by rw [take_set (by omega)]; exact L.tk, ?_, ?_, ?_, ?_⟩
 ·rw [List.getElem?_set_self (by omega)]
 ·rw [List.getElem?_set_ne (by omega)]; exact L.c2
 ·rw [List.getElem?_set_ne (by omega)]; exact L.c3
 ·rw [List.getElem?_set_ne (by omega)]; exact L.c4
theorem Hl.s2 {h0 H : Cells} {free over used over' : List Int} {found : List De} (L : Hl h0 H free over used found) : Hl h0 (H.set (h0.length + 2) (.l (over'.map .int))) free over' used found := by
 have := L.ln
 refine ⟨by simp; omega, by rw [take_set (by omega)]; exact L.tk, ?_, ?_, ?_, ?_⟩
 ·rw [List.getElem?_set_ne (by omega)]; exact L.c1
 ·rw [List.getElem?_set_self (by omega)]
 ·rw [List.getElem?_set_ne (by omega)]; exact L.c3
 ·rw [List.getElem?_set_ne (by omega)]; exact L.c4
theorem Hl.s3 {h0 H : Cells} {free over used used' : List Int} {found : List De} (L : Hl h0 H free over used found) : Hl h0 (H.set (h0.length + 3) (.k (used'.map uD))) free over used' found := by
 have := L.ln
 refine ⟨by simp; omega, by rw [take_set (by omega)]; exact L.tk, ?_, ?_, ?_, ?_⟩
 ·rw [List.getElem?_set_ne (by omega)]; exact L.c1
 ·rw [List.getElem?_set_ne (by omega)]; exact L.c2
 ·rw [List.getElem?_set_self (by omega)]
 ·rw [List.getElem?_set_ne (by omega)]; exact L.c4
theorem Hl.s4 {h0 H : Cells} {free over used : List Int} {found found' : List De} (L : Hl h0 H free over used found) : Hl h0 (H.set (h0.length + 4) (.l (found'.map De.dat))) free over used found' := by
 have := L.ln
 refine ⟨by simp; omega, by rw [take_set (by omega)]; exact L.tk, ?_, ?_, ?_, ?_⟩
 ·rw [List.getElem?_set_ne (by omega)]; exact L.c1
 ·rw [List.getElem?_set_ne (by omega)]; exact L.c2
 ·rw [List.getElem?_set_ne (by omega)]; exact L.c3
 ·rw [List.getElem?_set_self (by omega)]
end K08
namespace K08
open PySem PySem.Spec PyProof.Rows L2 DL CI SJ ST
variable (d : Nat)
theorem endF_E {x : Option (Fl × Cells)} {f : Fl × Cells -> Option (Fl × Cells)} {n : Nat} {P : Option (List PyData × Cells) -> Prop} (Jv : DSt -> Cells -> Prop) (e : ∃ δ' h', x = some (.nx δ', h') /\ Jv δ' h') (k : ∀ δ' h', Jv δ' h' -> P ((f (.nx δ', h')).bind (endsF n))) : P ((x.bind f).bind (endsF n)) := by
 obtain ⟨δ', h', e, j⟩ := e
 rw [e]
 exact k δ' h' j
theorem endF_S {x : Option (Fl × Cells)} {f : Fl × Cells -> Option (Fl × Cells)} {n : Nat} {P : Option (List PyData × Cells) -> Prop} (δ' : DSt) (h' : Cells) (e : x = some (.nx δ', h')) (k : P ((f (.nx δ', h')).bind (endsF n))) : P ((x.bind f).bind (endsF n)) := by
 rw [e]
 exact k
def Wv (ns : List Int) (many start hands : Int) (gaps : Bool) (hn : Nat) (h0 : Cells) (k : Nat) (δ : DSt) (H : Cells) : Prop :=
 ∃ free over used found, Iv hn free over used found k /\ Hl h0 H free over used found /\ ∃ x9 x10 x11 x12 x13 x14 x15 x16 : Option W, δ = [some (.d (.list (ns.map .int))), some (.d (.int many)), some (.d (.int start)), some (.d (.int hands)), some (.d (.bool gaps)), some (.c (h0.length + 1)), some (.c (h0.length + 2)), some (.c (h0.length + 3)), some (.c (h0.length + 4)), x9, x10, x11, x12, x13, x14, x15, x16]
def Bv (ns : List Int) (many start hands : Int) (gaps : Bool) (h0 H : Cells) (k cell j lo : Int) (x14 x15 x16 : Option W) (δ : DSt) (H' : Cells) : Prop :=
 ∃ (b : Int) (s : S3), lo <= b /\ δ = [some (.d (.list (ns.map .int))), some (.d (.int many)), some (.d (.int start)), some (.d (.int hands)), some (.d (.bool gaps)), some (.c (h0.length + 1)), some (.c (h0.length + 2)), some (.c (h0.length + 3)), some (.c (h0.length + 4)), some (.d (.int k)), some (.d (.int cell)), some (.c H.length), some (.d (.int j)), some (.d (.int b)), x14, x15, x16] /\ H' = H ++ [stL s]
theorem c_deeds (ns : List Int) (mn : Nat) (hm : mn <= 16) (start : Int) (hs : 0 <= start) (hn : Nat) (h1 : 1 <= hn) (h6 : hn <= 6) (gaps : Bool) (h0 : Cells) :
  ∃ found, His found /\ callF T (d+4) "_law_deeds" [.d (.list (ns.map .int)), .d (.int mn), .d (.int start), .d (.int hn), .d (.bool gaps)] h0 = some (found.map De.dat, h0) := by
 have g1 : ∀ (k : Nat) h, callD T (d+3) "_law_cell_at" [.d (.list (ns.map .int)), .d (.int k)] h = some (.int (ns.getD k 0), h) := fun k h => c_cell (d+2) h ns k
 have g2 : ∀ (m : Nat) (h : Cells) (s : S3) (b : Int), m = h.length -> 0 < b -> b < 1073741824 -> callD T (d+3) "_law_digit" [.c m, .d (.int b)] (h ++ [stL s]) = some (.int (digR s b), h ++ [stL (digS s b)]) := fun m h s b e h1 h2 => by rw [e]; exact c_dig (d+1) h s b h1 h2
 have g3 : ∀ s : S3, ∃ c a s', CA c a /\ ∀ (m : Nat) (h : Cells), m = h.length -> callD T (d+3) "_law_asked" [.c m] (h ++ [stL s]) = some (.tuple [c, a], h ++ [stL s']) := fun s => by
  obtain ⟨c, a, s', h1, h2⟩ := c_asked s
  exact ⟨c, a, s', h1, fun m h e => by rw [e]; exact h2 d h⟩
 have rm : rngB 0 (mn : Int) = true := rngB_nat (i := 0) (j := mn) (by omega) (by omega)
 have e2 : divOk 2 = true := by decide
 have ep : powOk 10 30 = true := by decide
 have em : ∀ i : Int, mulOk 31 i = true := fun i => mulOk_l (by decide) (by decide) i
 have hk0 : (0 : Int) < hn := by omega
 have hk1 : (hn : Int) < 1073741824 := by omega
 have sz0 : (0 : Nat) < 16777216 := by decide
 generalize hmany : ((mn : Nat) : Int) = many at *
 generalize hhands : ((hn : Nat) : Int) = hands at *
 simp only [u__law_deeds, YE_d, YF_d, YG_d, YJ_d, YK_d, YN_d, YP_d, YQ_d, YC_d, YO_d, YV_d, YI_d, YW_d, YB_d, YZ_d, YT_d]
 generalize callD T (d+3) = f at *
 have fin : ∀ r : Option (List PyData × Cells), (∃ found, His found /\ r = some (found.map De.dat, h0)) = (∃ found, His found /\ r = some (found.map De.dat, h0)) := fun _ => rfl
 refine endF_S (P := fun r => ∃ found, His found /\ r = some (found.map De.dat, h0)) [some (.d (.list (ns.map .int))), some (.d (.int many)), some (.d (.int start)), some (.d (.int hands)), some (.d (.bool gaps)), some (.c (h0.length + 1)), none, none, none, none, none, none, none, none, none, none, none] (h0 ++ [.l [.int start], .l (List.replicate hn (.int start))]) ?_ ?_
 ·subst hhands
  have q : -(2 : Int) ^ 63 <= hn /\ (hn : Int) < 2 ^ 63 /\ hn <= 16777216 := ⟨by omega, by omega, by omega⟩
  simp [szl]
  rw [if_pos ⟨by omega, by omega⟩]
  simp
 dsimp only
 refine endF_S (P := fun r => ∃ found, His found /\ r = some (found.map De.dat, h0)) [some (.d (.list (ns.map .int))), some (.d (.int many)), some (.d (.int start)), some (.d (.int hands)), some (.d (.bool gaps)), some (.c (h0.length + 1)), some (.c (h0.length + 2)), none, none, none, none, none, none, none, none, none, none] (h0 ++ [.l [.int start], .l (List.replicate hn (.int start)), .l []]) (by simp [szl]) ?_
 dsimp only
 refine endF_S (P := fun r => ∃ found, His found /\ r = some (found.map De.dat, h0)) [some (.d (.list (ns.map .int))), some (.d (.int many)), some (.d (.int start)), some (.d (.int hands)), some (.d (.bool gaps)), some (.c (h0.length + 1)), some (.c (h0.length + 2)), some (.c (h0.length + 3)), none, none, none, none, none, none, none, none, none] (h0 ++ [.l [.int start], .l (List.replicate hn (.int start)), .l [], .k []]) (by simp [xCelK]) ?_
 dsimp only
 refine endF_S (P := fun r => ∃ found, His found /\ r = some (found.map De.dat, h0)) [some (.d (.list (ns.map .int))), some (.d (.int many)), some (.d (.int start)), some (.d (.int hands)), some (.d (.bool gaps)), some (.c (h0.length + 1)), some (.c (h0.length + 2)), some (.c (h0.length + 3)), some (.c (h0.length + 4)), none, none, none, none, none, none, none, none] (h0 ++ [.l [.int start], .l (List.replicate hn (.int start)), .l [], .k [], .l []]) (by simp [szl]) ?_
 dsimp only
 refine endF_E (P := fun r => ∃ found, His found /\ r = some (found.map De.dat, h0)) (Wv ns many start hands gaps hn h0 mn) ?_ ?_
 ·simp only [xb_ap, xVar_ap, List.getElem?_cons_zero, List.getElem?_cons_succ, bs, rm, if_true]
  refine forX_idxN (Wv ns many start hands gaps hn h0) ⟨_, _, _, _, Iv.start hs, ?_, _, _, _, _, _, _, _, _, rfl⟩ (fun δ h z => by
   have e : many.toNat = mn := by omega
   rw [CI.rng_len, e] at z; exact z) ?_
  ·refine ⟨by simp, by simp, by simp, by simp, by simp, by simp⟩
  ·rintro k hk δ H ⟨free, over, used, found, I, L, x9, x10, x11, x12, x13, x14, x15, x16, rfl⟩
   rw [rng_get]
   rw [CI.rng_len] at hk
   have hk : k < mn := by omega
   rw [Int.zero_add]
   have lH := L.ln
   generalize hcell : ns.getD (3 + k) 0 = cell
   have g1' : ∀ h, f "_law_cell_at" [.d (.list (ns.map .int)), .d (.int (3 + (k : Int)))] h = some (.int cell, h) := fun h => by
    have := g1 (3 + k) h
    rw [hcell] at this
    exact this
   refine ⟨[some (.d (.list (ns.map .int))), some (.d (.int many)), some (.d (.int start)), some (.d (.int hands)), some (.d (.bool gaps)), some (.c (h0.length + 1)), some (.c (h0.length + 2)), some (.c (h0.length + 3)), some (.c (h0.length + 4)), some (.d (.int k)), x10, x11, x12, x13, x14, x15, x16], H, by simp, ?_⟩
   refine seq_step [some (.d (.list (ns.map .int))), some (.d (.int many)), some (.d (.int start)), some (.d (.int hands)), some (.d (.bool gaps)), some (.c (h0.length + 1)), some (.c (h0.length + 2)), some (.c (h0.length + 3)), some (.c (h0.length + 4)), some (.d (.int k)), some (.d (.int cell)), x11, x12, x13, x14, x15, x16] (H) (by simp [g1']) ?_
   dsimp only
   generalize hs0 : ((cell / 2, cell % 2, cell + 31 * (k : Int)) : S3) = s0
   refine seq_step [some (.d (.list (ns.map .int))), some (.d (.int many)), some (.d (.int start)), some (.d (.int hands)), some (.d (.bool gaps)), some (.c (h0.length + 1)), some (.c (h0.length + 2)), some (.c (h0.length + 3)), some (.c (h0.length + 4)), some (.d (.int k)), some (.d (.int cell)), some (.c H.length), x12, x13, x14, x15, x16] (H ++ [stL s0]) (by simp [e2, em, szl, <- hs0, stL]) ?_
   dsimp only
   obtain ⟨jn, ej, hj0⟩ := dig_nat s0 (b := hands) hk0
   have hj : jn < hn := by omega
   clear hj0
   generalize hfr : free.getD jn 0 = fr
   generalize hjj : (jn : Int) = j at *
   refine seq_step [some (.d (.list (ns.map .int))), some (.d (.int many)), some (.d (.int start)), some (.d (.int hands)), some (.d (.bool gaps)), some (.c (h0.length + 1)), some (.c (h0.length + 2)), some (.c (h0.length + 3)), some (.c (h0.length + 4)), some (.d (.int k)), some (.d (.int cell)), some (.c H.length), some (.d (.int j)), x13, x14, x15, x16] (H ++ [stL (digS s0 hands)]) (by simp [g2, hk0, hk1, ej]) ?_
   dsimp only
   generalize digS s0 hands = s1
   obtain ⟨i5, e5, h5⟩ := dig_nat s1 (b := 5) (by decide)
   have ix : ∀ x, xIx (.c (h0.length + 1)) (.d (.int j)) (H ++ [x]) = some (.d (.int fr), H ++ [x]) := fun x => by
    have hl : jn < free.length := by rw [I.fl]; exact hj
    rw [ix_at (L.app x).c1, <- hjj, <- hfr, atI_nat (show (free.map PyData.int)[jn]? = some (.int (free.getD jn 0)) by rw [List.getElem?_map, List.getD_eq_getElem?_getD, List.getElem?_eq_getElem hl]; rfl)]
    rfl
   refine seq_step [some (.d (.list (ns.map .int))), some (.d (.int many)), some (.d (.int start)), some (.d (.int hands)), some (.d (.bool gaps)), some (.c (h0.length + 1)), some (.c (h0.length + 2)), some (.c (h0.length + 3)), some (.c (h0.length + 4)), some (.d (.int k)), some (.d (.int cell)), some (.c H.length), some (.d (.int j)), some (.d (.int (fr + i5))), x14, x15, x16] (H ++ [stL (digS s1 5)]) (by simp only [xSet_ap, xb_ap, xVar_ap, List.getElem?_cons_zero, List.getElem?_cons_succ, bs, ix]; simp [g2, e5]) ?_
   dsimp only
   generalize digS s1 5 = s2
   refine seq_stepE (Bv ns many start hands gaps h0 H k cell j fr x14 x15 x16) ?_ ?_
   ·cases gaps with
    | false =>
     refine ⟨[some (.d (.list (ns.map .int))), some (.d (.int many)), some (.d (.int start)), some (.d (.int hands)), some (.d (.bool false)), some (.c (h0.length + 1)), some (.c (h0.length + 2)), some (.c (h0.length + 3)), some (.c (h0.length + 4)), some (.d (.int k)), some (.d (.int cell)), some (.c H.length), some (.d (.int j)), some (.d (.int (fr + i5))), x14, x15, x16], H ++ [stL s2], by simp, ?_⟩
     exact ⟨_, s2, by omega, rfl, rfl⟩
    | true =>
     by_cases z3 : digR s2 3 = 0
     ·obtain ⟨i6, e6, h6'⟩ := dig_nat (digS s2 3) (b := 3) (by decide)
      have hmx : fr <= mxI free := by
       have hl : jn < free.length := by rw [I.fl]; exact hj
       rw [<- hfr, List.getD_eq_getElem?_getD, List.getElem?_eq_getElem hl]
       exact mxI_ge (List.getElem_mem hl)
      have hne : free ≠ [] := fun z => by have := I.fl; rw [z] at this; simp at this; omega
      have mx : ∀ x, xMax [.c (h0.length + 1)] (H ++ [x]) = some (.d (.int (mxI free)), H ++ [x]) := fun x => max_at (L.app x).c1 hne
      obtain ⟨i7, e7, h7⟩ := dig_nat (digS (digS s2 3) 3) (b := 3) (by decide)
      obtain ⟨v, ev, hv⟩ : ∃ v : Int, atI [PyData.int 0, .int 0, .int (10 ^ 30)] (i7 : Int) = some (.int v) /\ 0 <= v := by
       have : i7 = 0 \/ i7 = 1 \/ i7 = 2 := by omega
       rcases this with rfl | rfl | rfl
       ·exact ⟨0, by simp, by decide⟩
       ·exact ⟨0, by simp, by decide⟩
       ·exact ⟨10 ^ 30, by simp, by decide⟩
      simp only [show ((10 : Int) ^ 30) = 1000000000000000000000000000000 from by decide] at ev
      refine ⟨[some (.d (.list (ns.map .int))), some (.d (.int many)), some (.d (.int start)), some (.d (.int hands)), some (.d (.bool true)), some (.c (h0.length + 1)), some (.c (h0.length + 2)), some (.c (h0.length + 3)), some (.c (h0.length + 4)), some (.d (.int k)), some (.d (.int cell)), some (.c H.length), some (.d (.int j)), some (.d (.int (mxI free + i6 + v))), x14, x15, x16], H ++ [stL (digS (digS (digS s2 3) 3) 3)], ?_, ?_⟩
      ·simp [g2, z3, mx, e6, e7, ep, szl, xFrz, ev]
      ·exact ⟨_, _, by omega, rfl, rfl⟩
     ·refine ⟨[some (.d (.list (ns.map .int))), some (.d (.int many)), some (.d (.int start)), some (.d (.int hands)), some (.d (.bool true)), some (.c (h0.length + 1)), some (.c (h0.length + 2)), some (.c (h0.length + 3)), some (.c (h0.length + 4)), some (.d (.int k)), some (.d (.int cell)), some (.c H.length), some (.d (.int j)), some (.d (.int (fr + i5))), x14, x15, x16], H ++ [stL (digS s2 3)], by simp [g2, z3], ?_⟩
      exact ⟨_, _, by omega, rfl, rfl⟩
   rintro δ H' ⟨b0, s3, hb0, rfl, rfl⟩
   dsimp only
   have ul : used.length <= 32 := by have := I.ul; omega
   obtain ⟨b, hb1, hb2, hw⟩ := while_free (us := used) (G := H ++ [stL s3]) (c := xC1 CmpOp.In (xVar 13) (xVar 7)) (tb := fun x x_2 => ((xSet 13 (xb (xVar 13) fun u => xb (xpure (W.d (PyData.int 1))) fun w x h => xBin Operator.Add u w h) x x_2).bind fun p => match p.1 with
    | Fl.nx δ' => some (Fl.nx δ', p.2)
    | f => some (f, p.2))) (fun b => [some (.d (.list (ns.map .int))), some (.d (.int many)), some (.d (.int start)), some (.d (.int hands)), some (.d (.bool gaps)), some (.c (h0.length + 1)), some (.c (h0.length + 2)), some (.c (h0.length + 3)), some (.c (h0.length + 4)), some (.d (.int k)), some (.d (.int cell)), some (.c H.length), some (.d (.int j)), some (.d (.int b)), x14, x15, x16]) (fun t => by simp [ink_at (L.app (stL s3)).c3]) (fun t => by simp) 1000 b0 (Nat.lt_of_le_of_lt (List.length_filter_le _ _) (by omega))
   have hb : free.getD jn 0 <= b := by rw [hfr]; omega
   refine seq_step [some (.d (.list (ns.map .int))), some (.d (.int many)), some (.d (.int start)), some (.d (.int hands)), some (.d (.bool gaps)), some (.c (h0.length + 1)), some (.c (h0.length + 2)), some (.c (h0.length + 3)), some (.c (h0.length + 4)), some (.d (.int k)), some (.d (.int cell)), some (.c H.length), some (.d (.int j)), some (.d (.int b)), x14, x15, x16] (H ++ [stL s3]) hw ?_
   dsimp only
   have L3 : Hl h0 (H.set (h0.length + 3) (.k ((used ++ [b]).map uD))) free over (used ++ [b]) found := L.s3
   have hset : ∀ (H : Cells) (i : Nat) (c x : Cell), i < H.length -> (H ++ [x]).set i c = H.set i c ++ [x] := fun H i c x h => List.set_append_left _ _ h
   have u32 : (used.map uD).length < sizeLine := by rw [List.length_map, sizeLine_eq]; omega
   refine seq_step [some (.d (.list (ns.map .int))), some (.d (.int many)), some (.d (.int start)), some (.d (.int hands)), some (.d (.bool gaps)), some (.c (h0.length + 1)), some (.c (h0.length + 2)), some (.c (h0.length + 3)), some (.c (h0.length + 4)), some (.d (.int k)), some (.d (.int cell)), some (.c H.length), some (.d (.int j)), some (.d (.int b)), x14, x15, x16] (H.set (h0.length + 3) (.k ((used ++ [b]).map uD)) ++ [stL s3]) (by
    simp only [xVar_ap, xpure_ap, List.getElem?_cons_zero, List.getElem?_cons_succ, bs, (L.app (stL s3)).c3]
    rw [if_pos ⟨rfl, u32⟩, put_new hb2, hset _ _ _ _ (by omega)]
    rfl) ?_
   dsimp only
   generalize hH1 : H.set (h0.length + 3) (.k ((used ++ [b]).map uD)) = H1 at *
   have lH1 : H.length = H1.length := by rw [<- hH1]; simp
   rw [lH1]
   obtain ⟨i9, e9, h9⟩ := dig_nat s3 (b := 9) (by decide)
   refine seq_step [some (.d (.list (ns.map .int))), some (.d (.int many)), some (.d (.int start)), some (.d (.int hands)), some (.d (.bool gaps)), some (.c (h0.length + 1)), some (.c (h0.length + 2)), some (.c (h0.length + 3)), some (.c (h0.length + 4)), some (.d (.int k)), some (.d (.int cell)), some (.c H1.length), some (.d (.int j)), some (.d (.int b)), some (.d (.int (b + 1 + i9))), x15, x16] (H1 ++ [stL (digS s3 9)]) (by simp [g2, e9]) ?_
   dsimp only
   generalize digS s3 9 = s4
   obtain ⟨e, he1, he2, hw2⟩ := while_free (us := used ++ [b]) (G := H1 ++ [stL s4]) (c := xC1 CmpOp.In (xVar 14) (xVar 7)) (tb := fun x x_2 => ((xSet 14 (xb (xVar 14) fun u => xb (xpure (W.d (PyData.int 1))) fun w x h => xBin Operator.Add u w h) x x_2).bind fun p => match p.1 with
    | Fl.nx δ' => some (Fl.nx δ', p.2)
    | f => some (f, p.2))) (fun e => [some (.d (.list (ns.map .int))), some (.d (.int many)), some (.d (.int start)), some (.d (.int hands)), some (.d (.bool gaps)), some (.c (h0.length + 1)), some (.c (h0.length + 2)), some (.c (h0.length + 3)), some (.c (h0.length + 4)), some (.d (.int k)), some (.d (.int cell)), some (.c H1.length), some (.d (.int j)), some (.d (.int b)), some (.d (.int e)), x15, x16]) (fun t => by simp [ink_at (L3.app (stL s4)).c3, -List.any_append]) (fun t => by simp) 1000 (b + 1 + i9) (Nat.lt_of_le_of_lt (List.length_filter_le _ _) (by simp; omega))
   have hbe : b < e := by omega
   have heu : e ∉ used := fun z => he2 (List.mem_append_left _ z)
   refine seq_step [some (.d (.list (ns.map .int))), some (.d (.int many)), some (.d (.int start)), some (.d (.int hands)), some (.d (.bool gaps)), some (.c (h0.length + 1)), some (.c (h0.length + 2)), some (.c (h0.length + 3)), some (.c (h0.length + 4)), some (.d (.int k)), some (.d (.int cell)), some (.c H1.length), some (.d (.int j)), some (.d (.int b)), some (.d (.int e)), x15, x16] (H1 ++ [stL s4]) hw2 ?_
   dsimp only
   obtain ⟨c, a, s5, ca, ha⟩ := g3 s4
   refine seq_step [some (.d (.list (ns.map .int))), some (.d (.int many)), some (.d (.int start)), some (.d (.int hands)), some (.d (.bool gaps)), some (.c (h0.length + 1)), some (.c (h0.length + 2)), some (.c (h0.length + 3)), some (.c (h0.length + 4)), some (.d (.int k)), some (.d (.int cell)), some (.c H1.length), some (.d (.int j)), some (.d (.int b)), some (.d (.int e)), some (.d c), some (.d a)] (H1 ++ [stL s5]) (by simp [ha, gRun]) ?_
   dsimp only
   have lH3 := L3.ln
   by_cases ho : j ∈ over
   ·refine seq_step [some (.d (.list (ns.map .int))), some (.d (.int many)), some (.d (.int start)), some (.d (.int hands)), some (.d (.bool gaps)), some (.c (h0.length + 1)), some (.c (h0.length + 2)), some (.c (h0.length + 3)), some (.c (h0.length + 4)), some (.d (.int k)), some (.d (.int cell)), some (.c H1.length), some (.d (.int j)), some (.d (.int b)), some (.d (.int e)), some (.d c), some (.d a)] (H1.set (h0.length + 3) (.k (used.map uD)) ++ [stL s5]) ?_ ⟨_, _, rfl, free, over, used, found, I.skip, (L3.s3).app _, _, _, _, _, _, _, _, _, rfl⟩
    have hi := in_at (L3.app (stL s5)).c2 j
    rw [any_is ho] at hi
    have hp : popK (h0.length + 3) (.d (.int b)) (H1 ++ [stL s5]) = some (.d (.bool true), H1.set (h0.length + 3) (.k (used.map uD)) ++ [stL s5]) := by
     unfold popK
     have hkd : keyD (.int b) = some (.inl b) := rfl
     simp only [(L3.app (stL s5)).c3, hkd, bs]
     rw [find_new hb2, Option.map_some, pop_new hb2, hset _ _ _ _ (by omega)]
     rfl
    simp [hi, (L3.app (stL s5)).c3, hp, -List.map_append]
   ·have hi := in_at (L3.app (stL s5)).c2 j
    rw [any_not ho] at hi
    have jo : (jn : Int) ∉ over := by rw [hjj]; exact ho
    have fk : (found.map De.dat).length < sizeLine := by have := I.fk; rw [List.length_map, sizeLine_eq]; omega
    by_cases h15 : digR s5 16 = 15
    ·have ok : (over.map PyData.int).length < 16777216 -> True := fun _ => trivial
     have L4 := (L3.s2 (over' := over ++ [j])).s4 (found' := found ++ [(⟨j, b, none, c, a⟩ : De)])
     have I4 := I.opened h6 hj hb hb2 jo ca
     rw [hjj] at I4
     have ok : (over.map PyData.int).length < sizeLine := by have := I.ol; rw [List.length_map, sizeLine_eq]; omega
     have f1 := (L3.app (stL (digS s5 16))).c2
     have f2 := mpre_at f1
     have f3 : (H1 ++ [stL (digS s5 16)]).set (h0.length + 2) (.l (over.map .int ++ [.int j])) = H1.set (h0.length + 2) (.l ((over ++ [j]).map .int)) ++ [stL (digS s5 16)] := by rw [hset _ _ _ _ (by omega)]; simp
     have f4 := ((L3.s2 (over' := over ++ [j])).app (stL (digS s5 16))).c4
     have f5 := mpre_at f4
     have f6 : (H1.set (h0.length + 2) (.l ((over ++ [j]).map .int)) ++ [stL (digS s5 16)]).set (h0.length + 4) (.l (found.map De.dat ++ [De.dat (⟨j, b, none, c, a⟩ : De)])) = (H1.set (h0.length + 2) (.l ((over ++ [j]).map .int))).set (h0.length + 4) (.l ((found ++ [(⟨j, b, none, c, a⟩ : De)]).map De.dat)) ++ [stL (digS s5 16)] := by rw [hset _ _ _ _ (by simp; omega)]; simp
     refine seq_step [some (.d (.list (ns.map .int))), some (.d (.int many)), some (.d (.int start)), some (.d (.int hands)), some (.d (.bool gaps)), some (.c (h0.length + 1)), some (.c (h0.length + 2)), some (.c (h0.length + 3)), some (.c (h0.length + 4)), some (.d (.int k)), some (.d (.int cell)), some (.c H1.length), some (.d (.int j)), some (.d (.int b)), some (.d (.int e)), some (.d c), some (.d a)] ((H1.set (h0.length + 2) (.l ((over ++ [j]).map .int))).set (h0.length + 4) (.l ((found ++ [(⟨j, b, none, c, a⟩ : De)]).map De.dat)) ++ [stL (digS s5 16)]) ?_ ⟨_, _, rfl, free, over ++ [j], used ++ [b], found ++ [(⟨j, b, none, c, a⟩ : De)], I4, L4.app _, _, _, _, _, _, _, _, _, rfl⟩
     simp only [List.length_map] at ok fk
     have fk : found.length < 16777216 := by rw [sizeLine_eq] at fk; exact fk
     simp only [De.dat, De.an, opt_none] at f6
     simp [hi, g2, h15, f1, f2, ok, -List.map_append]
     simp only [f3]
     simp [f4, f5, fk, szl, -List.map_append]
     exact f6
    ·have L4 := ((L3.s3 (used' := used ++ [b] ++ [e])).s1 (free' := free.set jn (e + 1))).s4 (found' := found ++ [(⟨j, b, some e, c, a⟩ : De)])
     have I4 := I.ended h6 hj hb hb2 jo hbe heu ca
     rw [hjj] at I4
     have u33 : ((used ++ [b]).map uD).length < sizeLine := by rw [List.length_map, sizeLine_eq]; simp; omega
     have f1 := (L3.app (stL (digS s5 16))).c3
     have f3 : (H1 ++ [stL (digS s5 16)]).set (h0.length + 3) (.k (putD ((used ++ [b]).map uD) (.int e) (.bool true))) = H1.set (h0.length + 3) (.k ((used ++ [b] ++ [e]).map uD)) ++ [stL (digS s5 16)] := by rw [put_new he2, hset _ _ _ _ (by omega)]
     have L5 := (L3.s3 (used' := used ++ [b] ++ [e]))
     generalize hH2 : H1.set (h0.length + 3) (.k ((used ++ [b] ++ [e]).map uD)) = H2 at *
     have lH5 := L5.ln
     have f4 := (L5.app (stL (digS s5 16))).c1
     have f5 : L2.ixN free.length j = some jn := by rw [<- hjj]; exact ix_nat (by rw [I.fl]; exact hj)
     have f6 : (H2 ++ [stL (digS s5 16)]).set (h0.length + 1) (.l ((free.map .int).set jn (.int (e + 1)))) = H2.set (h0.length + 1) (.l ((free.set jn (e + 1)).map .int)) ++ [stL (digS s5 16)] := by rw [hset _ _ _ _ (by omega), List.map_set]
     have f7 := ((L5.s1 (free' := free.set jn (e + 1))).app (stL (digS s5 16))).c4
     have f8 := mpre_at f7
     have f9 : (H2.set (h0.length + 1) (.l ((free.set jn (e + 1)).map .int)) ++ [stL (digS s5 16)]).set (h0.length + 4) (.l (found.map De.dat ++ [De.dat (⟨j, b, some e, c, a⟩ : De)])) = (H2.set (h0.length + 1) (.l ((free.set jn (e + 1)).map .int))).set (h0.length + 4) (.l ((found ++ [(⟨j, b, some e, c, a⟩ : De)]).map De.dat)) ++ [stL (digS s5 16)] := by rw [hset _ _ _ _ (by simp; omega)]; simp
     refine seq_step [some (.d (.list (ns.map .int))), some (.d (.int many)), some (.d (.int start)), some (.d (.int hands)), some (.d (.bool gaps)), some (.c (h0.length + 1)), some (.c (h0.length + 2)), some (.c (h0.length + 3)), some (.c (h0.length + 4)), some (.d (.int k)), some (.d (.int cell)), some (.c H1.length), some (.d (.int j)), some (.d (.int b)), some (.d (.int e)), some (.d c), some (.d a)] ((H2.set (h0.length + 1) (.l ((free.set jn (e + 1)).map .int))).set (h0.length + 4) (.l ((found ++ [(⟨j, b, some e, c, a⟩ : De)]).map De.dat)) ++ [stL (digS s5 16)]) ?_ ⟨_, _, rfl, free.set jn (e + 1), over, used ++ [b] ++ [e], found ++ [(⟨j, b, some e, c, a⟩ : De)], I4, L4.app _, _, _, _, _, _, _, _, _, rfl⟩
     simp only [List.length_map] at u33 fk
     have fk : found.length < 16777216 := by rw [sizeLine_eq] at fk; exact fk
     simp only [De.dat, De.an, opt_some] at f9
     have kd : (keyD (.int e)).isSome = true := rfl
     simp [hi, g2, h15, f1, kd, u33, -List.map_append, -List.append_assoc, -List.length_append]
     have f4' := (L3.app (stL (digS s5 16))).c1
     have f6' : ((H1 ++ [stL (digS s5 16)]).set (h0.length + 3) (.k (putD ((used ++ [b]).map uD) (.int e) (.bool true)))).set (h0.length + 1) (.l ((free.map .int).set jn (.int (e + 1)))) = H2.set (h0.length + 1) (.l ((free.set jn (e + 1)).map .int)) ++ [stL (digS s5 16)] := by rw [f3, f6]
     simp [f4', f5, -List.map_append, -List.append_assoc, -List.map_set]
     simp only [f6']
     simp [f7, f8, fk, szl, -List.map_append, -List.map_set]
     simpa only [List.map_set] using f9
 ·rintro δ H ⟨free, over, used, found, I, L, x9, x10, x11, x12, x13, x14, x15, x16, rfl⟩
  refine ⟨found, ⟨I.gd, I.tg, by have := I.fk; omega⟩, ?_⟩
  dsimp only
  simp [endsF, L.c4, L.tk]
end K08
namespace K08
open PySem PySem.Spec PyProof.Rows L2 DL CI SJ ST
def Pv (ns : List Int) (found : List De) (s2 s3 : W) (δ : DSt) (H : Cells) : Prop :=
 ∃ (ys : List De) (s : S3) (c1 : Cell) (x5 x6 x7 : Option W), found.Perm ys /\ δ = [some (.d (.list (ns.map .int))), some (.c 3), some s2, some s3, some (.c 2), x5, x6, x7] /\ H = [tc, c1, .l (ys.map De.dat), stL s]
theorem pop_at {ys : List De} {n : Nat} (hl : ys.length <= 16) (hn : n < ys.length) (a b e : Cell) : popL 2 [.d (.int n)] [a, b, .l (ys.map De.dat), e] = some (.d (ys[n].dat), [a, b, .l ((ys.eraseIdx n).map De.dat), e]) := by
 have h1 : ixN (ys.map De.dat).length (n : Int) = some n := ix_nat (by simpa using hn)
 have h2 : (ys.map De.dat)[n]? = some ys[n].dat := by rw [List.getElem?_map, List.getElem?_eq_getElem hn]; rfl
 have h3 : (ys.map De.dat).eraseIdx n = (ys.eraseIdx n).map De.dat := by simp [List.eraseIdx_eq_take_drop_succ]
 unfold popL
 simp only [List.getElem?_cons_zero, List.getElem?_cons_succ, h1, h2, h3, bs, List.set_cons_zero, List.set_cons_succ]
 rw [if_pos ⟨by omega, by simp at h1; have : ys.length <= 16 := hl; omega⟩]
theorem perm_pop {ys : List De} {n : Nat} (hn : n < ys.length) : ys.Perm (ys.eraseIdx n ++ [ys[n]]) := by
 rw [List.eraseIdx_eq_take_drop_succ]
 have e : ys = ys.take n ++ (ys[n] :: ys.drop (n + 1)) := by rw [List.getElem_cons_drop]; simp
 refine (List.Perm.of_eq e).trans ?_
 rw [List.append_assoc]
 exact List.Perm.append_left _ (List.perm_append_singleton _ _).symm
theorem law_ok (ns : List Int) (d : Nat) : ∃ h', callD T (d+11) "law" [.d (.list (ns.map .int))] [tc] = some (.bool true, h') := by
 refine ⟨[tc], ?_⟩
 have e2 : divOk 2 = true := by decide
 have e3 : divOk 3 = true := by decide
 have ep : powOk 10 30 = true := by decide
 have g1 : ∀ (k : Nat) h, callD T (d+10) "_law_cell_at" [.d (.list (ns.map .int)), .d (.int k)] h = some (.int (ns.getD k 0), h) := fun k h => c_cell (d+9) h ns k
 have g1a : ∀ h, callD T (d+10) "_law_cell_at" [.d (.list (ns.map .int)), .d (.int 0)] h = some (.int (ns.getD 0 0), h) := g1 0
 have g1b : ∀ h, callD T (d+10) "_law_cell_at" [.d (.list (ns.map .int)), .d (.int 1)] h = some (.int (ns.getD 1 0), h) := g1 1
 have g1c : ∀ h, callD T (d+10) "_law_cell_at" [.d (.list (ns.map .int)), .d (.int 2)] h = some (.int (ns.getD 2 0), h) := g1 2
 have g2 : ∀ (s : S3) (b : Int), 0 < b -> b < 1073741824 -> callD T (d+10) "_law_digit" [.c 1, .d (.int b)] [tc, stL s] = some (.int (digR s b), [tc, stL (digS s b)]) := fun s b h1 h2 => c_dig (d+8) [tc] s b h1 h2
 have g3 : ∀ (a b : Cell) (s : S3) (k : Int), 0 < k -> k < 1073741824 -> callD T (d+10) "_law_digit" [.c 3, .d (.int k)] [tc, a, b, stL s] = some (.int (digR s k), [tc, a, b, stL (digS s k)]) := fun a b s k h1 h2 => c_dig (d+8) [tc, a, b] s k h1 h2
 have g4 := fun mn hm start hs hn h1 h6 gaps h0 => c_deeds (d+6) ns mn hm start hs hn h1 h6 gaps h0
 have g5 : ∀ {xs : List De}, His xs -> ∀ h, callD T (d+10) "look_over" [.d (.tuple (xs.map De.dat))] h = some (.none, h) := fun H h => c_look_over d h H
 have g6 : ∀ {xs : List De}, His xs -> ∀ R, callD T (d+10) "_law_right" [.d (.tuple (xs.map De.dat))] (tc :: R) = some (.bool true, tc :: R) := fun H R => c_right (d+6) H R
 simp only [u_law, YE_d, YF_d, YG_d, YJ_d, YK_d, YN_d, YP_d, YQ_d, YC_d, YO_d, YV_d, YI_d, YW_d, YB_d, YZ_d, YT_d]
 generalize callD T (d+10) = f at *
 generalize hff : callF T (d+10) = ff at *
 generalize ns.getD 0 0 = n0 at *
 generalize hn1 : ns.getD 1 0 = n1 at *
 generalize ns.getD 2 0 = n2 at *
 have sc : some (W.d (PyData.list (ns.map .int))) = some (W.d (PyData.list (ns.map .int))) := rfl
 generalize hs0 : ((n0 / 2, n0 % 2, n0) : S3) = s0
 refine end_rt [some (.d (.list (ns.map .int))), some (.c 1), none, none, none, none, none, none] [tc, stL s0] (by simp [g1a, e2, szl, <- hs0, stL]) ?_
 dsimp only
 obtain ⟨mn, em, hm⟩ := dig_nat s0 (b := 17) (by decide)
 refine end_rt [some (.d (.list (ns.map .int))), some (.c 1), some (.d (.int mn)), none, none, none, none, none] [tc, stL (digS s0 17)] (by simp [g2, em]) ?_
 dsimp only
 generalize digS s0 17 = s1
 obtain ⟨i5, e5, h5⟩ := dig_nat s1 (b := 5) (by decide)
 obtain ⟨i4, e4, h4⟩ := dig_nat (digS s1 5) (b := 4) (by decide)
 obtain ⟨start, hs, hst⟩ : ∃ start : Int, 0 <= start /\ atI [PyData.int i5, .int (n1 % 1000000000000000000000000000000)] ((i4 : Int) / 3) = some (.int start) := by
  have h0 : (i4 : Int) / 3 = 0 \/ (i4 : Int) / 3 = 1 := by omega
  rcases h0 with e | e
  ·exact ⟨i5, by omega, by rw [e]; simp⟩
  ·exact ⟨n1 % 1000000000000000000000000000000, by omega, by rw [e]; simp⟩
 refine end_rt [some (.d (.list (ns.map .int))), some (.c 1), some (.d (.int mn)), some (.d (.int start)), none, none, none, none] [tc, stL (digS (digS s1 5) 4)] (by simp [g2, e5, e4, g1b, ep, e3, szl, xFrz, hst]) ?_
 dsimp only
 generalize digS (digS s1 5) 4 = s2
 obtain ⟨i6, e6, h6⟩ := dig_nat s2 (b := 6) (by decide)
 obtain ⟨found, hF, hD⟩ := g4 mn (by omega) start hs (1 + i6) (by omega) (by omega) (decide (digR (digS s2 6) 3 = 0)) [tc, stL (digS (digS s2 6) 3)]
 rw [show (((1 + i6 : Nat) : Int)) = 1 + (i6 : Int) from by omega] at hD
 refine end_rt [some (.d (.list (ns.map .int))), some (.c 1), some (.d (.int mn)), some (.d (.int start)), some (.c 2), none, none, none] [tc, stL (digS (digS s2 6) 3), .l (found.map De.dat)] (by simp [g2, e6, hD]) ?_
 dsimp only
 generalize stL (digS (digS s2 6) 3) = c1
 generalize ht0 : ((n2 / 2, n2 % 2, n2) : S3) = t0
 refine end_rt [some (.d (.list (ns.map .int))), some (.c 3), some (.d (.int mn)), some (.d (.int start)), some (.c 2), none, none, none] [tc, c1, .l (found.map De.dat), stL t0] (by simp [g1c, e2, szl, <- ht0, stL]) ?_
 dsimp only
 have lf := hF.ln
 have rl : rngB 0 (found.length : Int) = true := rngB_nat (i := 0) (j := found.length) (by omega) (by omega)
 refine end_rtE (Pv ns found (.d (.int mn)) (.d (.int start))) ?_ ?_
 ·simp only [xb_ap, xpure_ap, xVar_ap, List.getElem?_cons_zero, List.getElem?_cons_succ, bs, len_at (G := [tc, c1, .l (found.map De.dat), stL t0]) (i := 2) (xs := found.map De.dat) rfl, List.length_map, rl, if_true]
  refine forX_inv2 (Pv ns found (.d (.int mn)) (.d (.int start))) _ ?_ _ _ ⟨found, t0, c1, _, _, _, .refl _, rfl, rfl⟩
  rintro x hx δ H ⟨ys, s, c1, x5, x6, x7, hp, rfl, rfl⟩
  obtain ⟨k, hk, rfl⟩ := rng_mem hx
  have ly : ys.length = found.length := hp.length_eq.symm
  have l0 : (0 : Int) < (ys.length : Int) := by omega
  have l1 : (ys.length : Int) < 1073741824 := by omega
  obtain ⟨n, en, hn⟩ := dig_nat s (b := (ys.length : Int)) l0
  have hn : n < ys.length := by omega
  refine ⟨[some (.d (.list (ns.map .int))), some (.c 3), some (.d (.int mn)), some (.d (.int start)), some (.c 2), some (.d (.int (0 + k))), x6, x7], [tc, c1, .l (ys.map De.dat), stL s], by simp, ?_⟩
  refine seq_step [some (.d (.list (ns.map .int))), some (.c 3), some (.d (.int mn)), some (.d (.int start)), some (.c 2), some (.d (.int (0 + k))), some (.d (.int n)), x7] [tc, c1, .l (ys.map De.dat), stL (digS s ys.length)] ?_ ?_
  ·have hl := len_at (G := [tc, c1, .l (ys.map De.dat), stL s]) (i := 2) (xs := ys.map De.dat) rfl
   rw [List.length_map] at hl
   have := g3 c1 (.l (ys.map De.dat)) s ys.length l0 l1
   rw [en] at this
   simp [hl, this]
  dsimp only
  generalize digS s ys.length = s'
  have hpop := pop_at (by omega) hn tc c1 (stL s')
  have hsz : (ys.eraseIdx n).length < 16777216 := by rw [List.length_eraseIdx]; split <;> omega
  have hmp := mpre_at (G := [tc, c1, .l (ys.map De.dat), stL s']) (i := 2) (xs := ys.map De.dat) rfl
  refine seq_step [some (.d (.list (ns.map .int))), some (.c 3), some (.d (.int mn)), some (.d (.int start)), some (.c 2), some (.d (.int (0 + k))), some (.d (.int n)), x7] [tc, c1, .l ((ys.eraseIdx n ++ [ys[n]]).map De.dat), stL s'] ?_ ⟨_, _, rfl, _, _, _, _, _, _, hp.trans (perm_pop hn), rfl, rfl⟩
  simp [hmp, hpop, hsz, szl]
 ·rintro δ H ⟨ys, s, c1, x5, x6, x7, hp, rfl, rfl⟩
  dsimp only
  have hY := hF.perm hp
  have ht := tup_at (G := [tc, c1, .l (ys.map De.dat), stL s]) (i := 2) (xs := ys.map De.dat) rfl
  refine end_rt [some (.d (.list (ns.map .int))), some (.c 3), some (.d (.int mn)), some (.d (.int start)), some (.c 2), x5, x6, some (.d (.tuple (ys.map De.dat)))] [tc, c1, .l (ys.map De.dat), stL s] (by simp [ht]) ?_
  dsimp only
  refine end_rt [some (.d (.list (ns.map .int))), some (.c 3), some (.d (.int mn)), some (.d (.int start)), some (.c 2), x5, x6, some (.d (.tuple (ys.map De.dat)))] [tc, c1, .l (ys.map De.dat), stL s] (by simp [g5 hY]) ?_
  dsimp only
  have q : ∀ h, xEq (.d (.tuple (ys.map De.dat))) (.d (.tuple (ys.map De.dat))) h = some true := eq_same (by rw [pl_tuple]; exact des_plain hY.gd 60)
  simp [g6 hY, ht, q]
end K08
namespace K08
open PySem PySem.Spec PyProof.Rows L2 DL CI
def top (k : Nat) : Stmt := PySem.Challenge.pw_storejudge_k08_hands_and_times.main.body.getD k (.Pass ⟨0, 0, 0, 0⟩)
abbrev s_0 : Stmt := top 1
abbrev s_1 : Stmt := top 2
abbrev s_2 : Stmt := top 3
abbrev s_3 : Stmt := top 4
abbrev s_4 : Stmt := top 5
abbrev s_5 : Stmt := top 10
abbrev s_6 : Stmt := top 11
abbrev s_7 : Stmt := top 12
abbrev s_8 : Stmt := top 13
abbrev s_9 : Stmt := top 14
abbrev s_10 : Stmt := top 15
abbrev s_11 : Stmt := top 16
abbrev s_12 : Stmt := top 17
abbrev s_13 : Stmt := top 18
abbrev s_14 : Stmt := top 19
abbrev s_15 : Stmt := top 20
abbrev s_16 : Stmt := top 21
abbrev s_17 : Stmt := top 22
abbrev s_18 : Stmt := top 29
abbrev s_19 : Stmt := top 30
abbrev s_20 : Stmt := top 31
abbrev s_21 : Stmt := top 32
abbrev s_22 : Stmt := top 33
abbrev s_23 : Stmt := top 34
abbrev s_24 : Stmt := top 35
abbrev s_25 : Stmt := top 36
abbrev s_26 : Stmt := top 37
abbrev s_27 : Stmt := top 38
abbrev s_28 : Stmt := top 39
abbrev s_29 : Stmt := top 41
abbrev s_30 : Stmt := top 42
abbrev s_31 : Stmt := top 43
abbrev s_32 : Stmt := top 44
abbrev s_33 : Stmt := top 45
abbrev s_34 : Stmt := top 46
abbrev s_35 : Stmt := top 47
abbrev s_36 : Stmt := top 48
theorem gc_is : gcl body = ([(Str.ofString "LAST_KEY", PyData.int 7), (Str.ofString "MOST_PARTS", PyData.int 4), (Str.ofString "LAST_HAND", PyData.int 5), (Str.ofString "MOST_DEEDS", PyData.int 60)] : List (Str × PyData)) := by kernel_rfl
theorem tk_is : tkl body = ([(Str.ofString "NUMBERS_BEHIND", [(Str.ofString "read", 0), (Str.ofString "write", 1), (Str.ofString "add", 1), (Str.ofString "swap", 2)])] : List (Str × List (Str × Int))) := by kernel_rfl
theorem df_is : dfl body = ([(Str.ofString "is_whole", s_0), (Str.ofString "is_between", s_1), (Str.ofString "is_tuple_of", s_2), (Str.ofString "are_whole", s_3), (Str.ofString "are_rising", s_4), (Str.ofString "is_key", s_5), (Str.ofString "word_of", s_6), (Str.ofString "is_worded", s_7), (Str.ofString "is_single", s_8), (Str.ofString "is_span", s_9), (Str.ofString "is_deal", s_10), (Str.ofString "is_call", s_11), (Str.ofString "is_look", s_12), (Str.ofString "is_value_pair", s_13), (Str.ofString "is_lay", s_14), (Str.ofString "is_step", s_15), (Str.ofString "is_answer", s_16), (Str.ofString "is_own_answer", s_17), (Str.ofString "is_time", s_18), (Str.ofString "is_deed", s_19), (Str.ofString "times_of", s_20), (Str.ofString "ended_below", s_21), (Str.ofString "go_together", s_22), (Str.ofString "look_over", s_23), (Str.ofString "hands_in", s_24), (Str.ofString "of_hand", s_25), (Str.ofString "really_ahead", s_26), (Str.ofString "is_quiet", s_27), (Str.ofString "quiet_times", s_28), (Str.ofString "_law_cell_at", s_29), (Str.ofString "_law_mixed", s_30), (Str.ofString "_law_digit", s_31), (Str.ofString "_law_asked", s_32), (Str.ofString "_law_deeds", s_33), (Str.ofString "_law_quiet", s_34), (Str.ofString "_law_right", s_35), (Str.ofString "law", s_36)] : List (Str × Stmt)) := by kernel_rfl
theorem law_def : T.defs "law" = some s_36 := by kernel_rfl
theorem ps_36 : parsOf s_36 = ([Str.ofString "_law_script"] : List Str) := by kernel_rfl
theorem noTb {x : Str} {Q : Addr -> Prop} (e : T.tb x = none) : ∀ P, T.tb x = some P -> Q P := fun P e2 => by rw [e] at e2; cases e2
theorem all_mk {l : PySem.W.OpenLaw} {w : World} {K : PySem.W.Frag} {h : Heap} {mg : Str -> Option Value} {fa : Addr} (X : K.In h) (G : h.Ns mainGlobals mg) (hfa : mg "law" = some (.ref fa))
  (a0 : FI K "is_whole" s_0)
  (a1 : FI K "is_between" s_1)
  (a2 : FI K "is_tuple_of" s_2)
  (a3 : FI K "are_whole" s_3)
  (a4 : FI K "are_rising" s_4)
  (a5 : FI K "is_key" s_5)
  (a6 : FI K "word_of" s_6)
  (a7 : FI K "is_worded" s_7)
  (a8 : FI K "is_single" s_8)
  (a9 : FI K "is_span" s_9)
  (a10 : FI K "is_deal" s_10)
  (a11 : FI K "is_call" s_11)
  (a12 : FI K "is_look" s_12)
  (a13 : FI K "is_value_pair" s_13)
  (a14 : FI K "is_lay" s_14)
  (a15 : FI K "is_step" s_15)
  (a16 : FI K "is_answer" s_16)
  (a17 : FI K "is_own_answer" s_17)
  (a18 : FI K "is_time" s_18)
  (a19 : FI K "is_deed" s_19)
  (a20 : FI K "times_of" s_20)
  (a21 : FI K "ended_below" s_21)
  (a22 : FI K "go_together" s_22)
  (a23 : FI K "look_over" s_23)
  (a24 : FI K "hands_in" s_24)
  (a25 : FIT K "of_hand" s_25 208)
  (a26 : FI K "really_ahead" s_26)
  (a27 : FI K "is_quiet" s_27)
  (a28 : FI K "quiet_times" s_28)
  (a29 : FI K "_law_cell_at" s_29)
  (a30 : FI K "_law_mixed" s_30)
  (a31 : FI K "_law_digit" s_31)
  (a32 : FI K "_law_asked" s_32)
  (a33 : FI K "_law_deeds" s_33)
  (a34 : FI K "_law_quiet" s_34)
  (a35 : FI K "_law_right" s_35)
  (a36 : FI K "law" s_36)
  {tg0 : Tok} (cg0 : PySem.W.nsIn K mainGlobals "LAST_KEY" = some (some (.int 7 tg0)))
  {tg1 : Tok} (cg1 : PySem.W.nsIn K mainGlobals "MOST_PARTS" = some (some (.int 4 tg1)))
  {tg2 : Tok} (cg2 : PySem.W.nsIn K mainGlobals "LAST_HAND" = some (some (.int 5 tg2)))
  {tg3 : Tok} (cg3 : PySem.W.nsIn K mainGlobals "MOST_DEEDS" = some (some (.int 60 tg3)))
  {p0 : Addr} {n0 : Nat} {hh0_0 hh0_1 hh0_2 hh0_3 : Int} {tk0_0 tv0_0 tk0_1 tv0_1 tk0_2 tv0_2 tk0_3 tv0_3 : Tok} (aT0 : PySem.W.nsIn K mainGlobals "NUMBERS_BEHIND" = some (some (.ref p0))) (lT0 : K.lookup p0 = some ⟨.type "dict", none, .dict #[⟨hh0_0, .str "read" tk0_0, .int 0 tv0_0⟩, ⟨hh0_1, .str "write" tk0_1, .int 1 tv0_1⟩, ⟨hh0_2, .str "add" tk0_2, .int 1 tv0_2⟩, ⟨hh0_3, .str "swap" tk0_3, .int 2 tv0_3⟩] n0, #[]⟩) (kT0 : PySem.W.KeysLit w.params [⟨hh0_0, .str "read" tk0_0, .int 0 tv0_0⟩, ⟨hh0_1, .str "write" tk0_1, .int 1 tv0_1⟩, ⟨hh0_2, .str "add" tk0_2, .int 1 tv0_2⟩, ⟨hh0_3, .str "swap" tk0_3, .int 2 tv0_3⟩]) (sT0 : (p0 == sysModules) = false)
  (zb : ∀ b ∈ blAll, PySem.W.nsIn K mainGlobals b = some none) :
  ∃ fd : FuncData, (∀ (s : Shared) (v : Value), BindsTo s fd ⟨[v], []⟩ [("_law_script", v)]) /\ ∀ base : Heap, K.In base -> base.Ns mainGlobals mg -> base.BuiltinsAt mg 208 -> FnOk l.prog w K mg base CX0 11 fa fd ["_law_script"] (upSp K (spOf (callD T 11 "law"))) := by
 have aL := a36
 obtain ⟨f36, od36, an36, sl36, oc36, kV36, dc36, pm36, cd36, ct36, b36, l36, c36, kk36⟩ := aL
 have e := hfa.symm.trans (PySem.W.mg_of X G b36)
 cases e
 have F36 := fun_mk (st := s_36) l36 c36 kk36
 refine ⟨PySem.W.fnOf "law" "law" (defArgs s_36) (defBody s_36) (defScope s_36) .none kV36 dc36 pm36 an36 cd36 ct36, fun s v => .of_eq rfl, fun base XB GB BB => ?_⟩
 have TT : TopOk T l.prog w K mg base := by
  refine ⟨fun x hx => ?_, fun x z hz => ?_, fun x f hf => ?_, fun x s hs => ?_⟩
  ·have hx : blAll.contains x = true := hx
   rw [List.contains_iff_mem] at hx
   exact PySem.W.mg_none_of X G (zb x hx)
  ·have hm := gc_mem (show gcOf body x = some z from hz)
   rw [gc_is] at hm
   simp only [List.mem_cons, List.not_mem_nil, or_false, Prod.mk.injEq] at hm
   rcases hm with ⟨rfl, rfl⟩ | ⟨rfl, rfl⟩ | ⟨rfl, rfl⟩ | ⟨rfl, rfl⟩
   ·exact ⟨.int 7, _, PySem.W.mg_of X G cg0, ⟨tg0, rfl⟩, fun _ _ => repI⟩
   ·exact ⟨.int 4, _, PySem.W.mg_of X G cg1, ⟨tg1, rfl⟩, fun _ _ => repI⟩
   ·exact ⟨.int 5, _, PySem.W.mg_of X G cg2, ⟨tg2, rfl⟩, fun _ _ => repI⟩
   ·exact ⟨.int 60, _, PySem.W.mg_of X G cg3, ⟨tg3, rfl⟩, fun _ _ => repI⟩
  ·obtain ⟨t, hm, rfl⟩ := tk_mem (show tkOf body x = some f from hf)
   rw [tk_is] at hm
   simp only [List.mem_cons, List.not_mem_nil, or_false, Prod.mk.injEq] at hm
   rcases hm with ⟨rfl, rfl⟩
   ·refine ⟨p0, PySem.W.mg_of X G aT0, ⟨⟨_, n0, lT0, kT0, fun y i hy => ?_, fun y hy => ?_⟩, sT0⟩⟩
    ·repeat rw [tab_cons]
     simp only [List.lookup] at hy
     repeat (first | (split at hy; (rename_i q; rw [if_pos (eq_of_beq q).symm]; cases hy; exact ⟨_, rfl⟩); (rename_i q; rw [if_neg (fun z => (beq_eq_false_iff_ne.mp q) z.symm)])) | cases hy)
    ·repeat rw [tab_cons]
     simp only [List.lookup] at hy
     repeat (split at hy; (cases hy); (rename_i q; rw [if_neg (fun z => (beq_eq_false_iff_ne.mp q) z.symm)]))
     rfl
  ·have hm := df_mem (show defsOf body x = some s from hs)
   rw [df_is] at hm
   simp only [List.mem_cons, List.not_mem_nil, or_false, Prod.mk.injEq] at hm
   rcases hm with ⟨rfl, rfl⟩ | ⟨rfl, rfl⟩ | ⟨rfl, rfl⟩ | ⟨rfl, rfl⟩ | ⟨rfl, rfl⟩ | ⟨rfl, rfl⟩ | ⟨rfl, rfl⟩ | ⟨rfl, rfl⟩ | ⟨rfl, rfl⟩ | ⟨rfl, rfl⟩ | ⟨rfl, rfl⟩ | ⟨rfl, rfl⟩ | ⟨rfl, rfl⟩ | ⟨rfl, rfl⟩ | ⟨rfl, rfl⟩ | ⟨rfl, rfl⟩ | ⟨rfl, rfl⟩ | ⟨rfl, rfl⟩ | ⟨rfl, rfl⟩ | ⟨rfl, rfl⟩ | ⟨rfl, rfl⟩ | ⟨rfl, rfl⟩ | ⟨rfl, rfl⟩ | ⟨rfl, rfl⟩ | ⟨rfl, rfl⟩ | ⟨rfl, rfl⟩ | ⟨rfl, rfl⟩ | ⟨rfl, rfl⟩ | ⟨rfl, rfl⟩ | ⟨rfl, rfl⟩ | ⟨rfl, rfl⟩ | ⟨rfl, rfl⟩ | ⟨rfl, rfl⟩ | ⟨rfl, rfl⟩ | ⟨rfl, rfl⟩ | ⟨rfl, rfl⟩ | ⟨rfl, rfl⟩
   ·obtain ⟨f, fd, h1, h2, h3⟩ := a0.ok X G (ps := ["thing"]) (by kernel_rfl) fun _ _ _ _ _ _ us hl => match us, hl with | [_], _ => rfl
    exact ⟨f, fd, h1, h2, h3, noTb (by kernel_rfl)⟩
   ·obtain ⟨f, fd, h1, h2, h3⟩ := a1.ok X G (ps := ["thing", "low", "high"]) (by kernel_rfl) fun _ _ _ _ _ _ us hl => match us, hl with | [_, _, _], _ => rfl
    exact ⟨f, fd, h1, h2, h3, noTb (by kernel_rfl)⟩
   ·obtain ⟨f, fd, h1, h2, h3⟩ := a2.ok X G (ps := ["thing", "length"]) (by kernel_rfl) fun _ _ _ _ _ _ us hl => match us, hl with | [_, _], _ => rfl
    exact ⟨f, fd, h1, h2, h3, noTb (by kernel_rfl)⟩
   ·obtain ⟨f, fd, h1, h2, h3⟩ := a3.ok X G (ps := ["things"]) (by kernel_rfl) fun _ _ _ _ _ _ us hl => match us, hl with | [_], _ => rfl
    exact ⟨f, fd, h1, h2, h3, noTb (by kernel_rfl)⟩
   ·obtain ⟨f, fd, h1, h2, h3⟩ := a4.ok X G (ps := ["numbers"]) (by kernel_rfl) fun _ _ _ _ _ _ us hl => match us, hl with | [_], _ => rfl
    exact ⟨f, fd, h1, h2, h3, noTb (by kernel_rfl)⟩
   ·obtain ⟨f, fd, h1, h2, h3⟩ := a5.ok X G (ps := ["thing"]) (by kernel_rfl) fun _ _ _ _ _ _ us hl => match us, hl with | [_], _ => rfl
    exact ⟨f, fd, h1, h2, h3, noTb (by kernel_rfl)⟩
   ·obtain ⟨f, fd, h1, h2, h3⟩ := a6.ok X G (ps := ["thing"]) (by kernel_rfl) fun _ _ _ _ _ _ us hl => match us, hl with | [_], _ => rfl
    exact ⟨f, fd, h1, h2, h3, noTb (by kernel_rfl)⟩
   ·obtain ⟨f, fd, h1, h2, h3⟩ := a7.ok X G (ps := ["thing", "word", "length"]) (by kernel_rfl) fun _ _ _ _ _ _ us hl => match us, hl with | [_, _, _], _ => rfl
    exact ⟨f, fd, h1, h2, h3, noTb (by kernel_rfl)⟩
   ·obtain ⟨f, fd, h1, h2, h3⟩ := a8.ok X G (ps := ["thing"]) (by kernel_rfl) fun _ _ _ _ _ _ us hl => match us, hl with | [_], _ => rfl
    exact ⟨f, fd, h1, h2, h3, noTb (by kernel_rfl)⟩
   ·obtain ⟨f, fd, h1, h2, h3⟩ := a9.ok X G (ps := ["thing"]) (by kernel_rfl) fun _ _ _ _ _ _ us hl => match us, hl with | [_], _ => rfl
    exact ⟨f, fd, h1, h2, h3, noTb (by kernel_rfl)⟩
   ·obtain ⟨f, fd, h1, h2, h3⟩ := a10.ok X G (ps := ["thing"]) (by kernel_rfl) fun _ _ _ _ _ _ us hl => match us, hl with | [_], _ => rfl
    exact ⟨f, fd, h1, h2, h3, noTb (by kernel_rfl)⟩
   ·obtain ⟨f, fd, h1, h2, h3⟩ := a11.ok X G (ps := ["thing"]) (by kernel_rfl) fun _ _ _ _ _ _ us hl => match us, hl with | [_], _ => rfl
    exact ⟨f, fd, h1, h2, h3, noTb (by kernel_rfl)⟩
   ·obtain ⟨f, fd, h1, h2, h3⟩ := a12.ok X G (ps := ["thing"]) (by kernel_rfl) fun _ _ _ _ _ _ us hl => match us, hl with | [_], _ => rfl
    exact ⟨f, fd, h1, h2, h3, noTb (by kernel_rfl)⟩
   ·obtain ⟨f, fd, h1, h2, h3⟩ := a13.ok X G (ps := ["thing"]) (by kernel_rfl) fun _ _ _ _ _ _ us hl => match us, hl with | [_], _ => rfl
    exact ⟨f, fd, h1, h2, h3, noTb (by kernel_rfl)⟩
   ·obtain ⟨f, fd, h1, h2, h3⟩ := a14.ok X G (ps := ["thing"]) (by kernel_rfl) fun _ _ _ _ _ _ us hl => match us, hl with | [_], _ => rfl
    exact ⟨f, fd, h1, h2, h3, noTb (by kernel_rfl)⟩
   ·obtain ⟨f, fd, h1, h2, h3⟩ := a15.ok X G (ps := ["thing"]) (by kernel_rfl) fun _ _ _ _ _ _ us hl => match us, hl with | [_], _ => rfl
    exact ⟨f, fd, h1, h2, h3, noTb (by kernel_rfl)⟩
   ·obtain ⟨f, fd, h1, h2, h3⟩ := a16.ok X G (ps := ["step", "thing"]) (by kernel_rfl) fun _ _ _ _ _ _ us hl => match us, hl with | [_, _], _ => rfl
    exact ⟨f, fd, h1, h2, h3, noTb (by kernel_rfl)⟩
   ·obtain ⟨f, fd, h1, h2, h3⟩ := a17.ok X G (ps := ["step", "thing"]) (by kernel_rfl) fun _ _ _ _ _ _ us hl => match us, hl with | [_, _], _ => rfl
    exact ⟨f, fd, h1, h2, h3, noTb (by kernel_rfl)⟩
   ·obtain ⟨f, fd, h1, h2, h3⟩ := a18.ok X G (ps := ["thing"]) (by kernel_rfl) fun _ _ _ _ _ _ us hl => match us, hl with | [_], _ => rfl
    exact ⟨f, fd, h1, h2, h3, noTb (by kernel_rfl)⟩
   ·obtain ⟨f, fd, h1, h2, h3⟩ := a19.ok X G (ps := ["thing"]) (by kernel_rfl) fun _ _ _ _ _ _ us hl => match us, hl with | [_], _ => rfl
    exact ⟨f, fd, h1, h2, h3, noTb (by kernel_rfl)⟩
   ·obtain ⟨f, fd, h1, h2, h3⟩ := a20.ok X G (ps := ["deed"]) (by kernel_rfl) fun _ _ _ _ _ _ us hl => match us, hl with | [_], _ => rfl
    exact ⟨f, fd, h1, h2, h3, noTb (by kernel_rfl)⟩
   ·obtain ⟨f, fd, h1, h2, h3⟩ := a21.ok X G (ps := ["deed", "time"]) (by kernel_rfl) fun _ _ _ _ _ _ us hl => match us, hl with | [_, _], _ => rfl
    exact ⟨f, fd, h1, h2, h3, noTb (by kernel_rfl)⟩
   ·obtain ⟨f, fd, h1, h2, h3⟩ := a22.ok X G (ps := ["one", "other"]) (by kernel_rfl) fun _ _ _ _ _ _ us hl => match us, hl with | [_, _], _ => rfl
    exact ⟨f, fd, h1, h2, h3, noTb (by kernel_rfl)⟩
   ·obtain ⟨f, fd, h1, h2, h3⟩ := a23.ok X G (ps := ["history"]) (by kernel_rfl) fun _ _ _ _ _ _ us hl => match us, hl with | [_], _ => rfl
    exact ⟨f, fd, h1, h2, h3, noTb (by kernel_rfl)⟩
   ·obtain ⟨f, fd, h1, h2, h3⟩ := a24.ok X G (ps := ["history"]) (by kernel_rfl) fun _ _ _ _ _ _ us hl => match us, hl with | [_], _ => rfl
    exact ⟨f, fd, h1, h2, h3, noTb (by kernel_rfl)⟩
   ·obtain ⟨f, fd, h1, h2, h3, c0, h4, h5⟩ := a25.ok X G (ps := ["history", "hand"]) (by kernel_rfl) fun _ _ _ _ _ _ us hl => match us, hl with | [_, _], _ => rfl
    have e2 : T.tb "of_hand" = some 208 := by kernel_rfl
    refine ⟨f, fd, h1, h2, h3, fun P e => ?_⟩
    rw [e2] at e
    cases e
    exact ⟨⟨c0, h4, h5⟩, BB⟩
   ·obtain ⟨f, fd, h1, h2, h3⟩ := a26.ok X G (ps := ["history", "a", "b"]) (by kernel_rfl) fun _ _ _ _ _ _ us hl => match us, hl with | [_, _, _], _ => rfl
    exact ⟨f, fd, h1, h2, h3, noTb (by kernel_rfl)⟩
   ·obtain ⟨f, fd, h1, h2, h3⟩ := a27.ok X G (ps := ["history", "time"]) (by kernel_rfl) fun _ _ _ _ _ _ us hl => match us, hl with | [_, _], _ => rfl
    exact ⟨f, fd, h1, h2, h3, noTb (by kernel_rfl)⟩
   ·obtain ⟨f, fd, h1, h2, h3⟩ := a28.ok X G (ps := ["history"]) (by kernel_rfl) fun _ _ _ _ _ _ us hl => match us, hl with | [_], _ => rfl
    exact ⟨f, fd, h1, h2, h3, noTb (by kernel_rfl)⟩
   ·obtain ⟨f, fd, h1, h2, h3⟩ := a29.ok X G (ps := ["_law_script", "_law_k"]) (by kernel_rfl) fun _ _ _ _ _ _ us hl => match us, hl with | [_, _], _ => rfl
    exact ⟨f, fd, h1, h2, h3, noTb (by kernel_rfl)⟩
   ·obtain ⟨f, fd, h1, h2, h3⟩ := a30.ok X G (ps := ["_law_number"]) (by kernel_rfl) fun _ _ _ _ _ _ us hl => match us, hl with | [_], _ => rfl
    exact ⟨f, fd, h1, h2, h3, noTb (by kernel_rfl)⟩
   ·obtain ⟨f, fd, h1, h2, h3⟩ := a31.ok X G (ps := ["_law_state", "_law_base"]) (by kernel_rfl) fun _ _ _ _ _ _ us hl => match us, hl with | [_, _], _ => rfl
    exact ⟨f, fd, h1, h2, h3, noTb (by kernel_rfl)⟩
   ·obtain ⟨f, fd, h1, h2, h3⟩ := a32.ok X G (ps := ["_law_state"]) (by kernel_rfl) fun _ _ _ _ _ _ us hl => match us, hl with | [_], _ => rfl
    exact ⟨f, fd, h1, h2, h3, noTb (by kernel_rfl)⟩
   ·obtain ⟨f, fd, h1, h2, h3⟩ := a33.ok X G (ps := ["_law_script", "_law_many", "_law_start", "_law_hands", "_law_gaps"]) (by kernel_rfl) fun _ _ _ _ _ _ us hl => match us, hl with | [_, _, _, _, _], _ => rfl
    exact ⟨f, fd, h1, h2, h3, noTb (by kernel_rfl)⟩
   ·obtain ⟨f, fd, h1, h2, h3⟩ := a34.ok X G (ps := ["_law_history", "_law_time"]) (by kernel_rfl) fun _ _ _ _ _ _ us hl => match us, hl with | [_, _], _ => rfl
    exact ⟨f, fd, h1, h2, h3, noTb (by kernel_rfl)⟩
   ·obtain ⟨f, fd, h1, h2, h3⟩ := a35.ok X G (ps := ["_law_history"]) (by kernel_rfl) fun _ _ _ _ _ _ us hl => match us, hl with | [_], _ => rfl
    exact ⟨f, fd, h1, h2, h3, noTb (by kernel_rfl)⟩
   ·obtain ⟨f, fd, h1, h2, h3⟩ := a36.ok X G (ps := ["_law_script"]) (by kernel_rfl) fun _ _ _ _ _ _ us hl => match us, hl with | [_], _ => rfl
    exact ⟨f, fd, h1, h2, h3, noTb (by kernel_rfl)⟩
 have q := law_fn (k := 10) TT law_def F36 (by kernel_rfl)
 rw [ps_36] at q
 exact q
theorem walk {l : PySem.W.OpenLaw} {q : Program} {loose : List Str} {XP : (Str -> Option Value) -> Heap -> Prop} {YP : World -> Heap -> Prop} {d : DefRec} {K : Params -> PySem.W.Frag} (hn : l.most = some 63) (hdf : d.params.defaults = [])
  (hY : ∀ (w : World) (h : Heap), YP w h -> (K w.params).In h /\ h.get? 208 = some (PySem.W.tabObj #[])) {c0 : Addr} (hKP : ∀ w : World, (K w.params).lookup 208 = none) (hcd : ∀ w : World, PySem.W.codeHdIn (K w.params) c0 208 = true)
  (F : ∀ (w : World) (mg : Str -> Option Value) (fa : Addr) (h : Heap), (K w.params).In h -> h.Ns mainGlobals mg -> mg d.name = some (.ref fa) ->
   ∃ fd : FuncData, (∀ (s : Shared) (u : Value), BindsTo s fd ⟨[u], []⟩ [("_law_script", u)]) /\ ∀ base : Heap, (K w.params).In base -> base.Ns mainGlobals mg -> base.BuiltinsAt mg 208 -> FnOk l.prog w (K w.params) mg base CX0 11 fa fd ["_law_script"] (upSp (K w.params) (spOf (callD T 11 "law")))) :
  PySem.W.WalkO q loose XP YP l.row.toRowW d [] (fun f vs => PySem.call f vs) :=
 CI.walk_ofT (n := 63) (k := 11) (x := "_law_script") (sp := fun w => upSp (K w.params) (spOf (callD T 11 "law"))) hn (by decide) hdf ⟨rfl, by decide, by decide⟩ hY hKP hcd F fun w H a ns hl hO hS => law_spT (t := T) (d := 11) (fun ns => law_ok ns 0) _ H a ns hO hS
end K08
open PySem PySem.W PyProof.Rows
set_option maxHeartbeats 0
theorem CI.hdF1 (tb : String -> Option Builtin) (p : Program) (w : World) (N : Nat) : fencedOpening tb p w N = (PySem.W.Fast.tw10274390034422433532 tb (opening p) w N (PySem.W.Fast.tw1435165496053646825 (opening p)).1 (PySem.W.Fast.tw1435165496053646825 (opening p)).2).bind (PySem.W.Fast.tw14289696077712309145 p) := by
 rw [<- PySem.W.Fast.te10274390034422433532, <- PySem.W.Fast.te1435165496053646825, <- PySem.W.Fast.te14289696077712309145]
 rfl
theorem CI.two_of {α β γ : Type} {A : α -> β} {B : α -> γ} {O : Option α} {a : β} {b : γ} (h1 : O.map A = some a) (h2 : O.map B = some b) : O.map (fun s => (A s, B s)) = some (a, b) := by
 cases O with
 | none => cases h1
 | some x => simp at h1 h2 ⊢; exact ⟨h1, h2⟩
def hdQ : Program := view PySem.Challenge.pw_storejudge_k08_hands_and_times [1, 2, 3, 4, 5, 7, 8, 9, 10, 11, 12, 13, 14, 15, 16, 17, 18, 19, 20, 21, 22, 24, 25, 27, 28, 29, 30, 31, 32, 33, 34, 35, 36, 37, 38, 39, 41, 42, 43, 44, 45, 46, 47, 48]
theorem hdS : PySem.Challenge.rw_storejudge_k08_hands_and_times.wellSaid = true := by decide +kernel
local macro_rules
 | `(tactic| o_head $H) => `(tactic| refine holds_open (q := hdQ) (loose := [Str.ofString "NUMBERS_BEHIND"]) (Xt := fun s => xlAt hdQ [] s && recOk (RowW.records (OpenRow.toRowW (OpenLaw.row PySem.Challenge.rw_storejudge_k08_hands_and_times))) s) (XP := XL hdQ []) (Yf := Hook.obs $H) (Ya := Hook.val $H) (YP := Hook.says $H) (N := 3436) ?hl (Hook.of $H) (Hook.keeps $H) (fun s e => xl_of s (Bool.and_eq_true_iff.mp e).1) XL.keeps (by rfl) (by rfl) (by rfl) (fun s e => recFacts_of (Bool.and_eq_true_iff.mp e).2) (by rfl) (by first | assumption | decide +kernel) (by decide +kernel) ⟨rfl, rfl, rfl, rfl, rfl, by decide +kernel⟩ ?hw ?hc)
theorem hdP (hf : False) : PySem.Challenge.rw_storejudge_k08_hands_and_times.Holds := by
 w_on; refine holds_law hdS fun said => ?_
 k_head
 all_goals exact hf.elim
noncomputable def hdA : List Addr := [2, 3, 15, 17, 18, 20, 21, 22, 24, 25, 27, 28, 29, 31, 32, 34, 35, 36, 39, 40, 41, 44, 45, 46, 47, 49, 50, 52, 53, 54, 56, 57, 59, 60, 61, 63, 64, 66, 67, 68, 70, 71, 73, 74, 75, 77, 78, 80, 81, 82, 85, 86, 87, 89, 90, 92, 93, 94, 96, 97, 99, 100, 101, 103, 104, 106, 107, 108, 111, 112, 113, 115, 116, 118, 119, 120, 122, 123, 125, 126, 127, 130, 131, 132, 139, 140, 141, 142, 145, 152, 154, 155, 157, 158, 159, 160, 161, 164, 166, 167, 169, 170, 171, 173, 174, 176, 177, 178, 180, 181, 183, 184, 185, 187, 188, 190, 191, 192, 195, 196, 197, 200, 201, 202, 205, 206, 207, 210, 211, 212, 214, 215, 217, 218, 219, 222, 223, 224, 227, 228, 229, 231, 232, 234, 235, 236, 238, 239, 241, 242, 243, 245, 246, 248, 249, 250, 252, 253, 255, 256, 257, 259, 260, 262, 263, 264, 267, 268, 269, 272, 273, 274, 276, 277, 279, 280]
theorem hdE (P : Params) : hdA = (hdP.heap_1 P).map (·.1) := by kernel_rfl
theorem hdL1 (w : World) : Option.map (fun s₀ => Option.map (fun s => (openSeen hdQ [Str.ofString "NUMBERS_BEHIND"] (importedModules PySem.Challenge.rw_storejudge_k08_hands_and_times.row.prog.main.body) (fun s => xlAt hdQ [] s && recOk PySem.Challenge.rw_storejudge_k08_hands_and_times.row.records s) true s, (kmHook hdP.heap_1 hdA hdE [208]).obs s)) (topFrom treeTable PySem.Challenge.rw_storejudge_k08_hands_and_times.row.prog (w.withFollow "special-get-raises" false) 3436 s₀)) (fencedOpening treeTable PySem.Challenge.rw_storejudge_k08_hands_and_times.row.prog w 3436) = some (some (openGood hdQ [Str.ofString "NUMBERS_BEHIND"], (kmHook hdP.heap_1 hdA hdE [208]).val (w.withFollow "special-get-raises" false))) := by
 simp only [CI.hdF1]
 unfold topFrom
 rw [PySem.W.Fast.te14082659384304107361, PySem.W.Fast.te14364793385576792824, PySem.W.Fast.te4187177175401517315]
 kernel_rfl
theorem hdL2 (w : World) : Option.map (fun s₀ => Option.map (fun s => (openSeen hdQ [Str.ofString "NUMBERS_BEHIND"] (importedModules PySem.Challenge.rw_storejudge_k08_hands_and_times.row.prog.main.body) (fun s => xlAt hdQ [] s && recOk PySem.Challenge.rw_storejudge_k08_hands_and_times.row.records s) true s, (kmHook hdP.heap_1 hdA hdE [208]).obs s)) (topFrom treeTable PySem.Challenge.rw_storejudge_k08_hands_and_times.row.prog (w.withFollow "special-get-raises" true) 3436 s₀)) (fencedOpening treeTable PySem.Challenge.rw_storejudge_k08_hands_and_times.row.prog w 3436) = some (some (openGood hdQ [Str.ofString "NUMBERS_BEHIND"], (kmHook hdP.heap_1 hdA hdE [208]).val (w.withFollow "special-get-raises" true))) := by
 simp only [CI.hdF1]
 unfold topFrom
 rw [PySem.W.Fast.te14082659384304107361, PySem.W.Fast.te14364793385576792824, PySem.W.Fast.te4187177175401517315]
 kernel_rfl
theorem PySem.Challenge.cw_storejudge_k08_hands_and_times_holds : PySem.Challenge.rw_storejudge_k08_hands_and_times.Holds := by
 w_on; refine holds_law hdS fun said => ?_
 o_head (kmHook hdP.heap_1 hdA hdE [208])
 case hl =>
  refine LeftO.of_split "special-get-raises" ?_
  intro w
  exact CI.two_of (hdL1 w) (hdL2 w)
 (case hw => w_witness2)
 k_fill
 refine K08.walk (l := PySem.Challenge.rw_storejudge_k08_hands_and_times) rfl rfl (fun w h Y => ⟨PySem.W.km_in_of Y, PySem.W.km_tabs_of Y 208 (by simp)⟩) (c0 := 210) (fun w => by kernel_rfl) (fun w => by kernel_rfl) ?F
 case F =>
  intro w mg fa h KX G hmg
  refine' K08.all_mk KX G hmg ?a0 ?a1 ?a2 ?a3 ?a4 ?a5 ?a6 ?a7 ?a8 ?a9 ?a10 ?a11 ?a12 ?a13 ?a14 ?a15 ?a16 ?a17 ?a18 ?a19 ?a20 ?a21 ?a22 ?a23 ?a24 ?a25 ?a26 ?a27 ?a28 ?a29 ?a30 ?a31 ?a32 ?a33 ?a34 ?a35 ?a36 ?cg0 ?cg1 ?cg2 ?cg3 ?aT0 ?lT0 ?kT0 ?sT0 ?zb
  all_goals try (first | (refine' CI.fi_mk ?a ?l ?c ?k; (case a => k_is); (case l => k_is); (case c => k_is); (case k => k_is)) | (refine' CI.fit_mk ?a ?l ?c ?k ?hd; (case a => k_is); (case l => k_is); (case c => k_is); (case k => k_is); (case hd => kernel_rfl)))
  (case cg0 => k_is)
  (case cg1 => k_is)
  (case cg2 => k_is)
  (case cg3 => k_is)
  (case aT0 => k_is); (case lT0 => k_is); (case kT0 => k_keys); (case sT0 => first | rfl | decide | k_is)
  (case zb => intro b hb; simp only [CI.blAll, List.mem_cons, List.not_mem_nil, or_false] at hb; rcases hb with rfl | rfl | rfl | rfl | rfl | rfl | rfl | rfl | rfl | rfl | rfl | rfl | rfl | rfl | rfl | rfl | rfl | rfl | rfl | rfl <;> k_is)
