import PyProof.Rows.All
import Wide.All
import OpenK.AllK
import Wide.FinOn
import Lean
import PyProof.EqAt
import PyProof.EqKinds
import PyProof.TupleCall
import PySem.Challenge.RW_storejudge_k52_what_implies_what
set_option Elab.async false
set_option linter.all false
set_option maxRecDepth 100000
/-! THE HAND LAYER, for ints, bools, texts, own classes, LISTS and tuples (index, slices, in, append, pop ..), calls, loops. Paste it whole ahead of your own text; what your proof does not reach may be deleted. -/
namespace L2
open PySem PySem.Spec PyProof.Rows

/-- a key: an int or a str -/
abbrev Key := Sum Int Str
def keyIs : Key → Value → Bool
  | .inl k, v => Value.isInt k v
  | .inr x, v => Value.isStrOf x v
def keyH (w : World) : Key → Int
  | .inl k => hashInt k
  | .inr x => hashStr w x
theorem keyIs_shape : ∀ {k : Key} {v : Value}, keyIs k v = true → (∃ i t, k = Sum.inl i ∧ v = Value.int i t) ∨ (∃ x t, k = Sum.inr x ∧ v = Value.str x t)
  | .inl i, v, h => by
    obtain ⟨t, e⟩ := Value.isInt_shape (k := i) (v := v) h
    exact .inl ⟨i, t, rfl, e⟩
  | .inr x, v, h => by
    obtain ⟨t, e⟩ := Value.isStrOf_shape (x := x) (v := v) h
    exact .inr ⟨x, t, rfl, e⟩
theorem keyIs_int (i : Int) (t : Tok) : keyIs (.inl i) (.int i t) = true := by simp [keyIs, Value.isInt]
theorem keyIs_str (x : Str) (t : Tok) : keyIs (.inr x) (.str x t) = true := by simp [keyIs, Value.isStrOf]
theorem key_ll (a b : Int) : decide ((Sum.inl a : Key) = Sum.inl b) = (a == b) := by
  by_cases e : a = b
  · subst e; simp
  · have h : ¬ (Sum.inl a : Key) = Sum.inl b := fun q => e (Sum.inl.inj q)
    rw [decide_eq_false h]
    exact (beq_eq_false_iff_ne.mpr e).symm
theorem key_rr (a b : Str) : decide ((Sum.inr a : Key) = Sum.inr b) = decide (a = b) := by
  by_cases e : a = b
  · subst e; simp
  · have h : ¬ (Sum.inr a : Key) = Sum.inr b := fun q => e (Sum.inr.inj q)
    rw [decide_eq_false h, decide_eq_false e]
theorem key_lr (a : Int) (b : Str) : decide ((Sum.inl a : Key) = Sum.inr b) = false := decide_eq_false (fun q => nomatch q)
theorem key_rl (a : Str) (b : Int) : decide ((Sum.inr a : Key) = Sum.inl b) = false := decide_eq_false (fun q => nomatch q)

def mixKind (prog : Program) (w : World) : PySem.KeyKind prog w Key where
  is := keyIs
  hash := keyH w
  inj := fun v a b ha hb => by
    rcases keyIs_shape ha with ⟨i, t, rfl, rfl⟩ | ⟨x, t, rfl, rfl⟩
    · rcases keyIs_shape hb with ⟨j, u, rfl, e⟩ | ⟨y, u, rfl, e⟩
      · injection e with e1 _; rw [e1]
      · exact nomatch e
    · rcases keyIs_shape hb with ⟨j, u, rfl, e⟩ | ⟨y, u, rfl, e⟩
      · exact nomatch e
      · injection e with e1 _; rw [e1]
  byValue := fun k v h => by
    rcases keyIs_shape h with ⟨i, t, rfl, rfl⟩ | ⟨x, t, rfl, rfl⟩ <;> rfl
  pyHash := fun hv h => by
    rcases keyIs_shape hv with ⟨i, t, rfl, rfl⟩ | ⟨x, t, rfl, rfl⟩
    · exact wpAny_pyHash_int h
    · exact wpAny_pyHash_str h
  eqBool := fun hu hv h => by
    rcases keyIs_shape hu with ⟨i, t, rfl, rfl⟩ | ⟨x, t, rfl, rfl⟩
    · rcases keyIs_shape hv with ⟨j, u, rfl, rfl⟩ | ⟨y, u, rfl, rfl⟩
      · rw [key_ll] at h; exact wpAny_eqBool_int h
      · rw [key_lr] at h; exact SeqAt.EqAt.int_str i t y u _ _ _ _ h
    · rcases keyIs_shape hv with ⟨j, u, rfl, rfl⟩ | ⟨y, u, rfl, rfl⟩
      · rw [key_rl] at h; exact SeqAt.EqAt.str_int x t j u _ _ _ _ h
      · rw [key_rr] at h; exact wpAny_eqBool_str h
  «strs» := fun k x t v h => by
    rcases keyIs_shape h with ⟨i, u, rfl, e⟩ | ⟨y, u, rfl, e⟩
    · exact nomatch e
    · injection e with e1 _
      subst e1
      cases v <;> rfl

theorem mixKind_is (prog : Program) (w : World) (k : Key) (v : Value) : (mixKind prog w).is k v = keyIs k v := rfl
theorem mixKind_int (prog : Program) (w : World) (i : Int) (t : Tok) : (mixKind prog w).is (.inl i) (.int i t) = true := keyIs_int i t
theorem mixKind_str (prog : Program) (w : World) (x : Str) (t : Tok) : (mixKind prog w).is (.inr x) (.str x t) = true := keyIs_str x t
end L2

namespace L2
open PySem PySem.Spec PyProof.Rows

/-- a value, without the heap -/
inductive V where
  | non | bl (b : Bool) | int (i : Int) | str (x : Str) | byt (b : Array UInt8) | flt (b : UInt64) | ref (a : Addr) | ty (n : String)
  deriving DecidableEq

def RelV : V → Value → Prop
  | .non, u => u = Value.none
  | .bl b, u => u = Value.bool b
  | .int i, u => ∃ t, u = Value.int i t
  | .str x, u => ∃ t, u = Value.str x t
  | .byt b, u => ∃ t, u = Value.bytes b t
  | .flt b, u => ∃ t, u = Value.float b t
  | .ref a, u => u = Value.ref a
  | .ty n, u => u = Value.type n

abbrev Vals : List V → List Value → Prop := Paired RelV
theorem Vals.length {xs : List V} {us : List Value} (r : Vals xs us) : xs.length = us.length := Paired.length r
theorem Vals.get : ∀ {xs : List V} {us : List Value} {i : Nat} {x : V}, Vals xs us → xs[i]? = some x → ∃ u, us[i]? = some u ∧ RelV x u
  | _, _, _, _, .nil, e => by simp at e
  | _, _, 0, _, .cons r _, e => by simp at e; subst e; exact ⟨_, rfl, r⟩
  | _, _, i + 1, x, .cons _ t, e => by
    obtain ⟨u, h1, h2⟩ := Vals.get (i := i) (x := x) t (by simpa using e)
    exact ⟨u, by simpa using h1, h2⟩
theorem Vals.set {x : V} {u : Value} (r : RelV x u) : ∀ {xs : List V} {us : List Value} (i : Nat), Vals xs us → Vals (xs.set i x) (us.set i u)
  | _, _, _, .nil => .nil
  | _, _, 0, .cons _ t => .cons r t
  | _, _, i + 1, .cons q t => .cons q (Vals.set r i t)
theorem Vals.append : ∀ {xs ys : List V} {us ws : List Value}, Vals xs us → Vals ys ws → Vals (xs ++ ys) (us ++ ws)
  | _, _, _, _, .nil, s => s
  | _, _, _, _, .cons r t, s => .cons r (Vals.append t s)
theorem Vals.take : ∀ {xs : List V} {us : List Value} (n : Nat), Vals xs us → Vals (xs.take n) (us.take n)
  | _, _, 0, _ => .nil
  | _, _, _ + 1, .nil => .nil
  | _, _, n + 1, .cons r t => .cons r (Vals.take n t)
theorem Vals.drop : ∀ {xs : List V} {us : List Value} (n : Nat), Vals xs us → Vals (xs.drop n) (us.drop n)
  | _, _, 0, r => r
  | _, _, _ + 1, .nil => .nil
  | _, _, n + 1, .cons _ t => Vals.drop n t
theorem Vals.none_of : ∀ {xs : List V} {us : List Value} {i : Nat}, Vals xs us → xs[i]? = none → us[i]? = none := fun {xs us i} r e => by
  have h1 := r.length
  have h2 : xs.length ≤ i := List.getElem?_eq_none_iff.mp e
  exact List.getElem?_eq_none_iff.mpr (by omega)

def RelO : Option V → Option Value → Prop
  | some v, some u => RelV v u
  | none, none => True
  | _, _ => False
def KV {κ : Type} : List (κ × V) → List (κ × Value) → Prop := Paired fun (p : κ × V) (q : κ × Value) => p.1 = q.1 ∧ RelV p.2 q.2

/-- a key of a dict (00_mix): an int or a text -/
def kV : Key → V
  | .inl i => .int i
  | .inr x => .str x

/-- what stands at a tracked address -/
inductive HO where
  /-- a list -/
  | lst (xs : List V)
  /-- a tuple (never changes) -/
  | tup (xs : List V)
  /-- a dict whose keys are ints and texts; one whose keys are tuples of ints and texts (the empty one is both) -/
  | dK (kvs : List (Key × V)) | dT (kvs : List (List Key × V))
  /-- a set of ints: its members, its size -/
  | set (S : Int → Bool) (n : Nat)
  /-- an instance of the class at C, its dict at dx, its attributes -/
  | ins (C dx : Addr) (fs : List (Str × V))
  /-- the dict of the instance at x -/
  | own (x : Addr)
  /-- the dict of an exception -/
  | xd (fs : List (Str × V))
  /-- a bound method, f of x -/
  | met (f x : Addr)
  /-- a range object lo, lo + 1, .. below hi -/
  | rng (lo hi : Int)
  /-- a thing that is known to the object (the script; a dict while a loop walks it): read, never written while it is so -/
  | frz (o : Obj) (u : HO)
  /-- a code object's table -/
  | tbl (ps : Array Value)
  /-- any other thing, by what is true of its one object (a def of one's own: SetO a S n := HO.ext fun h => ..) -/
  | ext (φ : Heap → Prop)

abbrev Hp := Addr → Option HO
def upd (H : Hp) (a : Addr) (o : HO) : Hp := fun b => if b = a then some o else H b
theorem upd_same {H : Hp} {a : Addr} {o : HO} : upd H a o a = some o := by unfold upd; rw [if_pos rfl]
theorem upd_ne {H : Hp} {a b : Addr} {o : HO} (h : b ≠ a) : upd H a o b = H b := by unfold upd; rw [if_neg h]
theorem upd_upd {H : Hp} {a : Addr} {o u : HO} : upd (upd H a o) a u = upd H a u := by
  funext b; unfold upd; split <;> rfl
/-- two objects of different content stand apart -/
theorem ne_of {H : Hp} {a b : Addr} {o u : HO} (h : H a = some o) (h' : H b = some u) (d : o ≠ u) : a ≠ b := by
  intro e; subst e; rw [h] at h'; exact d (Option.some.inj h')
theorem ne_of_none {H : Hp} {a b : Addr} {o : HO} (h : H a = some o) (h' : H b = none) : a ≠ b := by
  intro e; subst e; rw [h] at h'; cases h'

section
variable (P : Program) (w : World)
def ObjOk (H : Hp) (h : Heap) (a : Addr) : HO → Prop
  | .lst xs => xs.length ≤ sizeLine ∧ ∃ (its : List Value) (n : Nat), Vals xs its ∧ h.get? a = some { cls := .type "list", data := .seq its.toArray n }
  | .tup xs => xs.length ≤ sizeLine ∧ ∃ its : List Value, Vals xs its ∧ IsTup h a its.toArray
  | .dK kvs => kvs.length ≤ sizeLine ∧ (a == sysModules) = false ∧ ∃ vs, KV kvs vs ∧ h.DictOf (mixKind P w) a vs
  | .dT kvs => kvs.length ≤ sizeLine ∧ (a == sysModules) = false ∧ ∃ xs : List (List Key × Addr × Value),
      Paired (fun (p : List Key × V) (q : List Key × Addr × Value) => p.1 = q.1 ∧ H q.2.1 = some (.tup (p.1.map kV)) ∧ RelV p.2 q.2.2) kvs xs ∧
      ∃ o es ep, h.get? a = some o ∧ o.ExactDict ∧ o.data = .dict es ep ∧ es.toList = xs.map (entryOfKey (tupleKind (mixKind P w))) ∧ (xs.map (·.1)).Nodup
  | .set S n => h.SetOf (intKind P w) a S n
  | .ins C dx fs => H dx = some (.own a) ∧ fs.length ≤ 1000 ∧ dx ≠ a ∧ h.get? a = some (PySem.W.instObj C dx) ∧
      ∃ mA, h.Ns1 dx mA ∧ (∀ f, RelO (fs.lookup f) (mA f)) ∧ PySem.Within mA (fs.map (·.1))
  | .own _ => ∃ o, h.get? a = some o
  | .xd fs => ∃ mA, h.Ns1 a mA ∧ ∀ f, RelO (fs.lookup f) (mA f)
  | .rng lo hi => ∃ t u v, h.get? a = some { cls := .type "range", data := .fields #[.int lo t, .int hi u, .int 1 v] }
  | .frz o u => h.get? a = some o ∧ ObjOk H h a u
  | .tbl ps => h.get? a = some { cls := .none, data := .fields ps }
  | .met f x => h.get? a = some (PySem.W.methodObj (.ref f) (.ref x))
  | .ext φ => φ h ∧ (∃ o, h.get? a = some o) ∧ ∀ h1 h2 : Heap, φ h1 → (∀ o, h1.get? a = some o → h2.get? a = some o) → φ h2
/-- the abstract heap is held -/
def HOk (H : Hp) (h : Heap) : Prop := ∀ a o, H a = some o → ObjOk P w H h a o
end

section
variable {P : Program} {w : World} {H H' : Hp} {h h' : Heap} {a : Addr} {o : HO}
theorem ObjOk.lt (x : ObjOk P w H h a o) : a < h.objs.size := by
  cases o with
  | lst xs => obtain ⟨_, _, _, _, e⟩ := x; exact Heap.lt_size e
  | tup xs => obtain ⟨_, _, _, p⟩ := x; exact p.lt
  | dK kvs => obtain ⟨_, _, _, _, o, _, _, e, _⟩ := x; exact Heap.lt_size e
  | dT kvs => obtain ⟨_, _, _, _, o, _, _, e, _⟩ := x; exact Heap.lt_size e
  | set S n => obtain ⟨o, _, _, _, e, _⟩ := x; exact Heap.lt_size e
  | ins C dx fs => obtain ⟨_, _, _, e, _⟩ := x; exact Heap.lt_size e
  | own y => obtain ⟨_, e⟩ := x; exact Heap.lt_size e
  | xd fs => obtain ⟨_, ⟨_, _, _, e, _⟩, _⟩ := x; exact Heap.lt_size e
  | rng lo hi => obtain ⟨_, _, _, e⟩ := x; exact Heap.lt_size e
  | frz ob u => obtain ⟨e, _⟩ := x; exact Heap.lt_size e
  | tbl ps => exact Heap.lt_size (show h.get? a = some _ from x)
  | met f y => exact Heap.lt_size (show h.get? a = some _ from x)
  | ext φ => obtain ⟨_, ⟨_, e⟩, _⟩ := x; exact Heap.lt_size e
theorem Paired.mapP {α β : Type} {F G : α → β → Prop} : ∀ {l₁ : List α} {l₂ : List β}, Paired F l₁ l₂ → (∀ a b, F a b → G a b) → Paired G l₁ l₂
  | _, _, .nil, _ => .nil
  | _, _, .cons r t, f => .cons (f _ _ r) (Paired.mapP t f)
theorem Paired.imp' {α β : Type} {F G : α → β → Prop} (f : ∀ a b, F a b → G a b) {l₁ : List α} {l₂ : List β} (r : Paired F l₁ l₂) : Paired G l₁ l₂ := Paired.mapP r f
/-- what an object's description leans on: its own object, its own dict, the tuples -/
theorem ObjOk.stay (x : ObjOk P w H h a o) (k : ∀ b u, (b = a ∨ H b = some (.own a)) → h.get? b = some u → h'.get? b = some u)
    (ho : ∀ b, H b = some (.own a) → H' b = some (.own a)) (ht : ∀ b xs, H b = some (.tup xs) → H' b = some (.tup xs)) : ObjOk P w H' h' a o := by
  induction o with
  | lst xs => obtain ⟨z, its, n, r, e⟩ := x; exact ⟨z, its, n, r, k _ _ (.inl rfl) e⟩
  | tup xs => obtain ⟨z, its, r, ob, e, c⟩ := x; exact ⟨z, its, r, ob, k _ _ (.inl rfl) e, c⟩
  | dK kvs => obtain ⟨z, y, vs, r, ob, es, ep, e, c⟩ := x; exact ⟨z, y, vs, r, ob, es, ep, k _ _ (.inl rfl) e, c⟩
  | dT kvs =>
    obtain ⟨z, y, xs, r, ob, es, ep, e, c⟩ := x
    exact ⟨z, y, xs, Paired.mapP r fun p q z => ⟨z.1, ht _ _ z.2.1, z.2.2⟩, ob, es, ep, k _ _ (.inl rfl) e, c⟩
  | set S n => obtain ⟨ob, es, ep, t, e, c⟩ := x; exact ⟨ob, es, ep, t, k _ _ (.inl rfl) e, c⟩
  | ins C dx fs =>
    obtain ⟨d, z, ne, e, mA, ⟨od, es, ep, e2, c⟩, r⟩ := x
    exact ⟨ho _ d, z, ne, k _ _ (.inl rfl) e, mA, ⟨od, es, ep, k _ _ (.inr d) e2, c⟩, r⟩
  | own y => obtain ⟨ob, e⟩ := x; exact ⟨ob, k _ _ (.inl rfl) e⟩
  | xd fs => obtain ⟨mA, ⟨od, es, ep, e, c⟩, r⟩ := x; exact ⟨mA, ⟨od, es, ep, k _ _ (.inl rfl) e, c⟩, r⟩
  | rng lo hi => obtain ⟨t, u, v, e⟩ := x; exact ⟨t, u, v, k _ _ (.inl rfl) e⟩
  | frz ob u ih => obtain ⟨e, q⟩ := x; exact ⟨k _ _ (.inl rfl) e, ih q⟩
  | tbl ps =>
    have e : h.get? a = some { cls := .none, data := .fields ps } := x
    show h'.get? a = some { cls := .none, data := .fields ps }
    exact k a _ (.inl rfl) e
  | met f y =>
    have e : h.get? a = some (PySem.W.methodObj (.ref f) (.ref y)) := x
    show h'.get? a = some (PySem.W.methodObj (.ref f) (.ref y))
    exact k a _ (.inl rfl) e
  | ext φ => obtain ⟨p, ⟨o, e⟩, st⟩ := x; exact ⟨st _ _ p fun o q => k _ _ (.inl rfl) q, ⟨o, k _ _ (.inl rfl) e⟩, st⟩
theorem HOk.lt (x : HOk P w H h) (e : H a = some o) : a < h.objs.size := (x a o e).lt
theorem HOk.fresh (x : HOk P w H h) (e : h.objs.size ≤ a) : H a = none := by
  cases q : H a with
  | none => rfl
  | some u => exact absurd (Nat.lt_of_lt_of_le (x.lt q) e) (Nat.lt_irrefl _)
/-- every object of the heap is kept -/
theorem HOk.kept (x : HOk P w H h) (k : ∀ b u, h.get? b = some u → h'.get? b = some u) : HOk P w H h' := fun a o e =>
  (x a o e).stay (fun b u _ q => k b u q) (fun _ q => q) fun _ _ q => q
/-- a new object is laid and tracked -/
theorem HOk.laid (x : HOk P w H h) (k : ∀ b u, h.get? b = some u → h'.get? b = some u) (hp : h.objs.size ≤ a) (new : ObjOk P w (upd H a o) h' a o) : HOk P w (upd H a o) h' := fun b u e => by
  have hn := x.fresh hp
  by_cases hb : b = a
  · subst hb; rw [upd_same] at e; cases e; exact new
  · rw [upd_ne hb] at e
    exact (x b u e).stay (fun c v _ q => k c v q) (fun c q => by rw [upd_ne (ne_of_none q hn)]; exact q) fun c xs q => by rw [upd_ne (ne_of_none q hn)]; exact q
end

/-- what may be read as u: it is u, or a known u -/
def Rd (H : Hp) (a : Addr) (u : HO) : Prop := H a = some u ∨ ∃ o, H a = some (.frz o u)
theorem Rd.of {H : Hp} {a : Addr} {u : HO} (h : H a = some u) : Rd H a u := .inl h
theorem Rd.ok {P : Program} {w : World} {H : Hp} {h : Heap} {a : Addr} {u : HO} (r : Rd H a u) (x : HOk P w H h) : ObjOk P w H h a u := by
  rcases r with r | ⟨o, r⟩
  · exact x a u r
  · obtain ⟨_, q⟩ := x a _ r
    exact q
/-- what may be written -/
def Mut : Option HO → Prop
  | some (.lst _) => True
  | some (.dK _) => True
  | some (.dT _) => True
  | some (.set _ _) => True
  | some (.ins _ _ _) => True
  | some (.ext _) => True
  | _ => False
section
variable {P : Program} {w : World} {H : Hp} {h h' : Heap} {x e : Addr} {o' : HO}
/-- the object at e is changed: x itself, or the dict of the instance x -/
theorem HOk.write (ok : HOk P w H h) (mu : Mut (H x)) (he : e = x ∨ H e = some (.own x)) (k : ∀ b u, b ≠ e → h.get? b = some u → h'.get? b = some u) (heo : ∃ u, h'.get? e = some u)
    (new : ObjOk P w (upd H x o') h' x o') : HOk P w (upd H x o') h' := fun b u q => by
  have nown : ∀ c y, H c = some (.own y) → c ≠ x := fun c y r z => by subst z; rw [r] at mu; exact mu
  have ntup : ∀ c xs, H c = some (.tup xs) → c ≠ x := fun c xs r z => by subst z; rw [r] at mu; exact mu
  by_cases hb : b = x
  · subst hb; rw [upd_same] at q; cases q; exact new
  · rw [upd_ne hb] at q
    by_cases hbe : b = e
    · have q' : H b = some (.own x) := by
        rcases he with z | z
        · exact absurd (hbe.trans z) hb
        · rw [hbe]; exact z
      rw [q] at q'; cases q'
      obtain ⟨v, hv⟩ := heo
      exact ⟨v, by rw [hbe]; exact hv⟩
    · refine (ok b u q).stay (fun c v hc r => k c v ?_ r) (fun c r => by rw [upd_ne (nown c b r)]; exact r) fun c xs r => by rw [upd_ne (ntup c xs r)]; exact r
      rcases hc with rfl | hc
      · exact hbe
      · rintro rfl
        rcases he with z | z
        · exact nown c b hc z
        · rw [hc] at z; cases z; exact hb rfl
end

/-! ### kept unless tracked; of the frames at fs (the callers') the slots may change (an exception that passes writes there); of the records at ex (iterators) nothing is said -/
structure Un (fs ex : List Addr) (H H' : Hp) (h h' : Heap) : Prop where
  keep : ∀ b o, h.get? b = some o → H b = none → b ∉ fs → b ∉ ex → h'.get? b = some o
  slot : ∀ b o, h.get? b = some o → H b = none → b ∈ fs → b ∉ ex → ∃ sl, h'.get? b = some { o with slots := sl }
  free : ∀ b o, h.get? b = some o → H b = none → b ∉ ex → H' b = none
  there : ∀ b o, h.get? b = some o → b ∉ ex → ∃ o', h'.get? b = some o'
  tups : ∀ b xs, H b = some (.tup xs) → H' b = some (.tup xs)
  frzs : ∀ b o u, H b = some (.frz o u) → H' b = some (.frz o u)
  tbls : ∀ b ps, H b = some (.tbl ps) → ∃ more, H' b = some (.tbl (ps ++ more))
section
variable {fs fs' ex ex' : List Addr} {H H1 H2 : Hp} {h h1 h2 h' : Heap} {a x e : Addr} {o : HO}
theorem Un.any (u : Un fs ex H H1 h h1) {b : Addr} {ob : Obj} (q : h.get? b = some ob) (n : H b = none) (hx : b ∉ ex) : ∃ sl, h1.get? b = some { ob with slots := sl } := by
  by_cases hb : b ∈ fs
  · exact u.slot b ob q n hb hx
  · exact ⟨ob.slots, u.keep b ob q n hb hx⟩
theorem Un.trans (a : Un fs ex H H1 h h1) (b : Un fs ex H1 H2 h1 h2) : Un fs ex H H2 h h2 where
  keep := fun c ob q n hc hx => b.keep c ob (a.keep c ob q n hc hx) (a.free c ob q n hx) hc hx
  slot := fun c ob q n hc hx => by
    obtain ⟨sl, e1⟩ := a.slot c ob q n hc hx
    obtain ⟨sl', e2⟩ := b.slot c _ e1 (a.free c ob q n hx) hc hx
    exact ⟨sl', e2⟩
  free := fun c ob q n hx => by
    obtain ⟨o', e1⟩ := a.there c ob q hx
    exact b.free c o' e1 (a.free c ob q n hx) hx
  there := fun c ob q hx => by
    obtain ⟨o', e1⟩ := a.there c ob q hx
    exact b.there c o' e1 hx
  tups := fun c xs q => b.tups c xs (a.tups c xs q)
  frzs := fun c ob xs q => b.frzs c ob xs (a.frzs c ob xs q)
  tbls := fun c ps q => by
    obtain ⟨m1, e1⟩ := a.tbls c ps q
    obtain ⟨m2, e2⟩ := b.tbls c _ e1
    exact ⟨m1 ++ m2, by rw [e2, Array.append_assoc]⟩
theorem Un.kept (k : ∀ b u, h.get? b = some u → h'.get? b = some u) : Un fs ex H H h h' :=
  ⟨fun b ob q _ _ _ => k b ob q, fun b ob q _ _ _ => ⟨ob.slots, k b ob q⟩, fun _ _ _ n _ => n, fun b ob q _ => ⟨ob, k b ob q⟩, fun _ _ q => q, fun _ _ _ q => q, fun _ ps q => ⟨#[], by rw [q]; simp⟩⟩
theorem Un.refl : Un fs ex H H h h := Un.kept fun _ _ q => q
theorem Un.laid (k : ∀ b u, h.get? b = some u → h'.get? b = some u) (hp : h.objs.size ≤ a) (hn : H a = none) : Un fs ex H (upd H a o) h h' where
  keep := fun b u q _ _ _ => k b u q
  slot := fun b u q _ _ _ => ⟨u.slots, k b u q⟩
  free := fun b u q n _ => by rw [upd_ne (Nat.ne_of_lt (Nat.lt_of_lt_of_le (Heap.lt_size q) hp))]; exact n
  there := fun b u q _ => ⟨u, k b u q⟩
  tups := fun b xs q => by rw [upd_ne (ne_of_none q hn)]; exact q
  frzs := fun b u xs q => by rw [upd_ne (ne_of_none q hn)]; exact q
  tbls := fun b ps q => ⟨#[], by rw [upd_ne (ne_of_none q hn), q]; simp⟩
theorem Un.write (mu : Mut (H x)) (he : e = x ∨ H e = some (.own x)) (k : ∀ b u, b ≠ e → h.get? b = some u → h'.get? b = some u) (heo : ∃ u, h'.get? e = some u) : Un fs ex H (upd H x o) h h' := by
  have hx : ∀ b, H b = none → b ≠ x := fun b n z => by subst z; rw [n] at mu; exact mu
  have hb : ∀ b, H b = none → b ≠ e := fun b n z => by
    subst z
    rcases he with r | r
    · exact hx b n r
    · rw [n] at r; cases r
  have hm : ∀ b u, H b = some u → ¬ Mut (some u) → b ≠ x := fun b u q nm z => by subst z; rw [q] at mu; exact nm mu
  refine ⟨fun b u q n _ _ => k b u (hb b n) q, fun b u q n _ _ => ⟨u.slots, k b u (hb b n) q⟩, fun b u q n _ => by rw [upd_ne (hx b n)]; exact n, fun b u q _ => ?_,
    fun b xs q => by rw [upd_ne (hm b _ q fun z => z)]; exact q, fun b u xs q => by rw [upd_ne (hm b _ q fun z => z)]; exact q, fun b ps q => ⟨#[], by rw [upd_ne (hm b _ q fun z => z), q]; simp⟩⟩
  by_cases hbe : b = e
  · subst hbe; exact heo
  · exact ⟨u, k b u hbe q⟩
theorem Un.mono (u : Un fs ex H H1 h h1) (hs : ∀ b ∈ fs, b ∈ fs') (hx : ∀ b ∈ ex, b ∈ ex') : Un fs' ex' H H1 h h1 :=
  ⟨fun b ob q n hb he => u.keep b ob q n (fun z => hb (hs b z)) fun z => he (hx b z), fun _ _ q n _ he => u.any q n fun z => he (hx _ z), fun b ob q n he => u.free b ob q n fun z => he (hx b z), fun b ob q he => u.there b ob q fun z => he (hx b z), u.tups, u.frzs, u.tbls⟩
end

/-! ### the heap without what is tracked -/
def trk (h : Heap) (H : Hp) : List Addr := (List.range h.objs.size).filter fun a => (H a).isSome
def hidT (h : Heap) (H : Hp) : Heap := PySem.W.hideAll h (trk h H)
theorem hidT_size (h : Heap) (H : Hp) : (hidT h H).objs.size = h.objs.size := PySem.W.hideAll_size _ _
theorem hidT_get {h : Heap} {H : Hp} {b : Addr} {o : Obj} (e : h.get? b = some o) (n : H b = none) : (hidT h H).get? b = some o :=
  PySem.W.hideAll_get _ e fun hm => by
    have q : (H b).isSome = true := (List.mem_filter.mp hm).2
    rw [n] at q; simp at q
theorem of_hidT {h : Heap} {H : Hp} {b : Addr} {o : Obj} (e : (hidT h H).get? b = some o) : h.get? b = some o ∧ H b = none := by
  have e' : h.get? b = some o := PySem.W.of_hideAll (trk h H) e
  refine ⟨e', ?_⟩
  cases q : H b with
  | none => rfl
  | some x =>
    have hm : b ∈ trk h H := List.mem_filter.mpr ⟨List.mem_range.mpr (Heap.lt_size e'), by simp [q]⟩
    have z : (hidT h H).get? b = none := PySem.W.hideAll_none (trk h H) hm
    rw [z] at e; cases e

/-! ### OpenK's ledger, filled with every new object but one -/
def allNews (g h : Heap) (L : Addr) : List (Addr × Obj) := (List.range h.objs.size).filterMap fun a => if a = L ∨ (g.get? a).isSome = true then none else (h.get? a).map fun o => (a, o)
theorem mem_allNews {g h : Heap} {L a : Addr} {o : Obj} (h1 : a ≠ L) (h2 : g.get? a = none) (h3 : h.get? a = some o) : (a, o) ∈ allNews g h L :=
  List.mem_filterMap.mpr ⟨a, List.mem_range.mpr (Heap.lt_size h3), by simp [h1, h2, h3]⟩
theorem of_mem_allNews {g h : Heap} {L : Addr} {p : Addr × Obj} (hp : p ∈ allNews g h L) : p.1 ≠ L ∧ g.get? p.1 = none ∧ h.get? p.1 = some p.2 := by
  obtain ⟨b, _, e⟩ := List.mem_filterMap.mp hp
  split at e
  · cases e
  · rename_i hn
    cases q : h.get? b with
    | none => rw [q] at e; simp at e
    | some u =>
      rw [q] at e
      simp only [Option.map_some, Option.some.injEq] at e
      subst e
      refine ⟨fun z => hn (.inl z), ?_, q⟩
      show g.get? b = none
      cases r : g.get? b with
      | none => rfl
      | some v => exact (hn (.inr (by simp [r]))).elim
def rest (g h : Heap) (L d : Addr) : List (Addr × Obj) := (allNews g h L).filter fun p => decide (p.1 ≠ d)
theorem rest_ne {g h : Heap} {L d : Addr} : ∀ p ∈ rest g h L d, p.1 ≠ d := fun p hp => of_decide_eq_true (List.mem_filter.mp hp).2
theorem mem_rest {g h : Heap} {L d a : Addr} {o : Obj} (h1 : a ≠ L) (h2 : g.get? a = none) (h3 : h.get? a = some o) (h4 : a ≠ d) : (a, o) ∈ rest g h L d :=
  List.mem_filter.mpr ⟨mem_allNews h1 h2 h3, decide_eq_true h4⟩
theorem news_all {g h : Heap} {L : Addr} : News g L h (allNews g h L) := fun p hp => let ⟨a, b, c⟩ := of_mem_allNews hp; ⟨c, a, b⟩
theorem news_at {g h : Heap} {L d : Addr} {o : Obj} (h1 : d ≠ L) (h2 : g.get? d = none) (h3 : h.get? d = some o) : News g L h ((d, o) :: rest g h L d) := fun p hp => by
  rcases List.mem_cons.mp hp with rfl | hp
  · exact ⟨h3, h1, h2⟩
  · exact news_all p (List.mem_filter.mp hp).1
/-- behind a rule that changed d alone: all else but the frame is kept -/
theorem kept_of_news {g h h' : Heap} {L d : Addr} {m : Str → Option Value} (k : ∀ b o, g.get? b = some o → h.get? b = some o) (F : Fr g L h' m) (N : News g L h' (rest g h L d)) :
    ∀ b o, b ≠ L → b ≠ d → h.get? b = some o → h'.get? b = some o := fun b o h1 h2 e => by
  cases q : g.get? b with
  | some u =>
    have := k b u q
    rw [e] at this; cases this
    exact F.keep b _ q
  | none => exact (N (b, o) (mem_rest h1 q e h2)).1
end L2

namespace L2
open PySem PySem.Spec PyProof.Rows

/-- the module's facts, over the base: the heap at the law's entry without what is tracked there -/
structure Mod (K : PySem.W.Frag) (mg : Str → Option Value) (base : Heap) : Prop where
  kin : K.In base
  glob : base.Ns mainGlobals mg
  blt : ∃ mb, base.Ns builtinsNs mb ∧ ∀ x : Str, x ≠ "__name__" → mb x = bootBuiltins x
  nolimit : base.NoLimit

/-- the context: a def's body (or a comprehension's block) running. base: fixed through the whole law; s₀, H₀: the entry; outer: the frames whose slots others may change (a def's callers); stack: all frames that run;
   ex: iterators that were made ahead of the entry and are walked here (a comprehension's); fn: the names whose cells were made at the entry (a def: all; a comprehension's block: its own); calm: not within an except suite; pn: pins that every state bears; xe: what is wanted of an exception that leaves the code -/
structure Cx where
  prog : Program
  w : World
  K : PySem.W.Frag
  mg : Str → Option Value
  base : Heap
  A : Around
  N : List Str
  s₀ : Shared
  H₀ : Hp
  env : Env
  outer : List Env
  stack : List Env
  ex : List Addr
  fn : Str → Bool
  calm : Bool
  pn : List (Addr × Obj)
  xe : Value → Shared → Prop
/-- the callers' frames -/
def frs (l : List Env) : List Addr := l.filterMap (·.frame)
abbrev Cx.fs (X : Cx) : List Addr := frs X.outer

def Vis (sc : Scope) (x : Str) : Prop := sc.names.lookup x = some .local ∨ sc.names.lookup x = some .cell ∨ sc.names.lookup x = some .free
def Loc (sc : Scope) (x : Str) : Prop := sc.names.lookup x = some .local ∨ sc.names.lookup x = some .cell
def Look (env : Env) (h : Heap) (m : Str → Option Value) (x : Str) (u : Value) : Prop :=
  (env.kindOf x = some .local ∧ m x = some u) ∨ ((env.kindOf x = some .cell ∨ env.kindOf x = some .free) ∧ ∃ c, env.cells.lookup x = some c ∧ h.IsCell c (some u))

structure Cx.Ok (X : Cx) : Prop where
  mod : Mod X.K X.mg X.base
  kind : X.env.scope.kind = .function
  glob : X.env.globals = mainGlobals
  blt : X.env.builtins = builtinsNs
  above : X.s₀.heap.objs.size ≤ X.env.locals
  inj : ∀ x y c, X.env.cells.lookup x = some c → X.env.cells.lookup y = some c → x = y
  has : ∀ x, (X.env.kindOf x = some .cell ∨ X.env.kindOf x = some .free) → ∃ c, X.env.cells.lookup x = some c
  cab : ∀ x c, X.fn x = true → X.env.cells.lookup x = some c → X.s₀.heap.objs.size ≤ c
  hd : X.calm = true → X.A.handled = none
  frames : X.A.frames = some X.stack
  stk : X.stack = X.outer ∨ (X.stack = X.env :: X.outer ∧ X.env.frame = some X.env.locals)
  exf : ∀ b ∈ X.ex, b ≠ X.env.locals ∧ ∀ x c, X.env.cells.lookup x = some c → c ≠ b
  bs : ∀ b o, X.base.get? b = some o → X.s₀.heap.get? b = some o ∧ X.H₀ b = none
  bsz : X.base.objs.size ≤ X.s₀.heap.objs.size
  noex : ∀ b o, X.base.get? b = some o → b ∉ X.ex
  exfs : ∀ b ∈ X.ex, b ∉ X.fs
  funs : X.s₀.heap.FunFrames X.base X.outer
  frf : ∀ b ∈ X.fs, X.H₀ b = none

structure Inv (X : Cx) (pins : List (Addr × Obj)) (σ : List (Option V)) (H : Hp) (s : Shared) : Prop where
  ok : X.Ok
  os : s.os = X.s₀.os
  bare : AllBare s.gens
  base : Un X.fs X.ex X.H₀ H X.s₀.heap s.heap
  loc : ∃ m, s.heap.Ns X.env.locals m ∧ ∀ (i : Nat) (x : Str) (v : V), X.N[i]? = some x → σ[i]? = some (some v) → Vis X.env.scope x → ∃ u, RelV v u ∧ Look X.env s.heap m x u
  cell : ∀ x c, X.env.cells.lookup x = some c → ∃ v, s.heap.IsCell c v
  free : H X.env.locals = none
  freeC : ∀ x c, X.env.cells.lookup x = some c → H c = none
  pin : ∀ p ∈ X.pn ++ pins, s.heap.get? p.1 = some p.2 ∧ H p.1 = none ∧ p.1 ≠ X.env.locals ∧ p.1 ∉ X.fs ∧ ∀ v, p.2.data ≠ .cell v
  hok : HOk X.prog X.w H s.heap
  len : σ.length = X.N.length

section
variable {X : Cx} {pins : List (Addr × Obj)} {σ : List (Option V)} {H H' : Hp} {s : Shared} {h' : Heap}

theorem Cx.Ok.nofr (ok : X.Ok) {b : Addr} {o : Obj} (e : X.base.get? b = some o) : b ∉ X.fs := fun hb => by
  have := (ok.funs.mem hb).1
  rw [e] at this; cases this
theorem Inv.bs (I : Inv X pins σ H s) : ∀ b o, X.base.get? b = some o → s.heap.get? b = some o ∧ H b = none := fun b o e =>
  ⟨I.base.keep b o (I.ok.bs b o e).1 (I.ok.bs b o e).2 (I.ok.nofr e) (I.ok.noex b o e), I.base.free b o (I.ok.bs b o e).1 (I.ok.bs b o e).2 (I.ok.noex b o e)⟩
theorem Inv.bk (I : Inv X pins σ H s) : ∀ b o, X.base.get? b = some o → s.heap.get? b = some o := fun b o e => (I.bs b o e).1
theorem Inv.mod (I : Inv X pins σ H s) : Mod X.K X.mg X.base := I.ok.mod
theorem Inv.kIn (I : Inv X pins σ H s) : X.K.In s.heap := I.ok.mod.kin.keeps I.bk
theorem Inv.nolimit (I : Inv X pins σ H s) : s.heap.NoLimit := I.ok.mod.nolimit.keeps I.bk
/-- the frame over the base: for OpenK's rules (K.In X.base is I.mod.kin) -/
theorem Inv.fr (I : Inv X pins σ H s) : ∃ m, Fr X.base X.env.locals s.heap m :=
  let ⟨m, hn, _⟩ := I.loc
  ⟨m, hn, I.bk, Nat.le_trans I.ok.bsz I.ok.above⟩
theorem Inv.lt (I : Inv X pins σ H s) : X.env.locals < s.heap.objs.size := let ⟨_, hn, _⟩ := I.loc; hn.lt
theorem Inv.sz (I : Inv X pins σ H s) : X.s₀.heap.objs.size ≤ s.heap.objs.size := Nat.le_trans I.ok.above (Nat.le_of_lt I.lt)
theorem Inv.nofs (I : Inv X pins σ H s) {a : Addr} (h : s.heap.objs.size ≤ a) : a ∉ X.fs := fun hb => by
  obtain ⟨_, o, ho, _⟩ := I.ok.funs.mem hb
  exact absurd (Nat.lt_of_lt_of_le (Heap.lt_size ho) (Nat.le_trans I.sz h)) (Nat.lt_irrefl _)
theorem Inv.cne (I : Inv X pins σ H s) : ∀ x c, X.env.cells.lookup x = some c → c ≠ X.env.locals := fun x c e z => by
  obtain ⟨v, o, ho, hd⟩ := I.cell x c e
  obtain ⟨m, ⟨o', es, ep, ho', hd', _⟩, _⟩ := I.loc
  rw [z, ho'] at ho; cases ho; rw [hd'] at hd; cases hd
theorem Inv.funs (I : Inv X pins σ H s) : s.heap.FunFrames X.base X.outer := by
  have all : ∀ (l : List Env), (∀ b ∈ frs l, b ∈ X.fs) → X.s₀.heap.FunFrames X.base l → s.heap.FunFrames X.base l := by
    intro l
    induction l with
    | nil => intro _ _; trivial
    | cons env r ih =>
      intro hs hl
      obtain ⟨hk, ⟨L, o, hf, hn, ho, hd⟩, hr⟩ := hl
      have hL : L ∈ X.fs := hs L (by unfold frs; rw [List.filterMap_cons, hf]; exact List.mem_cons_self)
      obtain ⟨sl, e⟩ := I.base.slot L o ho (I.ok.frf L hL) hL fun z => I.ok.exfs L z hL
      exact ⟨hk, ⟨L, _, hf, hn, e, hd⟩, ih (fun b hb => hs b (by unfold frs; rw [List.filterMap_cons, hf]; exact List.mem_cons_of_mem _ hb)) hr⟩
  exact all X.outer (fun _ hb => hb) I.ok.funs

/-- the frames that run, for a call -/
theorem Inv.stack (I : Inv X pins σ H s) : s.heap.FunFrames X.base X.stack := by
  rcases I.ok.stk with e | ⟨e, hf⟩
  · rw [e]; exact I.funs
  · rw [e]
    obtain ⟨m, hn, _⟩ := I.loc
    refine .cons (by rw [I.ok.kind]; decide) hf hn ?_ I.funs
    exact Heap.get?_none_of_le (Nat.le_trans I.ok.bsz I.ok.above)
theorem Inv.stkSub (I : Inv X pins σ H s) : ∀ b ∈ frs X.stack, b ∈ X.env.locals :: X.fs := fun b hb => by
  rcases I.ok.stk with e | ⟨e, hf⟩
  · rw [e] at hb; exact List.mem_cons_of_mem _ hb
  · rw [e] at hb
    unfold frs at hb
    rw [List.filterMap_cons, hf] at hb
    exact hb
theorem Inv.stkFree (I : Inv X pins σ H s) : ∀ b ∈ frs X.stack, H b = none := fun b hb => by
  rcases List.mem_cons.mp (I.stkSub b hb) with e | hb
  · rw [e]; exact I.free
  · obtain ⟨_, o, ho, _⟩ := I.ok.funs.mem hb
    exact I.base.free b o ho (I.ok.frf b hb) fun z => I.ok.exfs b z hb

/-- THE STEP: the untracked objects but the frame and the records at ch are kept (the callers' frames up to slots), the frame's map is kept, the new abstract heap is held -/
theorem Inv.step {g' : Array GenState} {t' : Nat} {d' : Drawn} {ch : List Addr} (I : Inv X pins σ H s)
    (hch : ∀ b ∈ ch, (b ∈ X.ex ∨ X.s₀.heap.objs.size ≤ b) ∧ b ≠ X.env.locals ∧ (∀ x c, X.env.cells.lookup x = some c → c ≠ b) ∧ ∀ p ∈ X.pn ++ pins, p.1 ≠ b)
    (keep : ∀ b o, b ≠ X.env.locals → b ∉ X.fs → b ∉ ch → s.heap.get? b = some o → H b = none → h'.get? b = some o)
    (slot : ∀ b o, b ≠ X.env.locals → b ∈ X.fs → b ∉ ch → s.heap.get? b = some o → H b = none → ∃ sl, h'.get? b = some { o with slots := sl }) (free : ∀ b o, b ∉ ch → s.heap.get? b = some o → H b = none → H' b = none)
    (there : ∀ b o, b ∉ ch → s.heap.get? b = some o → ∃ o', h'.get? b = some o')
    (tups : ∀ b xs, H b = some (.tup xs) → H' b = some (.tup xs)) (frzs : ∀ b o u, H b = some (.frz o u) → H' b = some (.frz o u)) (tbls : ∀ b ps, H b = some (.tbl ps) → ∃ more, H' b = some (.tbl (ps ++ more)))
    (ns : ∀ m, s.heap.Ns X.env.locals m → h'.Ns X.env.locals m) (hok : HOk X.prog X.w H' h') (hg : AllBare g') :
    Inv X pins σ H' { s with heap := h', gens := g', drawn := d', toks := t' } := by
  have neL : ∀ b o, X.s₀.heap.get? b = some o → b ≠ X.env.locals := fun b o e => Nat.ne_of_lt (Nat.lt_of_lt_of_le (Heap.lt_size e) I.ok.above)
  have neC : ∀ b o, X.s₀.heap.get? b = some o → b ∉ X.ex → b ∉ ch := fun b o e hx hb => by
    rcases (hch b hb).1 with z | z
    · exact hx z
    · exact absurd (Nat.lt_of_lt_of_le (Heap.lt_size e) z) (Nat.lt_irrefl _)
  have cellK : ∀ x c, X.env.cells.lookup x = some c → ∀ v, s.heap.IsCell c v → h'.IsCell c v := fun x c e v ⟨o, ho, hd⟩ => by
    have nch : c ∉ ch := fun z => (hch c z).2.2.1 x c e rfl
    by_cases hc : c ∈ X.fs
    · obtain ⟨sl, q⟩ := slot c o (I.cne x c e) hc nch ho (I.freeC x c e)
      exact ⟨_, q, hd⟩
    · exact ⟨o, keep c o (I.cne x c e) hc nch ho (I.freeC x c e), hd⟩
  refine ⟨I.ok, I.os, hg, ⟨fun b o e n hb hx => ?_, fun b o e n hb hx => ?_, fun b o e n hx => ?_, fun b o e hx => ?_, fun b xs e => tups b xs (I.base.tups b xs e), fun b o xs e => frzs b o xs (I.base.frzs b o xs e), fun b ps e => ?_⟩, ?_, fun x c e => ?_, ?_, fun x c e => ?_, fun p hp => ?_, hok, I.len⟩
  · exact keep b o (neL b o e) hb (neC b o e hx) (I.base.keep b o e n hb hx) (I.base.free b o e n hx)
  · obtain ⟨sl, e1⟩ := I.base.slot b o e n hb hx
    obtain ⟨sl', e2⟩ := slot b _ (neL b o e) hb (neC b o e hx) e1 (I.base.free b o e n hx)
    exact ⟨sl', e2⟩
  · obtain ⟨o', e1⟩ := I.base.there b o e hx
    exact free b o' (neC b o e hx) e1 (I.base.free b o e n hx)
  · obtain ⟨o', e1⟩ := I.base.there b o e hx
    exact there b o' (neC b o e hx) e1
  · obtain ⟨m1, e1⟩ := I.base.tbls b ps e
    obtain ⟨m2, e2⟩ := tbls b _ e1
    exact ⟨m1 ++ m2, by rw [e2, Array.append_assoc]⟩
  · obtain ⟨m, hn, hl⟩ := I.loc
    refine ⟨m, ns m hn, fun i x v e1 e2 e3 => ?_⟩
    obtain ⟨u, r, l⟩ := hl i x v e1 e2 e3
    refine ⟨u, r, ?_⟩
    rcases l with l | ⟨k, c, e, z⟩
    · exact .inl l
    · exact .inr ⟨k, c, e, cellK x c e _ z⟩
  · obtain ⟨v, z⟩ := I.cell x c e
    exact ⟨v, cellK x c e v z⟩
  · obtain ⟨m, ⟨o, _, _, ho, _⟩, _⟩ := I.loc
    exact free _ o (fun z => (hch _ z).2.1 rfl) ho I.free
  · obtain ⟨v, o, ho, hd⟩ := I.cell x c e
    exact free c o (fun z => (hch c z).2.2.1 x c e rfl) ho (I.freeC x c e)
  · obtain ⟨e, n, ne, nf, d⟩ := I.pin p hp
    have nch : p.1 ∉ ch := fun z => (hch p.1 z).2.2.2 p hp rfl
    exact ⟨keep p.1 p.2 ne nf nch e n, free p.1 p.2 nch e n, ne, nf, d⟩
/-- .. where the frame's own object is kept too -/
theorem Inv.un {t' : Nat} (I : Inv X pins σ H s) (u : Un X.fs [] H H' s.heap h') (hok : HOk X.prog X.w H' h') : Inv X pins σ H' { s with heap := h', toks := t' } := by
  obtain ⟨m, ⟨o, es, ep, ho, r⟩, _⟩ := id I.loc
  obtain ⟨sl, hL⟩ := u.any ho I.free (by simp)
  exact I.step (g' := s.gens) (d' := s.drawn) (ch := []) (fun _ z => nomatch z) (fun b o _ hb _ e n => u.keep b o e n hb (by simp)) (fun b o _ hb _ e n => u.slot b o e n hb (by simp)) (fun b o _ e n => u.free b o e n (by simp)) (fun b o _ e => u.there b o e (by simp)) u.tups u.frzs u.tbls (fun m' hm => by
    obtain ⟨o', es', ep', ho', r'⟩ := hm
    rw [ho] at ho'; cases ho'
    exact ⟨_, es', ep', hL, r'⟩) hok I.bare
/-- behind a call (or a comprehension's block): the slots of this frame may have changed too, the records at ch may have turned -/
theorem Inv.call {g' : Array GenState} {t' : Nat} {d' : Drawn} {ch : List Addr} (I : Inv X pins σ H s) (u : Un (frs X.stack) ch H H' s.heap h') (hok : HOk X.prog X.w H' h') (hg : AllBare g')
    (hch : ∀ b ∈ ch, (b ∈ X.ex ∨ X.s₀.heap.objs.size ≤ b) ∧ b ≠ X.env.locals ∧ (∀ x c, X.env.cells.lookup x = some c → c ≠ b) ∧ ∀ p ∈ X.pn ++ pins, p.1 ≠ b) :
    Inv X pins σ H' { s with heap := h', gens := g', drawn := d', toks := t' } := by
  obtain ⟨m, ⟨o, es, ep, ho, r⟩, _⟩ := id I.loc
  obtain ⟨sl, hL⟩ := u.any ho I.free fun z => (hch _ z).2.1 rfl
  exact I.step (ch := ch) hch (fun b o hL hb hc e n => u.keep b o e n (fun z => (List.mem_cons.mp (I.stkSub b z)).elim hL hb) hc) (fun b o _ _ hc e n => u.any e n hc) (fun b o hc e n => u.free b o e n hc) (fun b o hc e => u.there b o e hc) u.tups u.frzs u.tbls (fun m' hm => by
    obtain ⟨o', es', ep', ho', r'⟩ := hm
    rw [ho] at ho'; cases ho'
    exact ⟨_, es', ep', hL, r'⟩) hok hg
/-- an untracked record of ours (an iterator) has turned -/
theorem Inv.turned {t' : Nat} {it : Addr} (I : Inv X pins σ H s) (k : ∀ b o, b ≠ it → s.heap.get? b = some o → h'.get? b = some o) (hn : H it = none) (hL : it ≠ X.env.locals)
    (h1 : it ∈ X.ex ∨ X.s₀.heap.objs.size ≤ it) (h2 : ∀ x c, X.env.cells.lookup x = some c → c ≠ it) (h3 : ∀ p ∈ X.pn ++ pins, p.1 ≠ it) : Inv X pins σ H { s with heap := h', toks := t' } := by
  have nit : ∀ b u, H b = some u → b ≠ it := fun b u e z => by rw [z, hn] at e; cases e
  refine I.step (g' := s.gens) (d' := s.drawn) (ch := [it]) (fun b hb => ?_) (fun b o _ _ hc e _ => k b o (fun z => hc (by simp [z])) e) (fun b o _ _ hc e _ => ⟨o.slots, k b o (fun z => hc (by simp [z])) e⟩) (fun _ _ _ _ n => n)
    (fun b o hc e => ⟨o, k b o (fun z => hc (by simp [z])) e⟩) (fun _ _ e => e) (fun _ _ _ e => e) (fun b ps e => ⟨#[], by rw [e]; simp⟩) (fun m hm => ?_) (fun b u e => ?_) I.bare
  · have e : b = it := by simpa using hb
    subst e
    exact ⟨h1, hL, h2, h3⟩
  · obtain ⟨o, es, ep, ho, r⟩ := hm
    exact ⟨o, es, ep, k _ o (Ne.symm hL) ho, r⟩
  · refine (I.hok b u e).stay (fun c v hc q => k c v ?_ q) (fun _ q => q) fun _ _ q => q
    rcases hc with z | z
    · rw [z]; exact nit b u e
    · exact nit c _ z
theorem Inv.tok (I : Inv X pins σ H s) (t : Nat) : Inv X pins σ H { s with toks := t } := I.un (h' := s.heap) (t' := t) Un.refl I.hok
/-- all objects kept -/
theorem Inv.kept {t' : Nat} (I : Inv X pins σ H s) (k : ∀ b u, s.heap.get? b = some u → h'.get? b = some u) : Inv X pins σ H { s with heap := h', toks := t' } := I.un (Un.kept k) (I.hok.kept k)
/-- a new object laid and tracked -/
theorem Inv.laid {a : Addr} {o : HO} {t' : Nat} (I : Inv X pins σ H s) (k : ∀ b u, s.heap.get? b = some u → h'.get? b = some u) (hp : s.heap.objs.size ≤ a) (new : ObjOk X.prog X.w (upd H a o) h' a o) :
    Inv X pins σ (upd H a o) { s with heap := h', toks := t' } := I.un (Un.laid k hp (I.hok.fresh hp)) (I.hok.laid k hp new)
/-- an object written -/
theorem Inv.write {x e : Addr} {o : HO} {t' : Nat} (I : Inv X pins σ H s) (mu : Mut (H x)) (he : e = x ∨ H e = some (.own x)) (k : ∀ b u, b ≠ e → s.heap.get? b = some u → h'.get? b = some u) (heo : ∃ u, h'.get? e = some u)
    (new : ObjOk X.prog X.w (upd H x o) h' x o) : Inv X pins σ (upd H x o) { s with heap := h', toks := t' } := I.un (Un.write mu he k heo) (I.hok.write mu he k heo new)
/-- forgetting slots, pins -/
theorem Inv.weak {σ' : List (Option V)} (I : Inv X pins σ H s) (hl : σ'.length = σ.length) (w : ∀ (i : Nat) v, σ'[i]? = some (some v) → σ[i]? = some (some v)) : Inv X pins σ' H s :=
  ⟨I.ok, I.os, I.bare, I.base, let ⟨m, hn, hl'⟩ := I.loc; ⟨m, hn, fun i x v e1 e2 e3 => hl' i x v e1 (w i v e2) e3⟩, I.cell, I.free, I.freeC, I.pin, I.hok, hl.trans I.len⟩
theorem Inv.pins_of {pins' : List (Addr × Obj)} (I : Inv X pins σ H s) (h : ∀ p ∈ pins', s.heap.get? p.1 = some p.2 ∧ H p.1 = none ∧ p.1 ≠ X.env.locals ∧ p.1 ∉ X.fs ∧ ∀ v, p.2.data ≠ .cell v) : Inv X pins' σ H s :=
  ⟨I.ok, I.os, I.bare, I.base, I.loc, I.cell, I.free, I.freeC, fun p hp => (List.mem_append.mp hp).elim (fun z => I.pin p (List.mem_append_left _ z)) (h p), I.hok, I.len⟩

theorem nodup_ix {N : List Str} (hN : N.Nodup) {i j : Nat} {x : Str} (a : N[i]? = some x) (b : N[j]? = some x) : i = j := by
  obtain ⟨h1, e1⟩ := List.getElem?_eq_some_iff.mp a
  obtain ⟨h2, e2⟩ := List.getElem?_eq_some_iff.mp b
  exact (List.getElem_inj hN).mp (e1.trans e2.symm)

/-- a name is stored; what changed -/
theorem store_ok2 {M : Model} {A : Around} {E : Value → Shared → Prop} {i : Nat} {x : Str} {v : V} {u : Value} {Q : Unit → Shared → Prop} (I : Inv X pins σ H s) (hN : X.N.Nodup) (hi : X.N[i]? = some x) (hx : Loc X.env.scope x) (r : RelV v u)
    (h : ∀ s', Inv X pins (σ.set i (some v)) H s' → (∃ a, Heap.SameBut a s.heap s'.heap ∧ (a = X.env.locals ∨ X.env.cells.lookup x = some a)) → Q () s') (hf : X.fn x = true ∨ X.env.scope.names.lookup x = some .local := by first | exact .inl rfl | exact .inr rfl | assumption) : wpAny M A (storeName X.env x u) Q E s := by
  obtain ⟨m, hn, hl⟩ := id I.loc
  have hcls : (X.env.scope.kind == .class || (X.env.scope.kind == .module && X.env.locals != X.env.globals)) = false := by rw [I.ok.kind]; rfl
  have hiσ : i < σ.length := by rw [I.len]; exact (List.getElem?_eq_some_iff.mp hi).1
  have cne := I.cne
  have tracked : ∀ {a : Addr} {h' : Heap}, (∃ o, s.heap.get? a = some o ∧ H a = none) → Heap.SameBut a s.heap h' → HOk X.prog X.w H h' := fun {a h'} ha hs b ob e => by
    obtain ⟨_, _, hfree⟩ := ha
    refine (I.hok b ob e).stay (fun c w' hc q => (hs.2 c ?_).trans q) (fun _ q => q) fun _ _ q => q
    rintro rfl
    rcases hc with rfl | hc
    · rw [hfree] at e; cases e
    · rw [hfree] at hc; cases hc
  rcases hx with hk | hk
  · refine wpAny_storeName_local hk hn (fun h' hn' hs => ?_) hcls
    obtain ⟨oL, _, _, hoL, _⟩ := id hn
    refine h _ ⟨I.ok, I.os, I.bare, ⟨fun b o e n hb hx => ?_, fun b o e n hb hx => ?_, I.base.free, fun b o e hx => ?_, I.base.tups, I.base.frzs, I.base.tbls⟩, ⟨_, hn', fun j y v' e1 e2 e3 => ?_⟩, fun y c e => ?_, I.free, I.freeC, fun p hp => ?_, tracked ⟨oL, hoL, I.free⟩ hs, by simpa using I.len⟩ ⟨_, hs, .inl rfl⟩
    · exact (hs.2 b (Nat.ne_of_lt (Nat.lt_of_lt_of_le (Heap.lt_size e) I.ok.above))).trans (I.base.keep b o e n hb hx)
    · obtain ⟨sl, e1⟩ := I.base.slot b o e n hb hx
      exact ⟨sl, (hs.2 b (Nat.ne_of_lt (Nat.lt_of_lt_of_le (Heap.lt_size e) I.ok.above))).trans e1⟩
    · obtain ⟨o', e1⟩ := I.base.there b o e hx
      exact ⟨o', (hs.2 b (Nat.ne_of_lt (Nat.lt_of_lt_of_le (Heap.lt_size e) I.ok.above))).trans e1⟩
    · by_cases hj : j = i
      · subst hj
        rw [hi] at e1; cases e1
        rw [List.getElem?_set_self hiσ] at e2
        cases e2
        exact ⟨u, r, .inl ⟨hk, by simp⟩⟩
      · rw [List.getElem?_set_ne (Ne.symm hj)] at e2
        obtain ⟨u', r', q⟩ := hl j y v' e1 e2 e3
        refine ⟨u', r', ?_⟩
        rcases q with ⟨k, e⟩ | ⟨k, c, e, z⟩
        · refine .inl ⟨k, ?_⟩
          have : y ≠ x := fun e => hj (nodup_ix hN e1 (e ▸ hi))
          simp [this, e]
        · exact .inr ⟨k, c, e, z.sameBut hs (cne y c e)⟩
    · obtain ⟨w', z⟩ := I.cell y c e
      exact ⟨w', z.sameBut hs (cne y c e)⟩
    · obtain ⟨e, n, ne, nf, d⟩ := I.pin p hp
      exact ⟨(hs.2 p.1 ne).trans e, n, ne, nf, d⟩
  · have hfn : X.fn x = true := by
      rcases hf with z | z
      · exact z
      · rw [z] at hk; cases hk
    obtain ⟨c, hc⟩ := I.ok.has x (.inl hk)
    obtain ⟨w', z⟩ := I.cell x c hc
    refine wpAny_storeName_cell I.ok.kind hk hc z (fun h' hc' hs => ?_)
    obtain ⟨oc, hoc, hocd⟩ := id z
    refine h { s with heap := h' } ⟨I.ok, I.os, I.bare, ⟨fun b o e n hb hx => ?_, fun b o e n hb hx => ?_, I.base.free, fun b o e hx => ?_, I.base.tups, I.base.frzs, I.base.tbls⟩, ⟨m, hn.sameBut hs (Ne.symm (cne x c hc)), fun j y v' e1 e2 e3 => ?_⟩, fun y c' e => ?_, I.free, I.freeC, fun p hp => ?_, tracked ⟨oc, hoc, I.freeC x c hc⟩ hs, by simpa using I.len⟩ ⟨c, hs, .inr hc⟩
    · exact (hs.2 b (Nat.ne_of_lt (Nat.lt_of_lt_of_le (Heap.lt_size e) (I.ok.cab x c hfn hc)))).trans (I.base.keep b o e n hb hx)
    · obtain ⟨sl, e1⟩ := I.base.slot b o e n hb hx
      exact ⟨sl, (hs.2 b (Nat.ne_of_lt (Nat.lt_of_lt_of_le (Heap.lt_size e) (I.ok.cab x c hfn hc)))).trans e1⟩
    · obtain ⟨o', e1⟩ := I.base.there b o e hx
      exact ⟨o', (hs.2 b (Nat.ne_of_lt (Nat.lt_of_lt_of_le (Heap.lt_size e) (I.ok.cab x c hfn hc)))).trans e1⟩
    · by_cases hj : j = i
      · subst hj
        rw [hi] at e1; cases e1
        rw [List.getElem?_set_self hiσ] at e2
        cases e2
        exact ⟨u, r, .inr ⟨.inl hk, c, hc, hc'⟩⟩
      · rw [List.getElem?_set_ne (Ne.symm hj)] at e2
        obtain ⟨u', r', q⟩ := hl j y v' e1 e2 e3
        refine ⟨u', r', ?_⟩
        rcases q with q | ⟨k, c', e, z'⟩
        · exact .inl q
        · refine .inr ⟨k, c', e, z'.sameBut hs ?_⟩
          rintro rfl
          exact hj (nodup_ix hN e1 (I.ok.inj _ _ _ e hc ▸ hi))
    · by_cases hcc : c' = c
      · subst hcc; exact ⟨_, hc'⟩
      · obtain ⟨w2, z2⟩ := I.cell y c' e
        exact ⟨w2, z2.sameBut hs hcc⟩
    · obtain ⟨e, n, ne, nf, d⟩ := I.pin p hp
      refine ⟨(hs.2 p.1 ?_).trans e, n, ne, nf, d⟩
      intro q
      rw [q, hoc] at e
      have q' : oc = p.2 := Option.some.inj e
      exact d w' (by rw [← q']; exact hocd)
theorem store_ok {M : Model} {A : Around} {E : Value → Shared → Prop} {i : Nat} {x : Str} {v : V} {u : Value} {Q : Unit → Shared → Prop} (I : Inv X pins σ H s) (hN : X.N.Nodup) (hi : X.N[i]? = some x) (hx : Loc X.env.scope x) (r : RelV v u)
    (h : ∀ s', Inv X pins (σ.set i (some v)) H s' → Q () s') (hf : X.fn x = true ∨ X.env.scope.names.lookup x = some .local := by first | exact .inl rfl | exact .inr rfl | assumption) : wpAny M A (storeName X.env x u) Q E s :=
  store_ok2 I hN hi hx r (fun s' I' _ => h s' I') hf
/-- behind a call or a block, the state as it is -/
theorem Inv.call' {s' : Shared} {ch : List Addr} (I : Inv X pins σ H s) (ho : s'.os = s.os) (u : Un (frs X.stack) ch H H' s.heap s'.heap) (hok : HOk X.prog X.w H' s'.heap) (hg : AllBare s'.gens)
    (hch : ∀ b ∈ ch, (b ∈ X.ex ∨ X.s₀.heap.objs.size ≤ b) ∧ b ≠ X.env.locals ∧ (∀ x c, X.env.cells.lookup x = some c → c ≠ b) ∧ ∀ p ∈ X.pn ++ pins, p.1 ≠ b) : Inv X pins σ H' s' := by
  obtain ⟨h', g', d', t', o'⟩ := s'
  have e : o' = s.os := ho
  subst e
  exact I.call (g' := g') (t' := t') (d' := d') u hok hg hch
end

/-! ### the judgements -/
/-- an exception: its class, its own dict's address (where it has one), the abstract heap behind it -/
abbrev XK := Value → Option Addr → Hp → Prop
abbrev St := List (Option V)
abbrev VK := V → Hp → Prop
/-- an expression's reading; a test's; an argument list's -/
abbrev TE := St → Hp → VK → Prop
abbrev TT := St → Hp → (Bool → Hp → Prop) → Prop
abbrev TA := St → Hp → (List V → Hp → Prop) → Prop
/-- what is wanted behind a statement -/
structure Ends where
  nx : St → Hp → Prop
  rt : VK
  bk : St → Hp → Prop := fun _ _ => False
  ct : St → Hp → Prop := fun _ _ => False
abbrev TS := Ends → St → Hp → Prop

def EP (X : Cx) (pins : List (Addr × Obj)) (σ : St) (Q : VK) (u : Value) (s' : Shared) : Prop := ∃ v H', Inv X pins σ H' s' ∧ RelV v u ∧ Q v H'
def TP (X : Cx) (pins : List (Addr × Obj)) (σ : St) (Q : Bool → Hp → Prop) (b : Bool) (s' : Shared) : Prop := ∃ H', Inv X pins σ H' s' ∧ Q b H'
def AP (X : Cx) (pins : List (Addr × Obj)) (σ : St) (Q : List V → Hp → Prop) (us : List Value) (s' : Shared) : Prop := ∃ vs H', Inv X pins σ H' s' ∧ Vals vs us ∧ Q vs H'
def SP (X : Cx) (pins : List (Addr × Obj)) (D : Ends) (f : Flow) (s' : Shared) : Prop :=
  match f with
  | .next => ∃ σ' H', Inv X pins σ' H' s' ∧ D.nx σ' H'
  | .brk => ∃ σ' H', Inv X pins σ' H' s' ∧ D.bk σ' H'
  | .cont => ∃ σ' H', Inv X pins σ' H' s' ∧ D.ct σ' H'
  | .ret u => ∃ v σ' H', Inv X pins σ' H' s' ∧ RelV v u ∧ D.rt v H'

def PE (X : Cx) (e : Expr) (t : TE) : Prop :=
  ∀ (pins : List (Addr × Obj)) (s : Shared) (σ : St) (H : Hp) (Q : VK), Inv X pins σ H s → t σ H Q → wpAny (model X.prog X.w) X.A (eval e X.env) (EP X pins σ Q) X.xe s
def PT (X : Cx) (e : Expr) (t : TT) : Prop :=
  ∀ (pins : List (Addr × Obj)) (s : Shared) (σ : St) (H : Hp) (Q : Bool → Hp → Prop), Inv X pins σ H s → t σ H Q → wpAny (model X.prog X.w) X.A (isTrue e X.env (eval e X.env)) (TP X pins σ Q) X.xe s
/-- a test whatever its 'whole' is (and, or) -/
def PW (X : Cx) (e : Expr) (t : TT) : Prop :=
  ∀ (whole : Sem Value) (pins : List (Addr × Obj)) (s : Shared) (σ : St) (H : Hp) (Q : Bool → Hp → Prop), Inv X pins σ H s → t σ H Q → wpAny (model X.prog X.w) X.A (isTrue e X.env whole) (TP X pins σ Q) X.xe s
theorem PW.pt {X : Cx} {e : Expr} {t : TT} (h : PW X e t) : PT X e t := h _
/-- an argument list (no star), from the left -/
def PA (X : Cx) (es : List Expr) (t : TA) : Prop :=
  ∀ (pos : Pos) (pins : List (Addr × Obj)) (s : Shared) (σ : St) (H : Hp) (Q : List V → Hp → Prop), Inv X pins σ H s → t σ H Q → wpAny (model X.prog X.w) X.A (spliced (backTo pos (starEach es X.env))) (AP X pins σ Q) X.xe s
def PS (X : Cx) (st : Stmt) (t : TS) : Prop :=
  ∀ (pins : List (Addr × Obj)) (s : Shared) (σ : St) (H : Hp) (D : Ends), Inv X pins σ H s → t D σ H → wpAny (model X.prog X.w) X.A (exec st X.env) (SP X pins D) X.xe s
def PSs (X : Cx) (st : List Stmt) (t : TS) : Prop :=
  ∀ (pins : List (Addr × Obj)) (s : Shared) (σ : St) (H : Hp) (D : Ends), Inv X pins σ H s → t D σ H → wpAny (model X.prog X.w) X.A (execs st X.env) (SP X pins D) X.xe s
/-- weaken the end -/
theorem thn {α : Type} {t : Sem α} {Q Q' : α → Shared → Prop} {M : Model} {A : Around} {E : Value → Shared → Prop} {s : Shared} (h : wpAny M A t Q E s) (hQ : ∀ a s, Q a s → Q' a s) : wpAny M A t Q' E s := wpAny_mono h hQ fun _ _ x => x
end L2

namespace L2
open PySem PySem.Spec PyProof.Rows
section
variable {X : Cx}

/-- two expressions in a row -/
theorem bin {a b : Expr} {ta tb : TE} (ha : PE X a ta) (hb : PE X b tb) {pins : List (Addr × Obj)} {s : Shared} {σ : St} {H : Hp} {R : V → V → Hp → Prop} (I : Inv X pins σ H s) (h : ta σ H fun x H1 => tb σ H1 fun y H2 => R x y H2)
    {α : Type} {Q : α → Shared → Prop} {f : Value → Value → Sem α}
    (hf : ∀ v u s2 x y H2, Inv X pins σ H2 s2 → RelV x v → RelV y u → R x y H2 → wpAny (model X.prog X.w) X.A (f v u) Q X.xe s2) :
    wpAny (model X.prog X.w) X.A (eval a X.env) (fun v s₁ => wpAny (model X.prog X.w) X.A (eval b X.env) (fun u s₂ => wpAny (model X.prog X.w) X.A (f v u) Q X.xe s₂) X.xe s₁) X.xe s := by
  refine thn (ha pins s σ H _ I h) fun v s1 ⟨x, H1, I1, r1, q1⟩ => ?_
  refine thn (hb pins s1 σ H1 _ I1 q1) fun u s2 ⟨y, H2, I2, r2, q2⟩ => ?_
  exact hf v u s2 x y H2 I2 r1 r2 q2

/-! ### names and constants -/
def tVar (i : Nat) : TE := fun σ H Q => ∃ v, σ[i]? = some (some v) ∧ Q v H
def tC (v : V) : TE := fun _ H Q => Q v H
theorem pe_var {i : Nat} {x : Str} {pos : Pos} (hN : X.N[i]? = some x) (hv : Vis X.env.scope x) (hd : (x == ("__debug__" : Str)) = false := by decide) (hcd : (x == ("__classdict__" : Str)) = false := by decide) : PE X (.Name x pos) (tVar i) := by
  intro pins s σ H Q I h
  obtain ⟨v, e, h⟩ := h
  obtain ⟨m, hn, hl⟩ := I.loc
  obtain ⟨u, r, l⟩ := hl i x v hN e hv
  have fin : EP X pins σ Q u s := ⟨v, H, I, r, h⟩
  rcases l with ⟨hk, hm⟩ | ⟨hk, c, hc, hcell⟩
  · exact wpAny_Name (wpAny_loadName_local I.ok.kind hk hn hm fin) hd
  · rcases hk with hk | hk
    · exact wpAny_Name (wpAny_loadName_cell I.ok.kind hk hc hcell fin) hd
    · exact wpAny_Name (wpAny_loadName_free I.ok.kind hk hc hcell fin hcd) hd
theorem pe_int {i j pos} : PE X (.Constant (.int i) j pos) (tC (.int i)) := fun _ _ _ H _ I h => wpAny_Constant_int ⟨.int i, H, I.tok _, ⟨_, rfl⟩, h⟩
theorem pe_bl {b j pos} : PE X (.Constant (.bool b) j pos) (tC (.bl b)) := fun _ _ _ H _ I h => Constant_bool ⟨.bl b, H, I, rfl, h⟩
theorem pe_non {j pos} : PE X (.Constant .none j pos) (tC .non) := fun _ _ _ H _ I h => Constant_none ⟨.non, H, I, rfl, h⟩
theorem pe_str {x j pos} : PE X (.Constant (.str x) j pos) (tC (.str x)) := fun _ _ _ H _ I h => Calls.Constant_str ⟨.str x, H, I.tok _, ⟨_, rfl⟩, h⟩

/-- a global name of the def -/
def Gl (X : Cx) (x : Str) : Prop := X.env.kindOf x = some .globalImplicit
theorem ld_glob {E : Value → Shared → Prop} {pins : List (Addr × Obj)} {s : Shared} {σ : St} {H : Hp} {x : Str} {u : Value} {pos : Pos} {Q : Value → Shared → Prop} (I : Inv X pins σ H s) (hg : Gl X x) (hm : X.mg x = some u) (h : Q u s)
    (hd : (x == ("__debug__" : Str)) = false := by decide) : wpAny (model X.prog X.w) X.A (eval (.Name x pos) X.env) Q E s :=
  Calls.Name_function_global I.ok.kind hg (Calls.loadGlobal_global (by rw [I.ok.glob]; exact I.mod.glob.keeps I.bk) hm h) hd
theorem ld_blt {E : Value → Shared → Prop} {pins : List (Addr × Obj)} {s : Shared} {σ : St} {H : Hp} {x : Str} {u : Value} {pos : Pos} {Q : Value → Shared → Prop} (I : Inv X pins σ H s) (hg : Gl X x) (hm : X.mg x = none) (hv : bootBuiltins x = some u) (h : Q u s)
    (hn : x ≠ "__name__" := by decide) (hd : (x == ("__debug__" : Str)) = false := by decide) : wpAny (model X.prog X.w) X.A (eval (.Name x pos) X.env) Q E s := by
  obtain ⟨mb, h1, h2⟩ := I.mod.blt
  exact Calls.Name_function_global I.ok.kind hg (Calls.loadGlobal_builtin (by rw [I.ok.glob]; exact I.mod.glob.keeps I.bk) hm (by rw [I.ok.blt]; exact h1.keeps I.bk) ((h2 x hn).trans hv) h) hd
/-- a module's constant, a class, a function, as a value -/
theorem pe_glob {x : Str} {v : V} {u : Value} {pos : Pos} (hg : Gl X x) (hm : X.mg x = some u) (r : RelV v u) (hd : (x == ("__debug__" : Str)) = false := by decide) : PE X (.Name x pos) (tC v) :=
  fun _ _ _ H _ I h => ld_glob I hg hm ⟨v, H, I, r, h⟩ hd
theorem pe_bltn {x : Str} {v : V} {u : Value} {pos : Pos} (hg : Gl X x) (hm : X.mg x = none) (hv : bootBuiltins x = some u) (r : RelV v u) (hn : x ≠ "__name__" := by decide) (hd : (x == ("__debug__" : Str)) = false := by decide) : PE X (.Name x pos) (tC v) :=
  fun _ _ _ H _ I h => ld_blt I hg hm hv ⟨v, H, I, r, h⟩ hn hd

/-! ### arithmetic -/
/-- two ints -/
def t2I (ta tb : TE) (k : Int → Int → Hp → Prop) : St → Hp → Prop := fun σ H => ta σ H fun x H1 => tb σ H1 fun y H2 => ∃ i j, x = .int i ∧ y = .int j ∧ k i j H2
def tAdd (ta tb : TE) : TE := fun σ H Q => t2I ta tb (fun i j H2 => Q (.int (i + j)) H2) σ H
def tSub (ta tb : TE) : TE := fun σ H Q => t2I ta tb (fun i j H2 => Q (.int (i - j)) H2) σ H
/-- the left factor below 2^64 -/
def tMul (ta tb : TE) : TE := fun σ H Q => t2I ta tb (fun i j H2 => (-(2 ^ 64) < i ∧ i < 2 ^ 64) ∧ Q (.int (i * j)) H2) σ H
variable {a b : Expr} {ta tb : TE} {pos : Pos}
theorem pe_add (ha : PE X a ta) (hb : PE X b tb) : PE X (.BinOp a .Add b pos) (tAdd ta tb) := by
  intro pins s σ H Q I h
  refine wpAny_BinOp (bin ha hb I h fun v u s2 x y H2 I2 rx ry q => ?_)
  obtain ⟨i, j, rfl, rfl, q⟩ := q
  obtain ⟨t, rfl⟩ := rx
  obtain ⟨t', rfl⟩ := ry
  exact add_int ⟨.int _, H2, I2.tok _, ⟨_, rfl⟩, q⟩
theorem pe_sub (ha : PE X a ta) (hb : PE X b tb) : PE X (.BinOp a .Sub b pos) (tSub ta tb) := by
  intro pins s σ H Q I h
  refine wpAny_BinOp (bin ha hb I h fun v u s2 x y H2 I2 rx ry q => ?_)
  obtain ⟨i, j, rfl, rfl, q⟩ := q
  obtain ⟨t, rfl⟩ := rx
  obtain ⟨t', rfl⟩ := ry
  exact sub_int ⟨.int _, H2, I2.tok _, ⟨_, rfl⟩, q⟩
theorem pe_mul (ha : PE X a ta) (hb : PE X b tb) : PE X (.BinOp a .Mult b pos) (tMul ta tb) := by
  intro pins s σ H Q I h
  refine wpAny_BinOp (bin ha hb I h fun v u s2 x y H2 I2 rx ry q => ?_)
  obtain ⟨i, j, rfl, rfl, ⟨q1, q2⟩, q⟩ := q
  obtain ⟨t, rfl⟩ := rx
  obtain ⟨t', rfl⟩ := ry
  exact mul_int ⟨.int _, H2, I2.tok _, ⟨_, rfl⟩, q⟩ (.of_left (intBits_le_64 q1 q2))

/-! ### comparisons -/
def PC (X : Cx) (op : CmpOp) (a b : Expr) (t : TE) : Prop :=
  ∀ (pins : List (Addr × Obj)) (s : Shared) (σ : St) (H : Hp) (Q : VK), Inv X pins σ H s → t σ H Q →
    wpAny (model X.prog X.w) X.A (eval a X.env) (fun v s₁ => wpAny (model X.prog X.w) X.A (eval b X.env) (fun u s₂ => wpAny (model X.prog X.w) X.A (compareOp op v u) (EP X pins σ Q) X.xe s₂) X.xe s₁) X.xe s
theorem nobehind (b : Expr) {op : CmpOp} (h : op ≠ .In) (h2 : op ≠ .NotIn) : behindInMarks op b = false := by
  have e1 : (op == CmpOp.In) = false := by cases op <;> first | rfl | exact absurd rfl h
  have e2 : (op == CmpOp.NotIn) = false := by cases op <;> first | rfl | exact absurd rfl h2
  cases b <;> simp [behindInMarks, e1, e2]
def tCmp (p : Int → Int → Bool) (ta tb : TE) : TE := fun σ H Q => t2I ta tb (fun i j H2 => Q (.bl (p i j)) H2) σ H
abbrev tLt : TE → TE → TE := tCmp fun i j => decide (i < j)
abbrev tLe : TE → TE → TE := tCmp fun i j => decide (i ≤ j)
abbrev tGt : TE → TE → TE := tCmp fun i j => decide (j < i)
abbrev tGe : TE → TE → TE := tCmp fun i j => decide (j ≤ i)
abbrev tEqI : TE → TE → TE := tCmp fun i j => decide (i = j)
abbrev tNeI : TE → TE → TE := tCmp fun i j => !decide (i = j)
/-- a comparison of two ints, by its rule -/
theorem pc_int {op : CmpOp} {p : Int → Int → Bool} (ha : PE X a ta) (hb : PE X b tb)
    (rule : ∀ (i j : Int) (t u : Tok) (Q : Value → Shared → Prop) (s : Shared), Q (.bool (p i j)) s → wpAny (model X.prog X.w) X.A (compareOp op (.int i t) (.int j u)) Q X.xe s) : PC X op a b (tCmp p ta tb) := by
  intro pins s σ H Q I h
  refine bin ha hb I h fun v u s2 x y H2 I2 rx ry q => ?_
  obtain ⟨i, j, rfl, rfl, q⟩ := q
  obtain ⟨t, rfl⟩ := rx
  obtain ⟨t', rfl⟩ := ry
  exact rule i j t t' _ s2 ⟨.bl _, H2, I2, rfl, q⟩
theorem pc_lt (ha : PE X a ta) (hb : PE X b tb) : PC X .Lt a b (tLt ta tb) := pc_int ha hb fun _ _ _ _ _ _ h => lt_int h
theorem pc_le (ha : PE X a ta) (hb : PE X b tb) : PC X .LtE a b (tLe ta tb) := pc_int ha hb fun _ _ _ _ _ _ h => le_int h
theorem pc_gt (ha : PE X a ta) (hb : PE X b tb) : PC X .Gt a b (tGt ta tb) := pc_int ha hb fun _ _ _ _ _ _ h => gt_int h
theorem pc_ge (ha : PE X a ta) (hb : PE X b tb) : PC X .GtE a b (tGe ta tb) := pc_int ha hb fun _ _ _ _ _ _ h => ge_int h
theorem pc_eqI (ha : PE X a ta) (hb : PE X b tb) : PC X .Eq a b (tEqI ta tb) := pc_int ha hb fun _ _ _ _ _ _ h => eq_int (by rw [Bool.beq_eq_decide_eq]; exact h)
theorem pc_neI (ha : PE X a ta) (hb : PE X b tb) : PC X .NotEq a b (tNeI ta tb) := pc_int ha hb fun _ _ _ _ _ _ h => ne_int (by rw [bne, Bool.beq_eq_decide_eq]; exact h)
/-- is None -/
def tIsN (ta : TE) : TE := fun σ H Q => ta σ H fun x H1 => Q (.bl (decide (x = .non))) H1
def tNotN (ta : TE) : TE := fun σ H Q => ta σ H fun x H1 => Q (.bl (!decide (x = .non))) H1
theorem RelV.none_iff {x : V} {v : Value} (r : RelV x v) : (v == Value.none) = decide (x = .non) := by
  cases x with
  | non => cases r; rfl
  | bl _ => cases r; rfl
  | int _ => obtain ⟨t, rfl⟩ := r; rfl
  | str _ => obtain ⟨t, rfl⟩ := r; rfl
  | byt _ => obtain ⟨t, rfl⟩ := r; rfl
  | flt _ => obtain ⟨t, rfl⟩ := r; rfl
  | ref _ => cases r; rfl
  | ty _ => cases r; rfl
theorem pc_isN {j pos'} (ha : PE X a ta) : PC X .Is a (.Constant .none j pos') (tIsN ta) := by
  intro pins s σ H Q I h
  refine thn (ha pins s σ H _ I h) fun v s1 ⟨x, H1, I1, r1, q1⟩ => ?_
  exact Constant_none (is_none_gen ⟨.bl _, H1, I1, by rw [r1.none_iff]; rfl, q1⟩)
theorem pc_notN {j pos'} (ha : PE X a ta) : PC X .IsNot a (.Constant .none j pos') (tNotN ta) := by
  intro pins s σ H Q I h
  refine thn (ha pins s σ H _ I h) fun v s1 ⟨x, H1, I1, r1, q1⟩ => ?_
  exact Constant_none (isnot_none_gen ⟨.bl _, H1, I1, by rw [r1.none_iff]; rfl, q1⟩)
/-- a comparison as a value, as a test -/
def tB (t : TE) : TT := fun σ H Q => t σ H fun x H1 => ∃ c, x = .bl c ∧ Q c H1
theorem pe_cmp {op : CmpOp} {t : TE} (h : PC X op a b t) (h1 : behindInMarks op b = false := by first | exact nobehind _ (by decide) (by decide) | rfl) : PE X (.Compare a [op] [b] pos) t := fun pins s σ H Q I hw => wpAny_Compare1 (h pins s σ H Q I hw) h1
theorem pt_cmp {op : CmpOp} {t : TE} (h : PC X op a b t) (h1 : behindInMarks op b = false := by first | exact nobehind _ (by decide) (by decide) | rfl) : PT X (.Compare a [op] [b] pos) (tB t) := by
  intro pins s σ H Q I hw
  refine wpAny_isTrue_Compare1 (thn (h pins s σ H _ I hw) fun v s1 h1 => thn h1 fun u s2 h2 => thn h2 fun c s3 ⟨x, H1, I1, r1, q1⟩ => ?_) h1
  obtain ⟨d, rfl, q⟩ := q1
  cases r1
  exact wpAny_truthy_bool ⟨H1, I1, q⟩
/-- an expression whose value is a bool, as a test -/
theorem pt_val {e : Expr} {t : TE} (h : PE X e t) (he : ∀ whole, isTrue e X.env whole = (do let v ← whole; standAt e.pos; holding [v] (truthy v)) := by intro _; rfl) : PT X e (tB t) := by
  intro pins s σ H Q I hw
  refine isTrue_plain (thn (h pins s σ H _ I hw) fun v s1 ⟨x, H1, I1, r1, q1⟩ => ?_) (he _)
  obtain ⟨d, rfl, q⟩ := q1
  cases r1
  exact wpAny_truthy_bool ⟨H1, I1, q⟩

/-! ### and, or, not -/
variable {tA tB' : TT} {rest : List Expr}
def tAnd (t u : TT) : TT := fun σ H Q => t σ H fun c H1 => if c = true then u σ H1 Q else Q false H1
def tOr (t u : TT) : TT := fun σ H Q => t σ H fun c H1 => if c = true then Q true H1 else u σ H1 Q
def tNot (t : TT) : TT := fun σ H Q => t σ H fun c H1 => Q (!c) H1
theorem pw_and1 (ha : PT X a tA) : PW X (.BoolOp .And [a] pos) tA := by
  intro wh pins s σ H Q I h
  refine isTrue_and (thn (ha pins s σ H Q I h) fun c s1 e => ?_)
  cases c with
  | true => exact isTrue_and_nil e
  | false => exact e
theorem pw_or1 (ha : PT X a tA) : PW X (.BoolOp .Or [a] pos) tA := by
  intro wh pins s σ H Q I h
  refine isTrue_or (thn (ha pins s σ H Q I h) fun c s1 e => ?_)
  cases c with
  | false => exact isTrue_or_nil e
  | true => exact e
theorem pw_and (ha : PT X a tA) (hb : PW X (.BoolOp .And (b :: rest) pos) tB') : PW X (.BoolOp .And (a :: b :: rest) pos) (tAnd tA tB') := by
  intro wh pins s σ H Q I h
  refine isTrue_and (thn (ha pins s σ H _ I h) fun c s1 ⟨H1, I1, q1⟩ => ?_)
  cases c with
  | true => exact hb wh pins s1 σ H1 Q I1 q1
  | false => exact ⟨H1, I1, q1⟩
theorem pw_or (ha : PT X a tA) (hb : PW X (.BoolOp .Or (b :: rest) pos) tB') : PW X (.BoolOp .Or (a :: b :: rest) pos) (tOr tA tB') := by
  intro wh pins s σ H Q I h
  refine isTrue_or (thn (ha pins s σ H _ I h) fun c s1 ⟨H1, I1, q1⟩ => ?_)
  cases c with
  | true => exact ⟨H1, I1, q1⟩
  | false => exact hb wh pins s1 σ H1 Q I1 q1
theorem pt_not (ha : PT X a tA) : PT X (.UnaryOp .Not a pos) (tNot tA) := by
  intro pins s σ H Q I h
  exact isTrue_not (ha pins s σ H (fun c H1 => Q (!c) H1) I h)
/-- .. as values (bools) -/
def tAndV (ta tb : TE) : TE := fun σ H Q => ta σ H fun x H1 => ∃ c, x = .bl c ∧ if c = true then tb σ H1 Q else Q (.bl false) H1
def tOrV (ta tb : TE) : TE := fun σ H Q => ta σ H fun x H1 => ∃ c, x = .bl c ∧ if c = true then Q (.bl true) H1 else tb σ H1 Q
def tNotV (ta : TE) : TE := fun σ H Q => ta σ H fun x H1 => ∃ c, x = .bl c ∧ Q (.bl (!c)) H1
theorem pe_one {op} {t : TE} (h : PE X a t) : PE X (.BoolOp op [a] pos) t := fun pins s σ H Q I hw => BoolOp_one (h pins s σ H Q I hw)
theorem pe_and (ha : PE X a ta) (hb : PE X (.BoolOp .And (b :: rest) pos) tb) : PE X (.BoolOp .And (a :: b :: rest) pos) (tAndV ta tb) := by
  intro pins s σ H Q I h
  refine BoolOp_and (thn (ha pins s σ H _ I h) fun v s1 ⟨x, H1, I1, r1, q1⟩ => ?_)
  obtain ⟨c, rfl, q1⟩ := q1
  cases r1
  refine wpAny_truthy_bool ?_
  cases c with
  | true => exact hb pins s1 σ H1 Q I1 q1
  | false => exact ⟨.bl false, H1, I1, rfl, q1⟩
theorem pe_or (ha : PE X a ta) (hb : PE X (.BoolOp .Or (b :: rest) pos) tb) : PE X (.BoolOp .Or (a :: b :: rest) pos) (tOrV ta tb) := by
  intro pins s σ H Q I h
  refine BoolOp_or (thn (ha pins s σ H _ I h) fun v s1 ⟨x, H1, I1, r1, q1⟩ => ?_)
  obtain ⟨c, rfl, q1⟩ := q1
  cases r1
  refine wpAny_truthy_bool ?_
  cases c with
  | false => exact hb pins s1 σ H1 Q I1 q1
  | true => exact ⟨.bl true, H1, I1, rfl, q1⟩
theorem pe_not (ha : PE X a ta) : PE X (.UnaryOp .Not a pos) (tNotV ta) := by
  intro pins s σ H Q I h
  refine UnaryOp_ (thn (ha pins s σ H _ I h) fun v s1 ⟨x, H1, I1, r1, q1⟩ => ?_)
  obtain ⟨c, rfl, q1⟩ := q1
  cases r1
  exact not_of (wpAny_truthy_bool ⟨.bl (!c), H1, I1, rfl, q1⟩)
/-- a if t else b -/
def tIf (t : TT) (ta tb : TE) : TE := fun σ H Q => t σ H fun c H1 => if c = true then ta σ H1 Q else tb σ H1 Q
theorem pe_ifExp {c : Expr} (hc : PT X c tA) (ha : PE X a ta) (hb : PE X b tb) : PE X (.IfExp c a b pos) (tIf tA ta tb) := by
  intro pins s σ H Q I h
  refine wpAny_IfExp (thn (hc pins s σ H _ I h) fun d s1 ⟨H1, I1, q1⟩ => ?_)
  cases d with
  | true => exact ha pins s1 σ H1 Q I1 q1
  | false => exact hb pins s1 σ H1 Q I1 q1
end
end L2

namespace L2
open PySem PySem.Spec PyProof.Rows

/-! ### a list, a tuple that is read: tracked, frozen, or an object of the module -/
def SqL (K : PySem.W.Frag) (H : Hp) (a : Addr) (xs : List V) : Prop :=
  Rd H a (.lst xs) ∨
    ∃ (o : Obj) (its : Array Value) (n : Nat), K.lookup a = some o ∧ o.cls = .type "list" ∧ o.dict = none ∧ o.data = .seq its n ∧ its.size ≤ sizeLine ∧ Vals xs its.toList
def SqT (K : PySem.W.Frag) (H : Hp) (a : Addr) (xs : List V) : Prop :=
  Rd H a (.tup xs) ∨
    ∃ (o : Obj) (its : Array Value) (n : Nat), K.lookup a = some o ∧ o.cls = .type "tuple" ∧ o.data = .seq its n ∧ its.size ≤ sizeLine ∧ Vals xs its.toList
def absV : Value → Option V
  | .none => some .non
  | .bool b => some (.bl b)
  | .int i _ => some (.int i)
  | .str x _ => some (.str x)
  | .bytes b _ => some (.byt b)
  | .float b _ => some (.flt b)
  | .ref a => some (.ref a)
  | .type n => some (.ty n)
  | _ => none
theorem RelV.abs {x : V} {u : Value} (r : RelV x u) : absV u = some x := by
  cases x with
  | non => cases r; rfl
  | bl _ => cases r; rfl
  | int _ => obtain ⟨t, rfl⟩ := r; rfl
  | str _ => obtain ⟨t, rfl⟩ := r; rfl
  | byt _ => obtain ⟨t, rfl⟩ := r; rfl
  | flt _ => obtain ⟨t, rfl⟩ := r; rfl
  | ref _ => cases r; rfl
  | ty _ => cases r; rfl
theorem RelV.inj {x y : V} {u : Value} (r : RelV x u) (q : RelV y u) : x = y := Option.some.inj (r.abs.symm.trans q.abs)
theorem Vals.inj : ∀ {xs ys : List V} {us : List Value}, Vals xs us → Vals ys us → xs = ys
  | _, _, _, .nil, .nil => rfl
  | _, _, _, .cons r t, .cons r' t' => by rw [r.inj r', Vals.inj t t']
section
variable {X : Cx} {pins : List (Addr × Obj)} {σ : St} {H : Hp} {s : Shared} {a : Addr} {xs ys : List V}
theorem SqL.of {K : PySem.W.Frag} (h : H a = some (.lst xs)) : SqL K H a xs := .inl (.inl h)
theorem SqT.of {K : PySem.W.Frag} (h : H a = some (.tup xs)) : SqT K H a xs := .inl (.inl h)
theorem Inv.list (I : Inv X pins σ H s) (h : SqL X.K H a xs) : ∃ its : List Value, Vals xs its ∧ PlainL s.heap a its.toArray ∧ xs.length ≤ sizeLine := by
  rcases h with h | ⟨o, its, n, hk, hc, hd, hs, hz, r⟩
  · obtain ⟨z, its, n, r, e⟩ := h.ok I.hok
    exact ⟨its, r, ⟨_, n, e, rfl, rfl, rfl⟩, z⟩
  · refine ⟨its.toList, r, ⟨o, n, I.kIn a o hk, hc, hd, by simpa using hs⟩, ?_⟩
    have e := r.length
    simp only [Array.length_toList] at e
    omega
theorem Inv.tuple (I : Inv X pins σ H s) (h : SqT X.K H a xs) : ∃ its : List Value, Vals xs its ∧ IsTup s.heap a its.toArray ∧ xs.length ≤ sizeLine := by
  rcases h with h | ⟨o, its, n, hk, hc, hs, hz, r⟩
  · obtain ⟨z, its, r, p⟩ := h.ok I.hok
    exact ⟨its, r, p, z⟩
  · refine ⟨its.toList, r, ⟨o, I.kIn a o hk, hc, n, by simpa using hs⟩, ?_⟩
    have e := r.length
    simp only [Array.length_toList] at e
    omega
theorem Inv.list_inj (I : Inv X pins σ H s) (h : SqL X.K H a xs) (h' : SqL X.K H a ys) : xs = ys := by
  obtain ⟨its, r, ⟨o, n, e, _, _, d⟩, _⟩ := I.list h
  obtain ⟨its', r', ⟨o', n', e', _, _, d'⟩, _⟩ := I.list h'
  rw [e] at e'; cases e'
  rw [d] at d'
  injection d' with d1 _
  have : its = its' := by simpa using congrArg Array.toList d1
  subst this
  exact r.inj r'
theorem Inv.tuple_inj (I : Inv X pins σ H s) (h : SqT X.K H a xs) (h' : SqT X.K H a ys) : xs = ys := by
  obtain ⟨its, r, ⟨o, e, _, n, d⟩, _⟩ := I.tuple h
  obtain ⟨its', r', ⟨o', e', _, n', d'⟩, _⟩ := I.tuple h'
  rw [e] at e'; cases e'
  rw [d] at d'
  injection d' with d1 _
  have : its = its' := by simpa using congrArg Array.toList d1
  subst this
  exact r.inj r'
end

/-! ### another wish about exceptions -/
abbrev Cx.wish (X : Cx) (E : Value → Shared → Prop) : Cx := { X with xe := E }
/-- no exception leaves -/
abbrev Cx.nox (X : Cx) : Cx := X.wish fun _ _ => False
theorem Cx.Ok.wish {X : Cx} (ok : X.Ok) (E : Value → Shared → Prop) : (X.wish E).Ok :=
  ⟨ok.mod, ok.kind, ok.glob, ok.blt, ok.above, ok.inj, ok.has, ok.cab, ok.hd, ok.frames, ok.stk, ok.exf, ok.bs, ok.bsz, ok.noex, ok.exfs, ok.funs, ok.frf⟩
theorem Cx.Ok.unwish {X : Cx} {E : Value → Shared → Prop} (ok : (X.wish E).Ok) : X.Ok :=
  ⟨ok.mod, ok.kind, ok.glob, ok.blt, ok.above, ok.inj, ok.has, ok.cab, ok.hd, ok.frames, ok.stk, ok.exf, ok.bs, ok.bsz, ok.noex, ok.exfs, ok.funs, ok.frf⟩
section
variable {X : Cx} {pins : List (Addr × Obj)} {σ : St} {H : Hp} {s : Shared} {E : Value → Shared → Prop}
theorem Inv.wish (I : Inv X pins σ H s) (E : Value → Shared → Prop) : Inv (X.wish E) pins σ H s := ⟨I.ok.wish E, I.os, I.bare, I.base, I.loc, I.cell, I.free, I.freeC, I.pin, I.hok, I.len⟩
theorem Inv.unwish (I : Inv (X.wish E) pins σ H s) : Inv X pins σ H s := ⟨I.ok.unwish, I.os, I.bare, I.base, I.loc, I.cell, I.free, I.freeC, I.pin, I.hok, I.len⟩
theorem SP.unwish {D : Ends} {f : Flow} {s' : Shared} (h : SP (X.wish E) pins D f s') : SP X pins D f s' := by
  cases f with
  | next => obtain ⟨σ', H', I, q⟩ := h; exact ⟨σ', H', I.unwish, q⟩
  | brk => obtain ⟨σ', H', I, q⟩ := h; exact ⟨σ', H', I.unwish, q⟩
  | cont => obtain ⟨σ', H', I, q⟩ := h; exact ⟨σ', H', I.unwish, q⟩
  | ret u => obtain ⟨v, σ', H', I, r, q⟩ := h; exact ⟨v, σ', H', I.unwish, r, q⟩
theorem PE.nox {e : Expr} {t : TE} (h : PE X.nox e t) : PE X e t := fun pins s σ H Q I hw =>
  wpAny_mono (h pins s σ H Q (I.wish _) hw) (fun _ _ ⟨v, H', I', r, q⟩ => ⟨v, H', I'.unwish, r, q⟩) fun _ _ z => False.elim z
theorem PT.nox {e : Expr} {t : TT} (h : PT X.nox e t) : PT X e t := fun pins s σ H Q I hw =>
  wpAny_mono (h pins s σ H Q (I.wish _) hw) (fun _ _ ⟨H', I', q⟩ => ⟨H', I'.unwish, q⟩) fun _ _ z => False.elim z
theorem PSs.nox {st : List Stmt} {t : TS} (h : PSs X.nox st t) : PSs X st t := fun pins s σ H D I hw =>
  wpAny_mono (h pins s σ H D (I.wish _) hw) (fun _ _ q => q.unwish) fun _ _ z => False.elim z
end

/-! ### blocks and small statements -/
section
variable {X : Cx} {st : Stmt} {rest : List Stmt} {t u : TS} {e : Expr} {te : TE} {pos : Pos}
def tNext : TS := fun D σ H => D.nx σ H
def tSeq (t u : TS) : TS := fun D σ H => t { D with nx := u D } σ H
theorem pss_nil : PSs X [] tNext := fun _ _ σ H _ I h => wpAny_execs_nil ⟨σ, H, I, h⟩
theorem pss_cons (h1 : PS X st t) (h2 : PSs X rest u) : PSs X (st :: rest) (tSeq t u) := by
  intro pins s σ H D I h
  refine wpAny_execs_cons (thn (h1 pins s σ H { D with nx := u D } I h) fun f s1 q => ?_)
  cases f with
  | next =>
    obtain ⟨σ', H', I', q⟩ := q
    exact h2 pins s1 σ' H' D I' q
  | ret v => exact q
  | brk => exact q
  | cont => exact q
theorem pss_one (h1 : PS X st t) : PSs X [st] t := by
  intro pins s σ H D I h
  refine wpAny_execs_cons (thn (h1 pins s σ H D I h) fun f s1 q => ?_)
  cases f with
  | next => exact wpAny_execs_nil q
  | ret v => exact q
  | brk => exact q
  | cont => exact q
def tBreak : TS := fun D σ H => D.bk σ H
def tCont : TS := fun D σ H => D.ct σ H
theorem ps_pass : PS X (.Pass pos) tNext := fun _ _ σ H _ I h => wpAny_Pass ⟨σ, H, I, h⟩
theorem ps_break : PS X (.Break pos) tBreak := fun _ _ σ H _ I h => wpAny_Break ⟨σ, H, I, h⟩
theorem ps_continue : PS X (.Continue pos) tCont := fun _ _ σ H _ I h => wpAny_Continue ⟨σ, H, I, h⟩
/-- in a def's body nothing is shown -/
theorem Inv.quiet {pins : List (Addr × Obj)} {σ : St} {H : Hp} {s : Shared} (I : Inv X pins σ H s) : interactive X.env = false := by simp [interactive, I.ok.kind]
/-- a docstring -/
theorem ps_doc {x j pos pos'} : PS X (.Expr (.Constant (.str x) j pos) pos') tNext := fun _ s σ H _ I h => wpAny_Expr (Calls.Constant_str (show SP X _ _ .next { s with toks := s.toks + 1 } from ⟨σ, H, I.tok _, h⟩)) I.quiet
/-- an expression whose value is dropped -/
def tDrop (te : TE) : TS := fun D σ H => te σ H fun _ H1 => D.nx σ H1
theorem ps_expr (he : PE X e te) (hs : swapsWith e none pos.line X.env = pure false := by rfl) : PS X (.Expr e pos) (tDrop te) := by
  intro pins s σ H D I h
  exact wpAny_Expr_any (thn (he pins s σ H _ I h) fun v s1 ⟨x, H1, I1, r1, q1⟩ => ⟨σ, H1, I1, q1⟩) I.quiet hs
def tRet (te : TE) : TS := fun D σ H => te σ H D.rt
theorem ps_ret (he : PE X e te) : PS X (.Return (some e) pos) (tRet te) := by
  intro pins s σ H D I h
  exact wpAny_Return_some (thn (he pins s σ H _ I h) fun v s1 ⟨x, H1, I1, r1, q1⟩ => ⟨x, σ, H1, I1, r1, q1⟩)
def tRetN : TS := fun D _ H => D.rt .non H
theorem ps_retN : PS X (.Return none pos) tRetN := fun _ _ σ H _ I h => wpAny_Return_none ⟨.non, σ, H, I, rfl, h⟩
def tIfS (c : TT) (t u : TS) : TS := fun D σ H => c σ H fun b H1 => if b = true then t D σ H1 else u D σ H1
theorem ps_if {c : Expr} {a b : List Stmt} {tc : TT} (hc : PT X c tc) (ha : PSs X a t) (hb : PSs X b u) : PS X (.If c a b pos) (tIfS tc t u) := by
  intro pins s σ H D I h
  refine wpAny_If (thn (hc pins s σ H _ I h) fun d s1 ⟨H1, I1, q1⟩ => ?_)
  cases d with
  | true => exact ha pins s1 σ H1 D I1 q1
  | false => exact hb pins s1 σ H1 D I1 q1
/-- code that the proof never comes to -/
def tNever : TS := fun _ _ _ => False
theorem ps_never : PS X st tNever := fun _ _ _ _ _ _ h => h.elim
theorem pss_never {sts : List Stmt} : PSs X sts tNever := fun _ _ _ _ _ _ h => h.elim
end

/-! ### targets -/
abbrev TG := V → St → Hp → (St → Hp → Prop) → Prop
abbrev TGs := List V → St → Hp → (St → Hp → Prop) → Prop
def PG (X : Cx) (target : Expr) (t : TG) : Prop :=
  ∀ (pins : List (Addr × Obj)) (s : Shared) (σ : St) (H : Hp) (v : V) (u : Value) (Q : St → Hp → Prop), Inv X pins σ H s → RelV v u → t v σ H Q →
    wpAny (model X.prog X.w) X.A (assign target X.env u) (fun _ s' => ∃ σ' H', Inv X pins σ' H' s' ∧ Q σ' H') X.xe s
/-- several targets, one after another -/
def PGs (X : Cx) (ts : List Expr) (t : TGs) : Prop :=
  ∀ (pins : List (Addr × Obj)) (s : Shared) (σ : St) (H : Hp) (vs : List V) (us : List Value) (Q : St → Hp → Prop), Inv X pins σ H s → Vals vs us → t vs σ H Q →
    wpAny (model X.prog X.w) X.A (assignInOrder ((assignEach ts X.env).map (·.2)) us) (fun _ s' => ∃ σ' H', Inv X pins σ' H' s' ∧ Q σ' H') X.xe s
/-- o[i] = v, by values -/
abbrev TSet := V → V → V → Hp → (Hp → Prop) → Prop
def PSet (X : Cx) (t : TSet) : Prop :=
  ∀ (pins : List (Addr × Obj)) (s : Shared) (σ : St) (H : Hp) (o i v : V) (ov iv u : Value) (Q : Hp → Prop), Inv X pins σ H s → RelV o ov → RelV i iv → RelV v u → t o i v H Q →
    wpAny (model X.prog X.w) X.A (setItem ov iv u) (fun _ s' => ∃ H', Inv X pins σ H' s' ∧ Q H') X.xe s
/-- a op= b, by values -/
abbrev TIp := V → V → Hp → VK → Prop
def PIp (X : Cx) (op : Operator) (t : TIp) : Prop :=
  ∀ (pins : List (Addr × Obj)) (s : Shared) (σ : St) (H : Hp) (x y : V) (v u : Value) (Q : VK), Inv X pins σ H s → RelV x v → RelV y u → t x y H Q →
    wpAny (model X.prog X.w) X.A (inplaceOp op v u) (EP X pins σ Q) X.xe s
section
variable {X : Cx} {pos : Pos}
def gName (i : Nat) : TG := fun v σ H Q => Q (σ.set i (some v)) H
theorem pg_name {i : Nat} {x : Str} (hN : X.N.Nodup) (hi : X.N[i]? = some x) (hx : Loc X.env.scope x) (hf : X.fn x = true ∨ X.env.scope.names.lookup x = some .local := by first | exact .inl rfl | exact .inr rfl | assumption) : PG X (.Name x pos) (gName i) := by
  intro pins s σ H v u Q I r h
  exact wpAny_assign_Name (store_ok I hN hi hx r (fun s' I' => ⟨_, H, I', h⟩) hf)
def gNil : TGs := fun vs σ H Q => vs = [] ∧ Q σ H
def gCons (t : TG) (u : TGs) : TGs := fun vs σ H Q => ∃ v r, vs = v :: r ∧ t v σ H fun σ' H' => u r σ' H' Q
theorem pgs_nil : PGs X [] gNil := by
  intro pins s σ H vs us Q I r h
  obtain ⟨e, h⟩ := h
  subst e
  cases r
  exact assignInOrder_nil ⟨σ, H, I, h⟩
theorem pgs_cons {e : Expr} {es : List Expr} {t : TG} {u : TGs} (h1 : PG X e t) (h2 : PGs X es u)
    (hs : (assignEach (e :: es) X.env).map (·.2) = assign e X.env :: (assignEach es X.env).map (·.2) := by rfl) : PGs X (e :: es) (gCons t u) := by
  intro pins s σ H vs us Q I r h
  obtain ⟨v, vr, e1, h⟩ := h
  subst e1
  cases r with
  | cons r rr =>
    rw [hs]
    refine assignInOrder_cons (thn (h1 pins s σ H _ _ _ I r h) fun _ s1 ⟨σ1, H1, I1, q1⟩ => ?_)
    exact h2 pins s1 σ1 H1 _ _ Q I1 rr q1
/-- (a, b, ..) = a tuple of that length -/
def gTup (K : PySem.W.Frag) (n : Nat) (t : TGs) : TG := fun v σ H Q => ∃ a xs, v = .ref a ∧ SqT K H a xs ∧ xs.length = n ∧ t xs σ H Q
theorem pg_tup {es : List Expr} {k : Nat} {t : TGs} {n : Nat} (hc : X.calm = true) (h : PGs X es t)
    (hn : (assignEach es X.env).length = n := by rfl) (hst : (assignEach es X.env).findIdx? (·.1) = none := by rfl) : PG X (.Tuple es k pos) (gTup X.K n t) := by
  intro pins s σ H v u Q I r hw
  obtain ⟨a, xs, e1, hq, hl, hw⟩ := hw
  subst e1
  cases r
  obtain ⟨its, rv, ht, hz⟩ := I.tuple hq
  refine assign_Tuple_tuple (I.ok.hd hc) ht (by simp [hn, ← hl, rv.length]) hst fun h' hx => ?_
  have I1 : Inv X pins σ H { s with heap := h' } := I.kept (t' := s.toks) fun b o e => hx b o (Nat.ne_of_lt (Heap.lt_size e)) e
  exact h pins _ σ H xs _ Q I1 (by simpa using rv) hw
/-- o[i] = .. -/
def gSub (to ti : TE) (t : TSet) : TG := fun v σ H Q => to σ H fun o H1 => ti σ H1 fun i H2 => t o i v H2 fun H3 => Q σ H3
theorem pg_sub {o i : Expr} {to ti : TE} {t : TSet} (ho : PE X o to) (hi : PE X i ti) (hs : PSet X t)
    (ha : ∀ v, assign (.Subscript o i pos) X.env v = (do
      let ov ← holding [v] (eval o X.env)
      let iv ← holding [v, ov] (eval i X.env)
      standAt pos
      holding [v, ov, iv] (setItem ov iv v)
      release [v, ov, iv] []) := by intro _; rfl) : PG X (.Subscript o i pos) (gSub to ti t) := by
  intro pins s σ H v u Q I r h
  rw [ha]
  refine wpAny_bind (wpAny_holding (thn (ho pins s σ H _ I h) fun ov s1 ⟨x, H1, I1, r1, q1⟩ => ?_))
  refine wpAny_bind (wpAny_holding (thn (hi pins s1 σ H1 _ I1 q1) fun iv s2 ⟨y, H2, I2, r2, q2⟩ => ?_))
  refine wpAny_bind (wpAny_standAt (wpAny_bind (wpAny_holding (thn (hs pins s2 σ H2 x y v ov iv u _ I2 r1 r2 r q2) fun _ s3 ⟨H3, I3, q3⟩ => ?_))))
  exact wpAny_release ⟨σ, H3, I3, q3⟩
/-- target = value -/
def tAsg (te : TE) (g : TG) : TS := fun D σ H => te σ H fun x H1 => g x σ H1 D.nx
theorem ps_asg {tg e : Expr} {te : TE} {g : TG} (he : PE X e te) (hg : PG X tg g) (hs : swapsWithSole [tg] e pos.line X.env = pure false := by rfl) (hw : swappedStores [tg] e X.env = pure none := by rfl)
    (h1 : (assignEach [tg] X.env).map (·.2) = [assign tg X.env] := by rfl) : PS X (.Assign [tg] e pos) (tAsg te g) := by
  intro pins s σ H D I h
  refine wpAny_Assign_stores (thn (he pins s σ H _ I h) fun v s1 ⟨x, H1, I1, r1, q1⟩ => ?_) hs hw
  rw [h1]
  exact thn (hg pins s1 σ H1 x v _ I1 r1 q1) fun _ s2 q => q
/-- name = value -/
theorem ps_set {i : Nat} {x : Str} {e : Expr} {te : TE} {pos' : Pos} (hN : X.N.Nodup) (hi : X.N[i]? = some x) (hx : Loc X.env.scope x) (he : PE X e te) (hs : swapsWith e (some (.Name x pos')) pos.line X.env = pure false := by rfl) (hf : X.fn x = true ∨ X.env.scope.names.lookup x = some .local := by first | exact .inl rfl | exact .inr rfl | assumption) :
    PS X (.Assign [.Name x pos'] e pos) (tAsg te (gName i)) := by
  intro pins s σ H D I h
  refine wpAny_Assign_Name (thn (he pins s σ H _ I h) fun v s1 ⟨y, H1, I1, r1, q1⟩ => ?_) hs
  exact store_ok I1 hN hi hx r1 (fun s2 I2 => ⟨_, H1, I2, q1⟩) hf
/-- a, b = x, y with plain local names: stored from the right; the pair itself is not tracked (the opening rows as in PyProof/Rows/TupAssign.lean:23) -/
def tPar (i j : Nat) (ta : TA) : TS := fun D σ H => ta σ H fun vs H1 => ∃ v w, vs = [v, w] ∧ D.nx ((σ.set i (some v)).set j (some w)) H1
theorem ps_par {i j : Nat} {x y : Str} {a b : Expr} {ta : TA} {px py pt : Pos} {kt k2 pt2} (hc : X.calm = true) (hN : X.N.Nodup) (hi : X.N[i]? = some x) (hj : X.N[j]? = some y) (hij : i ≠ j)
    (hx : X.env.scope.names.lookup x = some .local) (hy : X.env.scope.names.lookup y = some .local) (ha : PA X [a, b] ta)
    (hw : swappedStores [.Tuple [.Name x px, .Name y py] kt pt] (.Tuple [a, b] k2 pt2) X.env = pure (some [x, y]))
    (hs : swapsWithSole [.Tuple [.Name x px, .Name y py] kt pt] (.Tuple [a, b] k2 pt2) pos.line X.env = pure false := by rfl) :
    PS X (.Assign [.Tuple [.Name x px, .Name y py] kt pt] (.Tuple [a, b] k2 pt2) pos) (tPar i j ta) := by
  intro pins s σ H D I h
  rw [exec_Assign_arm]
  refine wpAny_bind (wpAny_standAt ?_)
  rw [hs]
  refine wpAny_bind (wpAny_pure ?_)
  rw [if_neg (by decide)]
  refine wpAny_bind (Tuple_ (thn (ha _ pins s σ H _ I h) fun us s1 ⟨vs, H1, I1, r1, q1⟩ => ?_))
  obtain ⟨v, w, e1, q1⟩ := q1
  subst e1
  obtain ⟨u1, u2, rfl, rv, rw'⟩ : ∃ u1 u2, us = [u1, u2] ∧ RelV v u1 ∧ RelV w u2 := by
    cases r1 with
    | cons p q =>
      cases q with
      | cons p' q' =>
        cases q'
        exact ⟨_, _, rfl, p, p'⟩
  refine wpAny_newObj_type ?_ (by show 2 ≤ sizeLine; decide)
  have I2 : Inv X pins σ H1 { s1 with heap := s1.heap.push { cls := .type "tuple", data := .seq [u1, u2].toArray } } := I1.kept (t' := s1.toks) fun b o e => Heap.get?_push_of_some _ e
  rw [hw]
  refine wpAny_bind (wpAny_pure ?_)
  show wpAny (model X.prog X.w) X.A (do rule "assign.swapped-stores"; let items ← unpackItems (.ref s1.heap.objs.size) 2 none; assignInOrder [fun v => bindName X.env y v, fun v => bindName X.env x v] items.reverse; pure Flow.next) _ _ _
  refine wpAny_bind (wpAny_rule (wpAny_bind (unpackItems_tuple (items := #[u1, u2]) (I.ok.hd hc) (IsTup.new s1.heap _) fun h' hx' => ?_)))
  have I3 := I2.kept (h' := h') (t' := s1.toks) fun b o e => hx' b o (Nat.ne_of_lt (Heap.lt_size e)) e
  show wpAny _ _ (assignInOrder [fun v => bindName X.env y v, fun v => bindName X.env x v] [u2, u1] >>= fun _ => pure Flow.next) _ _ _
  refine wpAny_bind (assignInOrder_cons (wpAny_bindName (store_ok I3 hN hj (.inl hy) rw' (fun s2 I4 => ?_) (.inr hy))))
  refine assignInOrder_cons (wpAny_bindName (store_ok I4 hN hi (.inl hx) rv (fun s3 I5 => assignInOrder_nil (wpAny_pure ?_)) (.inr hx)))
  rw [List.set_comm _ _ (Ne.symm hij)] at I5
  exact ⟨_, H1, I5, q1⟩
/-- name op= e -/
def tAug (i : Nat) (te : TE) (ti : TIp) : TS := fun D σ H => ∃ x, σ[i]? = some (some x) ∧ te σ H fun y H1 => ti x y H1 fun z H2 => D.nx (σ.set i (some z)) H2
theorem ps_aug {i : Nat} {x : Str} {e : Expr} {te : TE} {op : Operator} {ti : TIp} {pos' : Pos} (hN : X.N.Nodup) (hi : X.N[i]? = some x) (hx : Loc X.env.scope x) (he : PE X e te) (ho : PIp X op ti) (hf : X.fn x = true ∨ X.env.scope.names.lookup x = some .local := by first | exact .inl rfl | exact .inr rfl | assumption) :
    PS X (.AugAssign (.Name x pos') op e pos) (tAug i te ti) := by
  intro pins s σ H D I h
  obtain ⟨v, e1, h⟩ := h
  obtain ⟨m, hn, hl⟩ := I.loc
  have vis : Vis X.env.scope x := by rcases hx with k | k; exact .inl k; exact .inr (.inl k)
  obtain ⟨u, r, l⟩ := hl i x v hi e1 vis
  refine wpAny_AugAssign_Name ?_
  have go : wpAny (model X.prog X.w) X.A (eval e X.env) (fun w s₂ => wpAny (model X.prog X.w) X.A (inplaceOp op u w) (fun r s₃ => wpAny (model X.prog X.w) X.A (storeName X.env x r) (fun _ => SP X pins D .next) X.xe s₃) X.xe s₂) X.xe s := by
    refine thn (he pins s σ H _ I h) fun w s1 ⟨y, H1, I1, r1, q1⟩ => ?_
    refine thn (ho pins s1 σ H1 v y u w _ I1 r r1 q1) fun z s2 ⟨zv, H2, I2, r2, q2⟩ => ?_
    exact store_ok I2 hN hi hx r2 (fun s3 I3 => ⟨_, H2, I3, q2⟩) hf
  rcases l with ⟨hk, hm⟩ | ⟨hk, c, hc, hcell⟩
  · exact wpAny_loadName_local I.ok.kind hk hn hm go
  · rcases hk with hk | hk
    · exact wpAny_loadName_cell I.ok.kind hk hc hcell go
    · rcases hx with k | k
      · have : X.env.scope.names.lookup x = some .free := hk
        rw [k] at this; cases this
      · have : X.env.scope.names.lookup x = some .free := hk
        rw [k] at this; cases this
/-- o[i] op= e -/
def tAugS (to ti te : TE) (tget : V → V → Hp → VK → Prop) (tip : TIp) (tset : TSet) : TS := fun D σ H => to σ H fun o H1 => ti σ H1 fun i H2 => tget o i H2 fun x H3 => te σ H3 fun y H4 => tip x y H4 fun z H5 => tset o i z H5 fun H6 => D.nx σ H6
/-- o[i], by values -/
def PGet (X : Cx) (t : V → V → Hp → VK → Prop) : Prop :=
  ∀ (pins : List (Addr × Obj)) (s : Shared) (σ : St) (H : Hp) (o i : V) (ov iv : Value) (Q : VK), Inv X pins σ H s → RelV o ov → RelV i iv → t o i H Q →
    wpAny (model X.prog X.w) X.A (getItem ov iv) (EP X pins σ Q) X.xe s
theorem ps_augS {o i e : Expr} {to ti te : TE} {tget : V → V → Hp → VK → Prop} {tip : TIp} {tset : TSet} {op : Operator} {tpos : Pos} (ho : PE X o to) (hi : PE X i ti) (hg : PGet X tget) (he : PE X e te) (hp : PIp X op tip) (hs : PSet X tset)
    (ha : ∀ ov iv new, augStore i ov iv new = (do holding [new, ov, iv] (setItem ov iv new); release [new, ov, iv] []; pure .next) := by intros; rfl) : PS X (.AugAssign (.Subscript o i tpos) op e pos) (tAugS to ti te tget tip tset) := by
  intro pins s σ H D I h
  refine wpAny_AugAssign_SubscriptAny (thn (ho pins s σ H _ I h) fun ov s1 ⟨x1, H1, I1, r1, q1⟩ => ?_) ha
  refine thn (hi pins s1 σ H1 _ I1 q1) fun iv s2 ⟨x2, H2, I2, r2, q2⟩ => ?_
  refine thn (hg pins s2 σ H2 x1 x2 ov iv _ I2 r1 r2 q2) fun old s3 ⟨x3, H3, I3, r3, q3⟩ => ?_
  refine thn (he pins s3 σ H3 _ I3 q3) fun v s4 ⟨x4, H4, I4, r4, q4⟩ => ?_
  refine thn (hp pins s4 σ H4 x3 x4 old v _ I4 r3 r4 q4) fun new s5 ⟨x5, H5, I5, r5, q5⟩ => ?_
  exact thn (hs pins s5 σ H5 x1 x2 x5 ov iv new _ I5 r1 r2 r5 q5) fun _ s6 ⟨H6, I6, q6⟩ => ⟨σ, H6, I6, q6⟩
/-- ints -/
def ipI (f : Int → Int → Int) : TIp := fun x y H Q => ∃ i j, x = .int i ∧ y = .int j ∧ Q (.int (f i j)) H
theorem ip_add : PIp X .Add (ipI fun i j => i + j) := by
  intro pins s σ H x y v u Q I r1 r2 h
  obtain ⟨i, j, e1, e2, q⟩ := h
  subst e1; subst e2
  obtain ⟨t, rfl⟩ := r1
  obtain ⟨t', rfl⟩ := r2
  exact iadd_int ⟨.int _, H, I.tok _, ⟨_, rfl⟩, q⟩
theorem ip_sub : PIp X .Sub (ipI fun i j => i - j) := by
  intro pins s σ H x y v u Q I r1 r2 h
  obtain ⟨i, j, e1, e2, q⟩ := h
  subst e1; subst e2
  obtain ⟨t, rfl⟩ := r1
  obtain ⟨t', rfl⟩ := r2
  exact isub_int ⟨.int _, H, I.tok _, ⟨_, rfl⟩, q⟩
end

/-! ### while -/
section
variable {X : Cx} {pos : Pos}
/-- the invariant W with its measure -/
def tWhile (c : TT) (tb : TS) : TS := fun D σ H => ∃ W : Nat → St → Hp → Prop, (∃ m, W m σ H) ∧ ∀ m σ H, W m σ H →
  c σ H fun b H1 => if b = true then ∃ N : St → Hp → Prop, (∀ σ' H', N σ' H' → ∃ m', m' < m ∧ W m' σ' H') ∧ tb { D with nx := N, ct := N, bk := D.nx } σ H1 else D.nx σ H1
theorem ps_while {c : Expr} {body : List Stmt} {tc : TT} {tb : TS} (hp : PassesOwn (model X.prog X.w) X.A X.env X.xe) (hc : PT X c tc) (hb : PSs X body tb) : PS X (.While c body [] pos) (tWhile tc tb) := by
  intro pins s σ H D I h
  obtain ⟨W, ⟨m0, w0⟩, turn⟩ := h
  refine wpAny_While (codeAny_whileLoop (fun n s' => ∃ σ' H', Inv X pins σ' H' s' ∧ W n σ' H') ?_ m0 ⟨σ, H, I, w0⟩)
  rintro n s1 ⟨σ1, H1, I1, w1⟩
  refine wpAny_passesOwn hp (thn (hc pins s1 σ1 H1 _ I1 (turn n σ1 H1 w1)) fun b s2 ⟨H2, I2, q2⟩ => ?_)
  cases b with
  | true =>
    obtain ⟨N, hN, q2⟩ := q2
    rw [if_pos rfl]
    refine wpAny_passesOwn hp (thn (hb pins s2 σ1 H2 _ I2 q2) fun f s3 q3 => ?_)
    cases f with
    | next =>
      obtain ⟨σ3, H3, I3, n3⟩ := q3
      obtain ⟨m', hm, w3⟩ := hN σ3 H3 n3
      exact ⟨m', hm, σ3, H3, I3, w3⟩
    | cont =>
      obtain ⟨σ3, H3, I3, n3⟩ := q3
      obtain ⟨m', hm, w3⟩ := hN σ3 H3 n3
      exact ⟨m', hm, σ3, H3, I3, w3⟩
    | brk => exact q3
    | ret v => exact q3
  | false =>
    rw [if_neg Bool.false_ne_true]
    exact wpAny_execs_nil ⟨σ1, H2, I2, q2⟩
end

/-! ### what a loop or a comprehension walks -/
/-- at turn i: it yields x (the heap may grow), or it stops -/
structure It where
  go : Nat → Hp → Prop
  yld : Nat → Hp → V → Hp → Prop
  stop : Nat → Hp → Prop
/-- the iterator's own objects may turn: they are not the frame's, not pinned, younger than the entry (or a comprehension's own) -/
def FpOk (X : Cx) (pins : List (Addr × Obj)) (H : Hp) (b : Addr) : Prop :=
  H b = none ∧ b ≠ X.env.locals ∧ b ∉ X.fs ∧ (b ∈ X.ex ∨ X.s₀.heap.objs.size ≤ b) ∧ (∀ x c, X.env.cells.lookup x = some c → c ≠ b) ∧ ∀ p ∈ X.pn ++ pins, p.1 ≠ b
theorem Inv.fpOk {X : Cx} {pins : List (Addr × Obj)} {σ : St} {H H' : Hp} {s : Shared} {b : Addr} (I : Inv X pins σ H s) (hb : s.heap.objs.size ≤ b) (hn : H' b = none) : FpOk X pins H' b := by
  refine ⟨hn, Nat.ne_of_gt (Nat.lt_of_lt_of_le I.lt hb), I.nofs hb, .inr (Nat.le_trans I.sz hb), fun x c e z => ?_, fun p hp z => ?_⟩
  · obtain ⟨v, q⟩ := I.cell x c e
    exact absurd (Nat.lt_of_lt_of_le q.lt (by rw [z]; exact hb)) (Nat.lt_irrefl _)
  · exact absurd (Nat.lt_of_lt_of_le (Heap.lt_size (I.pin p hp).1) (by rw [z]; exact hb)) (Nat.lt_irrefl _)
structure Turn (P : Program) (w : World) (K : PySem.W.Frag) (tg : Expr) (J : It) (fp : List Addr) (it : Addr) (tn : Nat → Heap → Prop) : Prop where
  mem : it ∈ fp
  obj : ∀ i h, tn i h → ∀ b ∈ fp, ∃ o, h.get? b = some o ∧ ∀ v, o.data ≠ .cell v
  keep : ∀ i h h', tn i h → (∀ b ∈ fp, ∀ o, h.get? b = some o → h'.get? b = some o) → tn i h'
  item : ∀ (X : Cx), X.prog = P → X.w = w → X.K = K → X.calm = true → ∀ (i : Nat) (pins : List (Addr × Obj)) (s : Shared) (σ : St) (H : Hp) (E : Value → Shared → Prop), Inv X pins σ H s → (∀ b ∈ fp, FpOk X pins H b) → tn i s.heap → J.go i H →
    wpAny (model P w) X.A (pyNext (.ref it)) (fun r s1 => ∃ u, r = some u ∧
      wpAny (model P w) X.A (letOwnedTupleGo tg (.ref it) u) (fun _ s2 => ∃ x H', Inv X pins σ H' s2 ∧ RelV x u ∧ J.yld i H x H' ∧ tn (i + 1) s2.heap ∧ ∀ b ∈ fp, H' b = none) E s1) E s
  done : ∀ (X : Cx), X.prog = P → X.w = w → X.K = K → X.calm = true → ∀ (i : Nat) (pins : List (Addr × Obj)) (s : Shared) (σ : St) (H : Hp) (E : Value → Shared → Prop), Inv X pins σ H s → (∀ b ∈ fp, FpOk X pins H b) → tn i s.heap → J.stop i H →
    wpAny (model P w) X.A (pyNext (.ref it)) (fun r s1 => r = none ∧ Inv X pins σ H s1) E s
  self : ∀ (A : Around) (i : Nat) (s : Shared) (Q : Value → Shared → Prop) (E : Value → Shared → Prop), tn i s.heap → Q (.ref it) s → wpAny (model P w) A (pyIter (.ref it)) Q E s
abbrev TI := St → Hp → (It → Hp → Prop) → Prop
/-- an iterator has come -/
def PIE (X : Cx) (pins : List (Addr × Obj)) (σ : St) (tg : Expr) (R : It → Hp → Prop) (itv : Value) (s2 : Shared) : Prop :=
  ∃ (it : Addr) (fp : List Addr) (tn : Nat → Heap → Prop) (J : It) (H' : Hp), itv = .ref it ∧ Inv X pins σ H' s2 ∧ Turn X.prog X.w X.K tg J fp it tn ∧ tn 0 s2.heap ∧ (∀ b ∈ fp, FpOk X pins H' b) ∧ R J H'
def PI (X : Cx) (tg iter : Expr) (wi : TI) : Prop :=
  ∀ (pins : List (Addr × Obj)) (s : Shared) (σ : St) (H : Hp) (R : It → Hp → Prop), Inv X pins σ H s → wi σ H R →
    wpAny (model X.prog X.w) X.A (eval iter X.env) (fun v s1 => wpAny (model X.prog X.w) X.A (pyIter v) (PIE X pins σ tg R) X.xe s1) X.xe s

/-- the step ahead of the store is nothing for an iterator that keeps no tuple -/
theorem go_of {M : Model} {A : Around} {E : Value → Shared → Prop} {s : Shared} {tg : Expr} {it : Addr} {u : Value} {o : Obj} {n : String} {vs : Array Value} {Q : Unit → Shared → Prop} (ho : s.heap.get? it = some o) (hc : o.cls = .type n) (hd : o.data = .fields vs)
    (hn : ["enumerate", "zip", "dict_itemiterator", "dict_reverseitemiterator", "odict_iterator", "itertools.zip_longest", "itertools.pairwise"].contains n = false) (hQ : Q () s) : wpAny M A (letOwnedTupleGo tg (.ref it) u) Q E s := by
  unfold letOwnedTupleGo
  cases tg <;> first
    | exact wpAny_pure hQ
    | (cases u <;> first
        | exact wpAny_pure hQ
        | (refine wpAny_bind (wpAny_load ho ?_)
           rw [hc, hd]
           show wpAny M A (if (["enumerate", "zip", "dict_itemiterator", "dict_reverseitemiterator", "odict_iterator", "itertools.zip_longest", "itertools.pairwise"].contains n && vs[0]? == some (rawInt _)) = true then _ else _) Q E s
           rw [if_neg (by intro h; rw [hn, Bool.false_and] at h; cases h)]
           exact wpAny_pure hQ))

/-- the list at a, as it stands at each turn (a loop may append to it) -/
def Itl (K : PySem.W.Frag) (a : Addr) : It :=
  ⟨fun i H => ∃ xs x, SqL K H a xs ∧ xs[i]? = some x, fun i H x H' => H' = H ∧ ∀ xs, SqL K H a xs → xs[i]? = some x, fun i H => ∃ xs, SqL K H a xs ∧ xs.length ≤ i⟩
def Itt (K : PySem.W.Frag) (a : Addr) : It :=
  ⟨fun i H => ∃ xs x, SqT K H a xs ∧ xs[i]? = some x, fun i H x H' => H' = H ∧ ∀ xs, SqT K H a xs → xs[i]? = some x, fun i H => ∃ xs, SqT K H a xs ∧ xs.length ≤ i⟩
/-- lo, lo + 1, .. (n of them) -/
def Itr (lo : Int) (n : Nat) : It := ⟨fun i _ => i < n, fun i H x H' => H' = H ∧ x = .int (lo + i), fun i _ => n ≤ i⟩
theorem turn_list {P : Program} {w : World} {K : PySem.W.Frag} {tg : Expr} (a it : Addr) : Turn P w K tg (Itl K a) [it] it (fun i h => h.IsListIter it a i) where
  mem := by simp
  obj := fun i h st b hb => by
    have e : b = it := by simpa using hb
    subst e
    obtain ⟨o, e, c, d⟩ := st
    exact ⟨o, e, fun v z => by rw [d] at z; cases z⟩
  keep := fun i h h' st k => st.at fun o e => k it (by simp) o e
  item := by
    intro X hP hw hK hc i pins s σ H E I hf st hg
    subst hP hw hK
    obtain ⟨xs, x, hq, hx⟩ := hg
    obtain ⟨its, rv, p, hz⟩ := I.list hq
    obtain ⟨u, hu, ru⟩ := rv.get hx
    obtain ⟨f0, f1, f2, f3, f4, f5⟩ := hf it (by simp)
    refine wpAny_pyNext_list_item st p.isList (x := u) (by simpa using hu) fun h' st' sb => ?_
    have I1 : Inv X pins σ H { s with heap := h' } := I.turned (t' := s.toks) (fun b o hb e => (sb.2 b hb).trans e) f0 f1 f3 f4 f5
    obtain ⟨o, e, c, d⟩ := id st'
    exact ⟨u, rfl, go_of (s := { s with heap := h' }) e c d (by decide) ⟨x, H, I1, ru, ⟨rfl, fun ys hy => by rw [I.list_inj hy hq]; exact hx⟩, st', fun b hb => (hf b hb).1⟩⟩
  done := by
    intro X hP hw hK hc i pins s σ H E I hf st hg
    subst hP hw hK
    obtain ⟨xs, hq, hx⟩ := hg
    obtain ⟨its, rv, p, hz⟩ := I.list hq
    obtain ⟨f0, f1, f2, f3, f4, f5⟩ := hf it (by simp)
    have hl := rv.length
    exact wpAny_pyNext_list_end (I.ok.hd hc) st p.isList (by simp; omega) fun h' eb => ⟨rfl, I.turned (t' := s.toks) (fun b o hb e => eb b o hb e) f0 f1 f3 f4 f5⟩
  self := fun _ _ _ _ _ st h => wpAny_pyIter_listiter st h
theorem turn_tuple {P : Program} {w : World} {K : PySem.W.Frag} {tg : Expr} (a it : Addr) : Turn P w K tg (Itt K a) [it] it (fun i h => h.IsTupleIter it a i) where
  mem := by simp
  obj := fun i h st b hb => by
    have e : b = it := by simpa using hb
    subst e
    obtain ⟨o, e, c, d⟩ := st
    exact ⟨o, e, fun v z => by rw [d] at z; cases z⟩
  keep := fun i h h' st k => st.at fun o e => k it (by simp) o e
  item := by
    intro X hP hw hK hc i pins s σ H E I hf st hg
    subst hP hw hK
    obtain ⟨xs, x, hq, hx⟩ := hg
    obtain ⟨its, rv, p, hz⟩ := I.tuple hq
    obtain ⟨u, hu, ru⟩ := rv.get hx
    obtain ⟨f0, f1, f2, f3, f4, f5⟩ := hf it (by simp)
    refine wpAny_pyNext_tuple_item st (show s.heap.IsTuple a its.toArray from p) (x := u) (by simpa using hu) fun h' st' sb => ?_
    have I1 : Inv X pins σ H { s with heap := h' } := I.turned (t' := s.toks) (fun b o hb e => (sb.2 b hb).trans e) f0 f1 f3 f4 f5
    obtain ⟨o, e, c, d⟩ := id st'
    exact ⟨u, rfl, go_of (s := { s with heap := h' }) e c d (by decide) ⟨x, H, I1, ru, ⟨rfl, fun ys hy => by rw [I.tuple_inj hy hq]; exact hx⟩, st', fun b hb => (hf b hb).1⟩⟩
  done := by
    intro X hP hw hK hc i pins s σ H E I hf st hg
    subst hP hw hK
    obtain ⟨xs, hq, hx⟩ := hg
    obtain ⟨its, rv, p, hz⟩ := I.tuple hq
    obtain ⟨f0, f1, f2, f3, f4, f5⟩ := hf it (by simp)
    have hl := rv.length
    exact wpAny_pyNext_tuple_end (I.ok.hd hc) st (show s.heap.IsTuple a its.toArray from p) (by simp; omega) fun h' eb => ⟨rfl, I.turned (t' := s.toks) (fun b o hb e => eb b o hb e) f0 f1 f3 f4 f5⟩
  self := fun _ _ _ _ _ st h => wpAny_pyIter_tupleiter st h
theorem turn_range {P : Program} {w : World} {K : PySem.W.Frag} {tg : Expr} (it : Addr) (lo : Int) (n : Nat) : Turn P w K tg (Itr lo n) [it] it (fun i h => IsRangeIter h it (lo + (i : Nat) * 1) ((n : Int) - (i : Nat)) 1) where
  mem := by simp
  obj := fun i h st b hb => by
    have e : b = it := by simpa using hb
    subst e
    exact ⟨_, st, fun v z => by
      have z' : Data.fields _ = Data.cell v := z
      cases z'⟩
  keep := fun i h h' st k => k it (by simp) _ st
  item := by
    intro X hP hw hK hc i pins s σ H E I hf st hg
    subst hP hw hK
    obtain ⟨f0, f1, f2, f3, f4, f5⟩ := hf it (by simp)
    have W := Walks.range (prog := X.prog) (w := X.w) (I.ok.hd hc) it lo 1 n
    refine W.item i s _ _ hg st fun v h' tk hv st' kk => ?_
    obtain ⟨t, rfl⟩ := hv
    have I1 : Inv X pins σ H { s with heap := h', toks := tk } := I.turned (fun b o hb e => kk b o (by simpa using hb) e) f0 f1 f3 f4 f5
    refine ⟨_, rfl, go_of (s := { s with heap := h', toks := tk }) (n := "range_iterator") st' rfl rfl (by decide) ⟨.int (lo + i), H, I1, ⟨t, ?_⟩, ⟨rfl, rfl⟩, st', fun b hb => (hf b hb).1⟩⟩
    rw [Int.mul_one]
  done := by
    intro X hP hw hK hc i pins s σ H E I hf st hg
    subst hP hw hK
    obtain ⟨f0, f1, f2, f3, f4, f5⟩ := hf it (by simp)
    exact wpAny_pyNext_range_end (I.ok.hd hc) st (by have : n ≤ i := hg; omega) fun h' eb => ⟨rfl, I.turned (t' := s.toks) (fun b o hb e => eb b o hb e) f0 f1 f3 f4 f5⟩
  self := fun _ _ _ _ _ st h => wpAny_pyIter_rangeiter st h
end L2

namespace L2
open PySem PySem.Spec PyProof.Rows
section
variable {X : Cx} {tg : Expr}
def iList (K : PySem.W.Frag) (tl : TE) : TI := fun σ H R => tl σ H fun x H1 => ∃ a, x = .ref a ∧ (∃ xs, SqL K H1 a xs) ∧ R (Itl K a) H1
def iTup (K : PySem.W.Frag) (tl : TE) : TI := fun σ H R => tl σ H fun x H1 => ∃ a, x = .ref a ∧ (∃ xs, SqT K H1 a xs) ∧ R (Itt K a) H1
theorem pi_list {l : Expr} {tl : TE} (hl : PE X l tl) : PI X tg l (iList X.K tl) := by
  intro pins s σ H R I h
  refine thn (hl pins s σ H _ I h) fun v s1 ⟨x, H1, I1, r1, q1⟩ => ?_
  obtain ⟨a, e, ⟨xs, hq⟩, q⟩ := q1
  subst e
  cases r1
  obtain ⟨its, rv, p, hz⟩ := I1.list hq
  refine wpAny_pyIter_list p.isList ?_
  refine ⟨s1.heap.objs.size, [s1.heap.objs.size], _, _, H1, rfl, I1.kept (t' := s1.toks) fun b o e => Heap.get?_push_of_some _ e, turn_list a _, ⟨_, Heap.get?_push_size _ rfl, rfl, rfl⟩, fun b hb => ?_, q⟩
  have e : b = s1.heap.objs.size := by simpa using hb
  subst e
  exact I1.fpOk (Nat.le_refl _) (I1.hok.fresh (Nat.le_refl _))
theorem pi_tup {l : Expr} {tl : TE} (hl : PE X l tl) : PI X tg l (iTup X.K tl) := by
  intro pins s σ H R I h
  refine thn (hl pins s σ H _ I h) fun v s1 ⟨x, H1, I1, r1, q1⟩ => ?_
  obtain ⟨a, e, ⟨xs, hq⟩, q⟩ := q1
  subst e
  cases r1
  obtain ⟨its, rv, p, hz⟩ := I1.tuple hq
  refine wpAny_pyIter_tuple (show s1.heap.IsTuple a its.toArray from p) ?_
  refine ⟨s1.heap.objs.size, [s1.heap.objs.size], _, _, H1, rfl, I1.kept (t' := s1.toks) fun b o e => Heap.get?_push_of_some _ e, turn_tuple a _, ⟨_, Heap.get?_push_size _ rfl, rfl, rfl⟩, fun b hb => ?_, q⟩
  have e : b = s1.heap.objs.size := by simpa using hb
  subst e
  exact I1.fpOk (Nat.le_refl _) (I1.hok.fresh (Nat.le_refl _))
/-- a range object just made, walked -/
theorem range_it {pins : List (Addr × Obj)} {σ : St} {H : Hp} {s : Shared} {R : It → Hp → Prop} {E : Value → Shared → Prop} {lo hi : Int} {t u v : Tok} {tk : Nat} (I : Inv X pins σ H s) (h1 : -(2 ^ 62) ≤ lo) (h2 : lo < 2 ^ 62) (h3 : -(2 ^ 62) ≤ hi) (h4 : hi < 2 ^ 62)
    (q : R (Itr lo (hi - lo).toNat) H) : wpAny (model X.prog X.w) X.A (pyIter (.ref s.heap.objs.size)) (PIE X pins σ tg R) E { s with heap := s.heap.push { cls := .type "range", data := .fields #[.int lo t, .int hi u, .int 1 v] }, toks := tk } := by
  refine wpAny_pyIter_range (IsRange.new ..) (small_one h1 h2 h3 h4) ?_
  have I1 : Inv X pins σ H { s with heap := s.heap.push { cls := .type "range", data := .fields #[.int lo t, .int hi u, .int 1 v] }, toks := tk } := I.kept fun b o e => Heap.get?_push_of_some _ e
  refine ⟨(s.heap.push { cls := .type "range", data := .fields #[.int lo t, .int hi u, .int 1 v] }).objs.size, [(s.heap.push { cls := .type "range", data := .fields #[.int lo t, .int hi u, .int 1 v] }).objs.size], _, _, H, rfl,
    I1.kept (t' := tk) fun b o e => Heap.get?_push_of_some _ e, turn_range _ lo (hi - lo).toNat, ?_, fun b hb => ?_, q⟩
  · have e1 : lo + ((0 : Nat) : Int) * 1 = lo := by simp
    have e2 : (((hi - lo).toNat : Nat) : Int) - ((0 : Nat) : Int) = Builtin.Range.rangeSize lo hi 1 := by rw [rangeSize_one]; split <;> omega
    show IsRangeIter _ _ (lo + ((0 : Nat) : Int) * 1) ((((hi - lo).toNat : Nat) : Int) - ((0 : Nat) : Int)) 1
    rw [e1, e2]
    exact Heap.get?_push_size _ rfl
  · have e : b = (s.heap.push { cls := .type "range", data := .fields #[.int lo t, .int hi u, .int 1 v] }).objs.size := by simpa using hb
    subst e
    exact I1.fpOk (Nat.le_refl _) (I1.hok.fresh (Nat.le_refl _))
def iRng1 (ta : TA) : TI := fun σ H R => ta σ H fun vs H1 => ∃ j : Int, vs = [.int j] ∧ -(2 ^ 62) ≤ j ∧ j < 2 ^ 62 ∧ R (Itr 0 j.toNat) H1
def iRng2 (ta : TA) : TI := fun σ H R => ta σ H fun vs H1 => ∃ i j : Int, vs = [.int i, .int j] ∧ (-(2 ^ 62) ≤ i ∧ i < 2 ^ 62 ∧ -(2 ^ 62) ≤ j ∧ j < 2 ^ 62) ∧ R (Itr i (j - i).toNat) H1
theorem pi_range1 {a : Expr} {ta : TA} {p pos : Pos} (hg : Gl X "range") (hm : X.mg "range" = none) (ha : PA X [a] ta) (hs : starEach [a] X.env = [(false, eval a X.env)] := by rfl) : PI X tg (.Call (.Name "range" p) [a] [] pos) (iRng1 ta) := by
  intro pins s σ H R I h
  refine Call_ (ld_blt I hg hm boot_range (PyProof.Rows.callWith_type1 (thn (ha pos pins s σ H _ I h) fun us s1 ⟨vs, H1, I1, r1, q1⟩ => ?_) hs rfl))
  obtain ⟨j, e, q1, q2, q⟩ := q1
  subst e
  cases r1 with
  | cons r rr =>
    cases rr
    obtain ⟨t, rfl⟩ := r
    exact call_range_1 (range_it I1 (by omega) (by omega) q1 q2 (by simpa using q))
theorem pi_range2 {a b : Expr} {ta : TA} {p pos : Pos} (hg : Gl X "range") (hm : X.mg "range" = none) (ha : PA X [a, b] ta) (hs : starEach [a, b] X.env = [(false, eval a X.env), (false, eval b X.env)] := by rfl) (hs2 : starEach [b] X.env = [(false, eval b X.env)] := by rfl) :
    PI X tg (.Call (.Name "range" p) [a, b] [] pos) (iRng2 ta) := by
  intro pins s σ H R I h
  refine Call_ (ld_blt I hg hm boot_range (PyProof.Rows.callWith_type1 (thn (ha pos pins s σ H _ I h) fun us s1 ⟨vs, H1, I1, r1, q1⟩ => ?_) (by rw [hs, hs2]) (by rw [hs2]; rfl)))
  obtain ⟨i, j, e, ⟨q1, q2, q3, q4⟩, q⟩ := q1
  subst e
  cases r1 with
  | cons r rr =>
    cases rr with
    | cons r' rr =>
      cases rr
      obtain ⟨t, rfl⟩ := r
      obtain ⟨t', rfl⟩ := r'
      exact call_range_2 (range_it I1 q1 q2 q3 q4 q)

/-! ### for -/
/-- W: the invariant by the turn and a measure; N: what the body is to reach -/
def tFor (wi : TI) (g : TG) (tb : TS) : TS := fun D σ H => wi σ H fun J H1 => ∃ W : Nat → Nat → St → Hp → Prop, (∃ m, W 0 m σ H1) ∧ ∀ i m σ H, W i m σ H →
  (J.stop i H ∧ D.nx σ H) ∨ (J.go i H ∧ ∃ N : St → Hp → Prop, (∀ σ' H', N σ' H' → ∃ m', m' < m ∧ W (i + 1) m' σ' H') ∧ ∀ x H', J.yld i H x H' → g x σ H' fun σ2 H2 => tb { D with nx := N, ct := N, bk := D.nx } σ2 H2)
/-- the records at fp as they stand -/
def pinsAt (fp : List Addr) (h : Heap) : List (Addr × Obj) := fp.filterMap fun b => (h.get? b).map fun o => (b, o)
theorem mem_pinsAt {fp : List Addr} {h : Heap} {b : Addr} {o : Obj} (hb : b ∈ fp) (e : h.get? b = some o) : (b, o) ∈ pinsAt fp h := List.mem_filterMap.mpr ⟨b, hb, by rw [e]; rfl⟩
theorem of_pinsAt {fp : List Addr} {h : Heap} {p : Addr × Obj} (hp : p ∈ pinsAt fp h) : p.1 ∈ fp ∧ h.get? p.1 = some p.2 := by
  obtain ⟨b, hb, e⟩ := List.mem_filterMap.mp hp
  cases q : h.get? b with
  | none => rw [q] at e; cases e
  | some o =>
    rw [q] at e
    have e' : (b, o) = p := Option.some.inj e
    subst e'
    exact ⟨hb, q⟩
theorem Inv.pinned {pins : List (Addr × Obj)} {σ : St} {H : Hp} {s : Shared} {fp : List Addr} (I : Inv X pins σ H s) (hf : ∀ b ∈ fp, FpOk X pins H b) (ho : ∀ b ∈ fp, ∃ o, s.heap.get? b = some o ∧ ∀ v, o.data ≠ .cell v) : Inv X (pins ++ pinsAt fp s.heap) σ H s :=
  I.pins_of fun p hp => (List.mem_append.mp hp).elim (fun z => I.pin p (List.mem_append_right _ z)) fun z => by
    obtain ⟨hb, e⟩ := of_pinsAt z
    obtain ⟨f0, f1, f2, _⟩ := hf p.1 hb
    obtain ⟨o, e', d⟩ := ho p.1 hb
    rw [e] at e'; cases e'
    exact ⟨e, f0, f1, f2, d⟩
theorem Inv.unpinned {pins pl : List (Addr × Obj)} {σ : St} {H : Hp} {s : Shared} (I : Inv X (pins ++ pl) σ H s) : Inv X pins σ H s := I.pins_of fun p hp => I.pin p (List.mem_append_right _ (List.mem_append_left _ hp))
theorem ps_for {iter : Expr} {body : List Stmt} {wi : TI} {g : TG} {tb : TS} {pos : Pos} (hp : PassesOwn (model X.prog X.w) X.A X.env X.xe) (hc : X.calm = true) (hi : PI X tg iter wi) (hg : PG X tg g) (hb : PSs X body tb)
    (hs : ∀ x, foldedSetIterable iter X.env x = pure x := by intro _; rfl) : PS X (.For tg iter body [] pos) (tFor wi g tb) := by
  intro pins s σ H D I h
  refine wpAny_For (thn (hi pins s σ H _ I h) fun v s1 h1 => thn h1 fun itv s2 h2 => ?_) hs
  obtain ⟨it, fp, tn, J, H2, e, I2, T, st2, f2, W, ⟨m0, w0⟩, turn⟩ := h2
  subst e
  -- what stays true of the iterator's objects through the loop
  have stat : ∀ {H' : Hp}, (∀ b ∈ fp, H' b = none) → ∀ b ∈ fp, FpOk X pins H' b := fun hn b hb => ⟨hn b hb, (f2 b hb).2⟩
  refine codeAny_forLoop_any (fun n s' => ∃ i σ' H', Inv X pins σ' H' s' ∧ tn i s'.heap ∧ (∀ b ∈ fp, H' b = none) ∧ W i n σ' H') ?_ m0 ⟨0, σ, H2, I2, st2, fun b hb => (f2 b hb).1, w0⟩
  rintro n s3 ⟨i, σ3, H3, I3, st3, fr3, w3⟩
  rcases turn i n σ3 H3 w3 with ⟨stop, qn⟩ | ⟨go, N, hN, step⟩
  · refine wpAny_passesOwn hp (thn (T.done X rfl rfl rfl hc i pins s3 σ3 H3 X.xe I3 (stat fr3) st3 stop) fun r s4 ⟨hr, I4⟩ => ?_)
    subst hr
    exact wpAny_execs_nil ⟨σ3, H3, I4, qn⟩
  · refine wpAny_passesOwn hp (thn (T.item X rfl rfl rfl hc i pins s3 σ3 H3 X.xe I3 (stat fr3) st3 go) fun r s4 ⟨u, hr, h4⟩ => ?_)
    subst hr
    refine wpAny_passesOwn hp (thn h4 fun _ s5 ⟨x, H5, I5, r5, y5, st5, fr5⟩ => ?_)
    have I5' := I5.pinned (stat fr5) (T.obj _ _ st5)
    refine wpAny_passesOwn hp (thn (hg _ s5 σ3 H5 x u _ I5' r5 (step x H5 y5)) fun _ s6 ⟨σ6, H6, I6, q6⟩ => ?_)
    refine wpAny_passesOwn hp (thn (hb _ s6 σ6 H6 _ I6 q6) fun f s7 q7 => ?_)
    have again : ∀ {σ7 : St} {H7 : Hp}, Inv X (pins ++ pinsAt fp s5.heap) σ7 H7 s7 → N σ7 H7 → ∃ m, m < n ∧ ∃ i σ' H', Inv X pins σ' H' s7 ∧ tn i s7.heap ∧ (∀ b ∈ fp, H' b = none) ∧ W i m σ' H' := fun {σ7 H7} I7 n7 => by
      obtain ⟨m', hm, w7⟩ := hN σ7 H7 n7
      refine ⟨m', hm, i + 1, σ7, H7, I7.unpinned, T.keep _ _ _ st5 fun b hb o e => (I7.pin (b, o) (List.mem_append_right _ (List.mem_append_right _ (mem_pinsAt hb e)))).1, fun b hb => ?_, w7⟩
      obtain ⟨o, e, d⟩ := T.obj _ _ st5 b hb
      exact (I7.pin (b, o) (List.mem_append_right _ (List.mem_append_right _ (mem_pinsAt hb e)))).2.1
    cases f with
    | next => obtain ⟨σ7, H7, I7, n7⟩ := q7; exact again I7 n7
    | cont => obtain ⟨σ7, H7, I7, n7⟩ := q7; exact again I7 n7
    | brk => obtain ⟨σ7, H7, I7, q7⟩ := q7; exact ⟨σ7, H7, I7.unpinned, q7⟩
    | ret v => obtain ⟨x7, σ7, H7, I7, r7, q7⟩ := q7; exact ⟨x7, σ7, H7, I7.unpinned, r7, q7⟩
end

/-! ### the forms one uses -/
/-- over a list that the body leaves as it is -/
theorem for_list {K : PySem.W.Frag} {a : Addr} {xs : List V} {g : TG} {tb : TS} {D : Ends} {σ : St} {H : Hp} (Pv : Nat → St → Hp → Prop) (h0 : Pv 0 σ H) (hl : ∀ i σ H, i ≤ xs.length → Pv i σ H → SqL K H a xs)
    (hs : ∀ i x σ H, xs[i]? = some x → Pv i σ H → g x σ H fun σ2 H2 => tb { D with nx := Pv (i + 1), ct := Pv (i + 1), bk := D.nx } σ2 H2) (hd : ∀ σ H, Pv xs.length σ H → D.nx σ H) :
    ∃ W : Nat → Nat → St → Hp → Prop, (∃ m, W 0 m σ H) ∧ ∀ i m σ H, W i m σ H →
      ((Itl K a).stop i H ∧ D.nx σ H) ∨ ((Itl K a).go i H ∧ ∃ N : St → Hp → Prop, (∀ σ' H', N σ' H' → ∃ m', m' < m ∧ W (i + 1) m' σ' H') ∧ ∀ x H', (Itl K a).yld i H x H' → g x σ H' fun σ2 H2 => tb { D with nx := N, ct := N, bk := D.nx } σ2 H2) := by
  refine ⟨fun i m σ H => m = xs.length - i ∧ i ≤ xs.length ∧ Pv i σ H, ⟨xs.length, by simp, Nat.zero_le _, h0⟩, ?_⟩
  rintro i m σ H ⟨rfl, hi, p⟩
  have q := hl i σ H hi p
  by_cases hlt : i < xs.length
  · refine .inr ⟨⟨xs, xs[i], q, by simp [hlt]⟩, Pv (i + 1), fun σ' H' p' => ⟨xs.length - (i + 1), by omega, rfl, hlt, p'⟩, fun x H' y => ?_⟩
    obtain ⟨e, y⟩ := y
    subst e
    exact hs i x σ _ (y xs q) p
  · have e : i = xs.length := by omega
    subst e
    exact .inl ⟨⟨xs, q, Nat.le_refl _⟩, hd σ H p⟩
theorem for_tup {K : PySem.W.Frag} {a : Addr} {xs : List V} {g : TG} {tb : TS} {D : Ends} {σ : St} {H : Hp} (Pv : Nat → St → Hp → Prop) (h0 : Pv 0 σ H) (hl : ∀ i σ H, i ≤ xs.length → Pv i σ H → SqT K H a xs)
    (hs : ∀ i x σ H, xs[i]? = some x → Pv i σ H → g x σ H fun σ2 H2 => tb { D with nx := Pv (i + 1), ct := Pv (i + 1), bk := D.nx } σ2 H2) (hd : ∀ σ H, Pv xs.length σ H → D.nx σ H) :
    ∃ W : Nat → Nat → St → Hp → Prop, (∃ m, W 0 m σ H) ∧ ∀ i m σ H, W i m σ H →
      ((Itt K a).stop i H ∧ D.nx σ H) ∨ ((Itt K a).go i H ∧ ∃ N : St → Hp → Prop, (∀ σ' H', N σ' H' → ∃ m', m' < m ∧ W (i + 1) m' σ' H') ∧ ∀ x H', (Itt K a).yld i H x H' → g x σ H' fun σ2 H2 => tb { D with nx := N, ct := N, bk := D.nx } σ2 H2) := by
  refine ⟨fun i m σ H => m = xs.length - i ∧ i ≤ xs.length ∧ Pv i σ H, ⟨xs.length, by simp, Nat.zero_le _, h0⟩, ?_⟩
  rintro i m σ H ⟨rfl, hi, p⟩
  have q := hl i σ H hi p
  by_cases hlt : i < xs.length
  · refine .inr ⟨⟨xs, xs[i], q, by simp [hlt]⟩, Pv (i + 1), fun σ' H' p' => ⟨xs.length - (i + 1), by omega, rfl, hlt, p'⟩, fun x H' y => ?_⟩
    obtain ⟨e, y⟩ := y
    subst e
    exact hs i x σ _ (y xs q) p
  · have e : i = xs.length := by omega
    subst e
    exact .inl ⟨⟨xs, q, Nat.le_refl _⟩, hd σ H p⟩
theorem for_range {lo : Int} {n : Nat} {g : TG} {tb : TS} {D : Ends} {σ : St} {H : Hp} (Pv : Nat → St → Hp → Prop) (h0 : Pv 0 σ H)
    (hs : ∀ i σ H, i < n → Pv i σ H → g (.int (lo + i)) σ H fun σ2 H2 => tb { D with nx := Pv (i + 1), ct := Pv (i + 1), bk := D.nx } σ2 H2) (hd : ∀ σ H, Pv n σ H → D.nx σ H) :
    ∃ W : Nat → Nat → St → Hp → Prop, (∃ m, W 0 m σ H) ∧ ∀ i m σ H, W i m σ H →
      ((Itr lo n).stop i H ∧ D.nx σ H) ∨ ((Itr lo n).go i H ∧ ∃ N : St → Hp → Prop, (∀ σ' H', N σ' H' → ∃ m', m' < m ∧ W (i + 1) m' σ' H') ∧ ∀ x H', (Itr lo n).yld i H x H' → g x σ H' fun σ2 H2 => tb { D with nx := N, ct := N, bk := D.nx } σ2 H2) := by
  refine ⟨fun i m σ H => m = n - i ∧ i ≤ n ∧ Pv i σ H, ⟨n, by simp, Nat.zero_le _, h0⟩, ?_⟩
  rintro i m σ H ⟨rfl, hi, p⟩
  by_cases hlt : i < n
  · refine .inr ⟨hlt, Pv (i + 1), fun σ' H' p' => ⟨n - (i + 1), by omega, rfl, hlt, p'⟩, fun x H' y => ?_⟩
    obtain ⟨e, y⟩ := y
    subst e y
    exact hs i σ _ hlt p
  · have e : i = n := by omega
    subst e
    exact .inl ⟨Nat.le_refl _, hd σ H p⟩
/-- while, by a word and a measure of the state -/
theorem while_by {c : TT} {tb : TS} {D : Ends} {σ : St} {H : Hp} (Pv : St → Hp → Prop) (μ : St → Hp → Nat) (h0 : Pv σ H)
    (hs : ∀ σ H, Pv σ H → c σ H fun b H1 => if b = true then tb { D with nx := fun σ' H' => Pv σ' H' ∧ μ σ' H' < μ σ H, ct := fun σ' H' => Pv σ' H' ∧ μ σ' H' < μ σ H, bk := D.nx } σ H1 else D.nx σ H1)
    (mono : ∀ σ H Q Q', (∀ b H1, Q b H1 → Q' b H1) → c σ H Q → c σ H Q') : tWhile c tb D σ H := by
  refine ⟨fun m σ H => m = μ σ H ∧ Pv σ H, ⟨_, rfl, h0⟩, ?_⟩
  rintro m σ H ⟨rfl, p⟩
  refine mono σ H _ _ (fun b H1 q => ?_) (hs σ H p)
  cases b with
  | true => exact ⟨_, fun σ' H' ⟨p', l⟩ => ⟨_, l, rfl, p'⟩, q⟩
  | false => exact q
end L2

namespace L2
open PySem PySem.Spec PyProof.Rows

abbrev R2 := V → V → Hp → VK → Prop
/-- a two-place operation on values: f is binaryOp op, inplaceOp op or compareOp op -/
def OpR (X : Cx) (f : Value → Value → Sem Value) (r : R2) : Prop :=
  ∀ (pins : List (Addr × Obj)) (s : Shared) (σ : St) (H : Hp) (x y : V) (v u : Value) (Q : VK), Inv X pins σ H s → RelV x v → RelV y u → r x y H Q →
    wpAny (model X.prog X.w) X.A (f v u) (EP X pins σ Q) X.xe s
/-- a one-place operation -/
def UnR (X : Cx) (f : Value → Sem Value) (r : V → Hp → VK → Prop) : Prop :=
  ∀ (pins : List (Addr × Obj)) (s : Shared) (σ : St) (H : Hp) (x : V) (v : Value) (Q : VK), Inv X pins σ H s → RelV x v → r x H Q →
    wpAny (model X.prog X.w) X.A (f v) (EP X pins σ Q) X.xe s
/-- a call of a value that is known (a builtin, a type) with values -/
def CallR (X : Cx) (f : Value) (r : List V → Hp → VK → Prop) : Prop :=
  ∀ (pins : List (Addr × Obj)) (s : Shared) (σ : St) (H : Hp) (xs : List V) (us : List Value) (Q : VK), Inv X pins σ H s → Vals xs us → r xs H Q →
    wpAny (model X.prog X.w) X.A (call f us) (EP X pins σ Q) X.xe s
/-- a value's truth -/
def TruR (X : Cx) (r : V → Hp → (Bool → Hp → Prop) → Prop) : Prop :=
  ∀ (pins : List (Addr × Obj)) (s : Shared) (σ : St) (H : Hp) (x : V) (v : Value) (Q : Bool → Hp → Prop), Inv X pins σ H s → RelV x v → r x H Q →
    wpAny (model X.prog X.w) X.A (truthy v) (TP X pins σ Q) X.xe s

def tOp (r : R2) (ta tb : TE) : TE := fun σ H Q => ta σ H fun x H1 => tb σ H1 fun y H2 => r x y H2 Q
def tUn (r : V → Hp → VK → Prop) (ta : TE) : TE := fun σ H Q => ta σ H fun x H1 => r x H1 Q
/-- ints in, under C, and a value out -/
def rI (C : Int → Int → Prop) (g : Int → Int → V) : R2 := fun x y H Q => ∃ i j, x = .int i ∧ y = .int j ∧ C i j ∧ Q (g i j) H
def rI0 (g : Int → Int → V) : R2 := fun x y H Q => ∃ i j, x = .int i ∧ y = .int j ∧ Q (g i j) H
def rU (g : Int → V) : V → Hp → VK → Prop := fun x H Q => ∃ i, x = .int i ∧ Q (g i) H

section
variable {X : Cx} {a b c : Expr} {ta tb tc : TE} {pos : Pos}

theorem binT (ha : PE X a ta) (hb : PE X b tb) {pins : List (Addr × Obj)} {s : Shared} {σ : St} {H : Hp} {R : V → V → Hp → Prop} (I : Inv X pins σ H s)
    (h : ta σ H fun x H1 => tb σ H1 fun y H2 => R x y H2) {Q : Value → Shared → Prop} {f : Value → Value → Sem Value}
    (hf : ∀ v u s2 x y H2, Inv X pins σ H2 s2 → RelV x v → RelV y u → R x y H2 → wpAny (model X.prog X.w) X.A (f v u) Q X.xe s2) :
    wpAny (model X.prog X.w) X.A (eval a X.env) (fun v s₁ => wpAny (model X.prog X.w) X.A (eval b X.env) (fun u s₂ => wpAny (model X.prog X.w) X.A (f v u) Q X.xe s₂) X.xe s₁) X.xe s := by
  refine thn (ha pins s σ H _ I h) fun v s1 ⟨x, H1, I1, r1, q1⟩ => ?_
  refine thn (hb pins s1 σ H1 _ I1 q1) fun u s2 ⟨y, H2, I2, r2, q2⟩ => ?_
  exact hf v u s2 x y H2 I2 r1 r2 q2

theorem pe_op {op : Operator} {r : R2} (ho : OpR X (binaryOp op) r) (ha : PE X a ta) (hb : PE X b tb) : PE X (.BinOp a op b pos) (tOp r ta tb) := by
  intro pins s σ H Q I h
  exact wpAny_BinOp (binT ha hb I h fun v u s2 x y H2 I2 rx ry q => ho pins s2 σ H2 x y v u Q I2 rx ry q)
theorem pe_un {op : UnaryOp} {r : V → Hp → VK → Prop} (ho : UnR X (unaryOp op) r) (ha : PE X a ta) : PE X (.UnaryOp op a pos) (tUn r ta) := by
  intro pins s σ H Q I h
  exact UnaryOp_ (thn (ha pins s σ H _ I h) fun v s1 ⟨x, H1, I1, r1, q1⟩ => ho pins s1 σ H1 x v Q I1 r1 q1)
/-- a op= e at a name: the name's slot i -/
theorem augR {op : Operator} {r : R2} (ho : OpR X (inplaceOp op) r) {pins : List (Addr × Obj)} {s : Shared} {σ : St} {H : Hp} {x y : V} {v u : Value} {Q : VK} (I : Inv X pins σ H s)
    (rx : RelV x v) (ry : RelV y u) (q : r x y H Q) : wpAny (model X.prog X.w) X.A (inplaceOp op v u) (EP X pins σ Q) X.xe s := ho pins s σ H x y v u Q I rx ry q

/-! ### ints -/
theorem opI {f : Value → Value → Sem Value} {C : Int → Int → Prop} {g : Int → Int → Int}
    (rule : ∀ (i j : Int) (t u : Tok) (s : Shared) (Q : Value → Shared → Prop) (E : Value → Shared → Prop), C i j → Q (.int (g i j) s.toks) { s with toks := s.toks + 1 } → wpAny (model X.prog X.w) X.A (f (.int i t) (.int j u)) Q E s) :
    OpR X f (rI C fun i j => .int (g i j)) := by
  intro pins s σ H x y v u Q I rx ry h
  obtain ⟨i, j, rfl, rfl, hc, q⟩ := h
  obtain ⟨t, rfl⟩ := rx
  obtain ⟨t', rfl⟩ := ry
  exact rule i j t t' s _ _ hc ⟨.int (g i j), H, I.tok _, ⟨_, rfl⟩, q⟩
theorem opI0 {f : Value → Value → Sem Value} {g : Int → Int → Int}
    (rule : ∀ (i j : Int) (t u : Tok) (s : Shared) (Q : Value → Shared → Prop) (E : Value → Shared → Prop), Q (.int (g i j) s.toks) { s with toks := s.toks + 1 } → wpAny (model X.prog X.w) X.A (f (.int i t) (.int j u)) Q E s) :
    OpR X f (rI0 fun i j => .int (g i j)) := by
  intro pins s σ H x y v u Q I rx ry h
  obtain ⟨i, j, rfl, rfl, q⟩ := h
  obtain ⟨t, rfl⟩ := rx
  obtain ⟨t', rfl⟩ := ry
  exact rule i j t t' s _ _ ⟨.int (g i j), H, I.tok _, ⟨_, rfl⟩, q⟩
theorem opB0 {f : Value → Value → Sem Value} {g : Int → Int → Bool}
    (rule : ∀ (i j : Int) (t u : Tok) (s : Shared) (Q : Value → Shared → Prop) (E : Value → Shared → Prop), Q (.bool (g i j)) s → wpAny (model X.prog X.w) X.A (f (.int i t) (.int j u)) Q E s) :
    OpR X f (rI0 fun i j => .bl (g i j)) := by
  intro pins s σ H x y v u Q I rx ry h
  obtain ⟨i, j, rfl, rfl, q⟩ := h
  obtain ⟨t, rfl⟩ := rx
  obtain ⟨t', rfl⟩ := ry
  exact rule i j t t' s _ _ ⟨.bl (g i j), H, I, rfl, q⟩

def CDiv (i j : Int) : Prop := 0 < j ∧ j < 1073741824
def CDivN (i j : Int) : Prop := j ≠ 0 ∧ j.natAbs < 1073741824
def CPow (i j : Int) : Prop := 0 ≤ j ∧ j ≤ 1000000 ∧ i.natAbs < 2 ^ 64
def CMul (i j : Int) : Prop := (-(2 ^ 64) < i ∧ i < 2 ^ 64) ∨ (-(2 ^ 64) < j ∧ j < 2 ^ 64)
theorem CMul.ok {i j : Int} (h : CMul i j) : IntMulOk i j := by
  rcases h with ⟨h1, h2⟩ | ⟨h1, h2⟩
  · exact .of_left (intBits_le_64 h1 h2)
  · exact .of_right (intBits_le_64 h1 h2)
theorem two_pow_nn (k : Nat) : (0 : Int) ≤ 2 ^ k := by
  rw [two_pow_cast]
  exact Int.natCast_nonneg _

theorem op_add : OpR X (binaryOp .Add) (rI0 fun i j => .int (i + j)) := opI0 fun _ _ _ _ _ _ _ q => add_int q
theorem op_sub : OpR X (binaryOp .Sub) (rI0 fun i j => .int (i - j)) := opI0 fun _ _ _ _ _ _ _ q => sub_int q
theorem op_mul : OpR X (binaryOp .Mult) (rI CMul fun i j => .int (i * j)) := opI fun _ _ _ _ _ _ _ hc q => mul_int q hc.ok
/-- // by a positive divisor -/
theorem op_fdiv : OpR X (binaryOp .FloorDiv) (rI CDiv fun i j => .int (i / j)) := opI fun i j _ _ _ _ _ hc q => by
  have h1 : (0 : Int) < j := hc.1
  have h2 : j < 1073741824 := hc.2
  exact floordiv_int (by omega) (by rw [Int.fdiv_eq_ediv_of_nonneg i (by omega)]; exact q) (.inl (PyProof.noPylong_small (by omega)))
theorem op_fdivN : OpR X (binaryOp .FloorDiv) (rI CDivN fun i j => .int (i.fdiv j)) := opI fun _ _ _ _ _ _ _ hc q => floordiv_int hc.1 q (.inl (PyProof.noPylong_small hc.2))
/-- % by a positive divisor of any size -/
theorem op_mod : OpR X (binaryOp .Mod) (rI (fun _ j => 0 < j) fun i j => .int (i % j)) := opI fun i j _ _ _ _ _ hc q => by
  have h1 : (0 : Int) < j := hc
  exact mod_int' (by omega) (by rw [Int.fmod_eq_emod_of_nonneg i (by omega)]; exact q)
theorem op_modN : OpR X (binaryOp .Mod) (rI (fun _ j => j ≠ 0) fun i j => .int (i.fmod j)) := opI fun _ _ _ _ _ _ _ hc q => mod_int' hc q
theorem op_pow : OpR X (binaryOp .Pow) (rI CPow fun i j => .int (i ^ j.toNat)) := opI fun _ _ _ _ _ _ _ hc q => pow_int_small hc.1 hc.2.1 hc.2.2 q
theorem op_shl : OpR X (binaryOp .LShift) (rI CPow fun i j => .int (i * 2 ^ j.toNat)) := opI fun _ _ _ _ _ _ _ hc q => lshift_int_small hc.1 hc.2.1 hc.2.2 q
theorem op_shr : OpR X (binaryOp .RShift) (rI (fun _ j => 0 ≤ j) fun i j => .int (i / 2 ^ j.toNat)) := opI fun i j _ _ _ _ _ hc q =>
  rshift_int hc (by rw [Int.fdiv_eq_ediv_of_nonneg i (two_pow_nn _)]; exact q)
theorem op_and : OpR X (binaryOp .BitAnd) (rI0 fun i j => .int (Builtin.bitAnd i j)) := opI0 fun _ _ _ _ _ _ _ q => and_int q
theorem op_or : OpR X (binaryOp .BitOr) (rI0 fun i j => .int (Builtin.bitOr i j)) := opI0 fun _ _ _ _ _ _ _ q => or_int q
theorem op_xor : OpR X (binaryOp .BitXor) (rI0 fun i j => .int (Builtin.bitXor i j)) := opI0 fun _ _ _ _ _ _ _ q => xor_int q

theorem iop_add : OpR X (inplaceOp .Add) (rI0 fun i j => .int (i + j)) := opI0 fun _ _ _ _ _ _ _ q => iadd_int q
theorem iop_sub : OpR X (inplaceOp .Sub) (rI0 fun i j => .int (i - j)) := opI0 fun _ _ _ _ _ _ _ q => isub_int q
theorem iop_mul : OpR X (inplaceOp .Mult) (rI CMul fun i j => .int (i * j)) := opI fun _ _ _ _ _ _ _ hc q => imul_int q hc.ok
theorem iop_fdiv : OpR X (inplaceOp .FloorDiv) (rI CDiv fun i j => .int (i / j)) := opI fun i j _ _ _ _ _ hc q => by
  have h1 : (0 : Int) < j := hc.1
  have h2 : j < 1073741824 := hc.2
  exact ifloordiv_int (by omega) (by rw [Int.fdiv_eq_ediv_of_nonneg i (by omega)]; exact q) (.inl (PyProof.noPylong_small (by omega)))
theorem iop_mod : OpR X (inplaceOp .Mod) (rI (fun _ j => 0 < j) fun i j => .int (i % j)) := opI fun i j _ _ _ _ _ hc q => by
  have h1 : (0 : Int) < j := hc
  exact imod_int (by omega) (by rw [Int.fmod_eq_emod_of_nonneg i (by omega)]; exact q)
theorem iop_shl : OpR X (inplaceOp .LShift) (rI CPow fun i j => .int (i * 2 ^ j.toNat)) := opI fun _ _ _ _ _ _ _ hc q => ilshift_int_small hc.1 hc.2.1 hc.2.2 q
theorem iop_shr : OpR X (inplaceOp .RShift) (rI (fun _ j => 0 ≤ j) fun i j => .int (i / 2 ^ j.toNat)) := opI fun i j _ _ _ _ _ hc q =>
  irshift_int hc (by rw [Int.fdiv_eq_ediv_of_nonneg i (two_pow_nn _)]; exact q)
theorem iop_and : OpR X (inplaceOp .BitAnd) (rI0 fun i j => .int (Builtin.bitAnd i j)) := opI0 fun _ _ _ _ _ _ _ q => iand_int q
theorem iop_or : OpR X (inplaceOp .BitOr) (rI0 fun i j => .int (Builtin.bitOr i j)) := opI0 fun _ _ _ _ _ _ _ q => ior_int q
theorem iop_xor : OpR X (inplaceOp .BitXor) (rI0 fun i j => .int (Builtin.bitXor i j)) := opI0 fun _ _ _ _ _ _ _ q => ixor_int q

theorem unI {f : Value → Sem Value} {g : Int → Int}
    (rule : ∀ (i : Int) (t : Tok) (s : Shared) (Q : Value → Shared → Prop) (E : Value → Shared → Prop), Q (.int (g i) s.toks) { s with toks := s.toks + 1 } → wpAny (model X.prog X.w) X.A (f (.int i t)) Q E s) :
    UnR X f (rU fun i => .int (g i)) := by
  intro pins s σ H x v Q I rx h
  obtain ⟨i, rfl, q⟩ := h
  obtain ⟨t, rfl⟩ := rx
  exact rule i t s _ _ ⟨.int (g i), H, I.tok _, ⟨_, rfl⟩, q⟩
theorem un_neg : UnR X (unaryOp .USub) (rU fun i => .int (-i)) := unI fun _ _ _ _ _ q => neg_int q
theorem un_inv : UnR X (unaryOp .Invert) (rU fun i => .int (Builtin.bitNot i)) := unI fun _ _ _ _ _ q => invert_int q

/-! ### bools among ints: n += (a < b) -/
theorem op_add_ib : OpR X (binaryOp .Add) (fun x y H Q => ∃ i k, x = .int i ∧ y = .bl k ∧ Q (.int (i + b2i k)) H) := by
  intro pins s σ H x y v u Q I rx ry h
  obtain ⟨i, k, rfl, rfl, q⟩ := h
  obtain ⟨t, rfl⟩ := rx
  cases ry
  exact add_int_bool ⟨.int (i + b2i k), H, I.tok _, ⟨_, rfl⟩, q⟩
end

/-! ### comparisons -/
/-- the scalars that == tells apart as data does -/
def scal : V → V → Bool
  | .non, .non => true | .non, .int _ => true | .int _, .non => true | .non, .bl _ => true | .bl _, .non => true | .non, .str _ => true | .str _, .non => true
  | .int _, .int _ => true | .bl _, .bl _ => true | .str _, .str _ => true | .byt _, .byt _ => true
  | .int _, .str _ => true | .str _, .int _ => true | .bl _, .str _ => true | .str _, .bl _ => true
  | _, _ => false
def rEq : R2 := fun x y H Q => scal x y = true ∧ Q (.bl (decide (x = y))) H
def rNe : R2 := fun x y H Q => scal x y = true ∧ Q (.bl (!decide (x = y))) H

theorem dec_int {i j : Int} : decide (V.int i = V.int j) = (i == j) := by
  rw [Bool.eq_iff_iff]
  simp
theorem dec_bl {i j : Bool} : decide (V.bl i = V.bl j) = (i == j) := by
  rw [Bool.eq_iff_iff]
  simp
theorem dec_str {i j : Str} : decide (V.str i = V.str j) = (i == j) := by
  rw [Bool.eq_iff_iff]
  simp
theorem dec_byt {i j : Array UInt8} : decide (V.byt i = V.byt j) = (i.toList == j.toList) := by
  rw [Bool.eq_iff_iff]
  cases i
  cases j
  simp

section
variable {X : Cx} {a b c : Expr} {ta tb tc : TE} {pos : Pos}
theorem fin_bl {pins : List (Addr × Obj)} {σ : St} {H : Hp} {s : Shared} {Q : VK} {k k' : Bool} (I : Inv X pins σ H s) (q : Q (.bl k) H) (e : k = k') : EP X pins σ Q (.bool k') s := by
  subst e
  exact ⟨.bl k, H, I, rfl, q⟩
theorem op_eq : OpR X (compareOp .Eq) rEq := by
  intro pins s σ H x y v u Q I rx ry h
  obtain ⟨hs, q⟩ := h
  cases x with
  | non =>
    cases rx
    cases y with
    | non => cases ry; exact PySem.EqNone.eq_none_none (fin_bl I q (by simp))
    | bl j => cases ry; exact PySem.EqNone.eq_none_bool (fin_bl I q (by simp))
    | int j => obtain ⟨t', rfl⟩ := ry; exact PySem.EqNone.eq_none_int (fin_bl I q (by simp))
    | str j => obtain ⟨t', rfl⟩ := ry; exact PySem.EqNone.eq_none_str (fin_bl I q (by simp))
    | _ => exact absurd (show false = true from hs) Bool.false_ne_true
  | bl i =>
    cases rx
    cases y with
    | non => cases ry; exact PySem.EqNone.eq_bool_none (fin_bl I q (by simp))
    | bl j => cases ry; exact eq_bool (fin_bl I q dec_bl)
    | str j => obtain ⟨t', rfl⟩ := ry; exact PySem.EqMixed.eq_bool_str (fin_bl I q (by simp))
    | _ => exact absurd (show false = true from hs) Bool.false_ne_true
  | int i =>
    obtain ⟨t, rfl⟩ := rx
    cases y with
    | non => cases ry; exact PySem.EqNone.eq_int_none (fin_bl I q (by simp))
    | int j => obtain ⟨t', rfl⟩ := ry; exact eq_int (fin_bl I q dec_int)
    | str j => obtain ⟨t', rfl⟩ := ry; exact PySem.EqMixed.eq_int_str (fin_bl I q (by simp))
    | _ => exact absurd (show false = true from hs) Bool.false_ne_true
  | str i =>
    obtain ⟨t, rfl⟩ := rx
    cases y with
    | non => cases ry; exact PySem.EqNone.eq_str_none (fin_bl I q (by simp))
    | bl j => cases ry; exact PySem.EqMixed.eq_str_bool (fin_bl I q (by simp))
    | int j => obtain ⟨t', rfl⟩ := ry; exact PySem.EqMixed.eq_str_int (fin_bl I q (by simp))
    | str j => obtain ⟨t', rfl⟩ := ry; exact eq_str (fin_bl I q dec_str)
    | _ => exact absurd (show false = true from hs) Bool.false_ne_true
  | byt i =>
    obtain ⟨t, rfl⟩ := rx
    cases y with
    | byt j => obtain ⟨t', rfl⟩ := ry; exact PySem.W.eq_bytes (fin_bl I q dec_byt)
    | _ => exact absurd (show false = true from hs) Bool.false_ne_true
  | _ => cases y <;> exact absurd (show false = true from hs) Bool.false_ne_true
theorem op_ne : OpR X (compareOp .NotEq) rNe := by
  intro pins s σ H x y v u Q I rx ry h
  obtain ⟨hs, q⟩ := h
  cases x with
  | non =>
    cases rx
    cases y with
    | non => cases ry; exact PySem.EqNone.ne_none_none (fin_bl I q (by simp))
    | bl j => cases ry; exact PySem.EqNone.ne_none_bool (fin_bl I q (by simp))
    | int j => obtain ⟨t', rfl⟩ := ry; exact PySem.EqNone.ne_none_int (fin_bl I q (by simp))
    | str j => obtain ⟨t', rfl⟩ := ry; exact PySem.EqNone.ne_none_str (fin_bl I q (by simp))
    | _ => exact absurd (show false = true from hs) Bool.false_ne_true
  | bl i =>
    cases rx
    cases y with
    | non => cases ry; exact PySem.EqNone.ne_bool_none (fin_bl I q (by simp))
    | bl j => cases ry; exact ne_bool (fin_bl I q (congrArg not dec_bl))
    | str j => obtain ⟨t', rfl⟩ := ry; exact PySem.EqMixed.ne_bool_str (fin_bl I q (by simp))
    | _ => exact absurd (show false = true from hs) Bool.false_ne_true
  | int i =>
    obtain ⟨t, rfl⟩ := rx
    cases y with
    | non => cases ry; exact PySem.EqNone.ne_int_none (fin_bl I q (by simp))
    | int j => obtain ⟨t', rfl⟩ := ry; exact ne_int (fin_bl I q (congrArg not dec_int))
    | str j => obtain ⟨t', rfl⟩ := ry; exact PySem.EqMixed.ne_int_str (fin_bl I q (by simp))
    | _ => exact absurd (show false = true from hs) Bool.false_ne_true
  | str i =>
    obtain ⟨t, rfl⟩ := rx
    cases y with
    | non => cases ry; exact PySem.EqNone.ne_str_none (fin_bl I q (by simp))
    | bl j => cases ry; exact PySem.EqMixed.ne_str_bool (fin_bl I q (by simp))
    | int j => obtain ⟨t', rfl⟩ := ry; exact PySem.EqMixed.ne_str_int (fin_bl I q (by simp))
    | str j => obtain ⟨t', rfl⟩ := ry; exact ne_str (fin_bl I q (congrArg not dec_str))
    | _ => exact absurd (show false = true from hs) Bool.false_ne_true
  | byt i =>
    obtain ⟨t, rfl⟩ := rx
    cases y with
    | byt j => obtain ⟨t', rfl⟩ := ry; exact PySem.W.ne_bytes (fin_bl I q (congrArg not dec_byt))
    | _ => exact absurd (show false = true from hs) Bool.false_ne_true
  | _ => cases y <;> exact absurd (show false = true from hs) Bool.false_ne_true

theorem op_lt : OpR X (compareOp .Lt) (rI0 fun i j => .bl (decide (i < j))) := opB0 fun _ _ _ _ _ _ _ q => lt_int q
theorem op_le : OpR X (compareOp .LtE) (rI0 fun i j => .bl (decide (i ≤ j))) := opB0 fun _ _ _ _ _ _ _ q => le_int q
theorem op_gt : OpR X (compareOp .Gt) (rI0 fun i j => .bl (decide (j < i))) := opB0 fun _ _ _ _ _ _ _ q => gt_int q
theorem op_ge : OpR X (compareOp .GtE) (rI0 fun i j => .bl (decide (j ≤ i))) := opB0 fun _ _ _ _ _ _ _ q => ge_int q
theorem op_lt_str : OpR X (compareOp .Lt) (fun x y H Q => ∃ i j, x = .str i ∧ y = .str j ∧ Q (.bl (decide (i.cps.toList < j.cps.toList))) H) := by
  intro pins s σ H x y v u Q I rx ry h
  obtain ⟨i, j, rfl, rfl, q⟩ := h
  obtain ⟨t, rfl⟩ := rx
  obtain ⟨t', rfl⟩ := ry
  exact lt_str (fin_bl I q rfl)
/-- the one string within the other -/
theorem op_in_str : OpR X (compareOp .In) (fun x y H Q => ∃ i j, x = .str i ∧ y = .str j ∧ Q (.bl (!(Builtin.Str.occurrences j i 0 j.length 1).isEmpty)) H) := by
  intro pins s σ H x y v u Q I rx ry h
  obtain ⟨i, j, rfl, rfl, q⟩ := h
  obtain ⟨t, rfl⟩ := rx
  obtain ⟨t', rfl⟩ := ry
  exact in_str (fin_bl I q rfl)

/-- is None, is not None: the right side a value none -/
theorem op_isN : OpR X (compareOp .Is) (fun x y H Q => y = .non ∧ Q (.bl (decide (x = .non))) H) := by
  intro pins s σ H x y v u Q I rx ry h
  obtain ⟨rfl, q⟩ := h
  cases ry
  refine is_none_gen (fin_bl I q ?_)
  cases x <;> first
    | (cases rx; rfl)
    | (obtain ⟨t, rfl⟩ := rx; rfl)
theorem op_notN : OpR X (compareOp .IsNot) (fun x y H Q => y = .non ∧ Q (.bl (!decide (x = .non))) H) := by
  intro pins s σ H x y v u Q I rx ry h
  obtain ⟨rfl, q⟩ := h
  cases ry
  refine isnot_none_gen (fin_bl I q ?_)
  cases x <;> first
    | (cases rx; rfl)
    | (obtain ⟨t, rfl⟩ := rx; rfl)

theorem op_notin_str : OpR X (compareOp .NotIn) (fun x y H Q => ∃ i j, x = .str i ∧ y = .str j ∧ Q (.bl (!(!(Builtin.Str.occurrences j i 0 j.length 1).isEmpty))) H) := by
  intro pins s σ H x y v u Q I rx ry h
  obtain ⟨i, j, rfl, rfl, q⟩ := h
  obtain ⟨t, rfl⟩ := rx
  obtain ⟨t', rfl⟩ := ry
  exact notIn_str (fin_bl I q rfl)
/-- is, is not of two objects that are tracked lists or instances -/
def isObj : HO → Bool
  | .lst _ => true
  | .ins _ _ _ => true
  | _ => false
theorem obj_there {pins : List (Addr × Obj)} {s : Shared} {σ : St} {H : Hp} {a : Addr} {o : HO} (I : Inv X pins σ H s) (h : H a = some o) (p : isObj o = true) : ∃ ob, s.heap.get? a = some ob ∧ ob.cls ≠ .type "tuple" := by
  cases o with
  | lst xs =>
    obtain ⟨_, its, n, _, e⟩ : xs.length ≤ sizeLine ∧ ∃ (its : List Value) (n : Nat), Vals xs its ∧ s.heap.get? a = some { cls := .type "list", data := .seq its.toArray n } := I.hok a _ h
    exact ⟨_, e, (by show Value.type "list" ≠ .type "tuple"; decide +kernel)⟩
  | ins C dx fs =>
    have x := I.hok a _ h
    obtain ⟨_, _, _, e, _⟩ := x
    exact ⟨_, e, (by show Value.ref C ≠ .type "tuple"; exact fun z => by cases z)⟩
  | _ => exact absurd (show false = true from p) Bool.false_ne_true
theorem op_is_ref : OpR X (compareOp .Is) (fun x y H Q => ∃ a b oa ob, x = .ref a ∧ y = .ref b ∧ H a = some oa ∧ isObj oa = true ∧ H b = some ob ∧ isObj ob = true ∧ Q (.bl (decide (a = b))) H) := by
  intro pins s σ H x y v u Q I rx ry h
  obtain ⟨a, b, oa, ob, rfl, rfl, ha, pa, hb, pb, q⟩ := h
  cases rx
  cases ry
  obtain ⟨o1, e1, n1⟩ := obj_there I ha pa
  obtain ⟨o2, e2, _⟩ := obj_there I hb pb
  by_cases z : a = b
  · subst z
    exact wpAny_is_ref_self (fin_bl I q (by simp))
  · exact wpAny_is_ref_other z e1 e2 n1 (fin_bl I q (by simp [z]))
theorem op_isnot_ref : OpR X (compareOp .IsNot) (fun x y H Q => ∃ a b oa ob, x = .ref a ∧ y = .ref b ∧ H a = some oa ∧ isObj oa = true ∧ H b = some ob ∧ isObj ob = true ∧ Q (.bl (!decide (a = b))) H) := by
  intro pins s σ H x y v u Q I rx ry h
  obtain ⟨a, b, oa, ob, rfl, rfl, ha, pa, hb, pb, q⟩ := h
  cases rx
  cases ry
  obtain ⟨o1, e1, n1⟩ := obj_there I ha pa
  obtain ⟨o2, e2, _⟩ := obj_there I hb pb
  by_cases z : a = b
  · subst z
    exact wpAny_isNot_ref_self (fin_bl I q (by simp))
  · exact wpAny_isNot_ref_other z e1 e2 n1 (fin_bl I q (by simp [z]))

/-- two rules for one operation: by cases -/
theorem OpR.or {f : Value → Value → Sem Value} {r r' : R2} (h : OpR X f r) (h' : OpR X f r') : OpR X f (fun x y H Q => r x y H Q ∨ r' x y H Q) := by
  intro pins s σ H x y v u Q I rx ry q
  rcases q with q | q
  · exact h pins s σ H x y v u Q I rx ry q
  · exact h' pins s σ H x y v u Q I rx ry q

theorem nomark (b : Expr) {op : CmpOp} (h : op ≠ .In := by decide) (h2 : op ≠ .NotIn := by decide) : behindInMarks op b = false := by
  have e1 : (op == CmpOp.In) = false := by cases op <;> first | rfl | exact absurd rfl h
  have e2 : (op == CmpOp.NotIn) = false := by cases op <;> first | rfl | exact absurd rfl h2
  cases b <;> simp [behindInMarks, e1, e2]
/-- a comparison as a value; hm: nomark b, or (for in, not in) by with_unfolding_all rfl -/
theorem pe_cmpR {op : CmpOp} {r : R2} (ho : OpR X (compareOp op) r) (ha : PE X a ta) (hb : PE X b tb) (hm : behindInMarks op b = false) : PE X (.Compare a [op] [b] pos) (tOp r ta tb) := by
  intro pins s σ H Q I h
  exact wpAny_Compare1 (binT ha hb I h fun v u s2 x y H2 I2 rx ry q => ho pins s2 σ H2 x y v u Q I2 rx ry q) hm
/-- a reading of a value as a test -/
def tTest (t : TE) : TT := fun σ H Q => t σ H fun x H' => ∃ k, x = .bl k ∧ Q k H'
theorem pt_cmpR {op : CmpOp} {r : R2} (ho : OpR X (compareOp op) r) (ha : PE X a ta) (hb : PE X b tb) (hm : behindInMarks op b = false) : PT X (.Compare a [op] [b] pos) (tTest (tOp r ta tb)) := by
  intro pins s σ H Q I h
  refine wpAny_isTrue_Compare1 (thn (ha pins s σ H _ I h) fun v s1 ⟨x, H1, I1, r1, q1⟩ => thn (hb pins s1 σ H1 _ I1 q1) fun u s2 ⟨y, H2, I2, r2, q2⟩ =>
    thn (ho pins s2 σ H2 x y v u _ I2 r1 r2 q2) fun c s3 ⟨z, H3, I3, r3, k, e, q3⟩ => ?_) hm
  subst e
  cases r3
  exact wpAny_truthy_bool ⟨H3, I3, q3⟩
/-- a op1 b op2 c -/
def tChain (r r' : R2) (ta tb tc : TE) : TE := fun σ H Q => ta σ H fun x H1 => tb σ H1 fun y H2 => r x y H2 fun z H3 => ∃ k, z = .bl k ∧
  (if k = true then tc σ H3 fun w' H4 => r' y w' H4 Q else Q (.bl false) H3)
theorem pe_chain {op op' : CmpOp} {r r' : R2} (ho : OpR X (compareOp op) r) (ho' : OpR X (compareOp op') r') (ha : PE X a ta) (hb : PE X b tb) (hc : PE X c tc)
    (hm : lastMarks [op, op'] [b, c] = false := by with_unfolding_all rfl) : PE X (.Compare a [op, op'] [b, c] pos) (tChain r r' ta tb tc) := by
  intro pins s σ H Q I h
  refine Compare_chain (thn (ha pins s σ H _ I h) fun v s1 ⟨x, H1, I1, r1, q1⟩ => chain_link (thn (hb pins s1 σ H1 _ I1 q1) fun u s2 ⟨y, H2, I2, r2, q2⟩ =>
    thn (ho pins s2 σ H2 x y v u _ I2 r1 r2 q2) fun d s3 ⟨z, H3, I3, r3, k, e, q3⟩ => ?_)) hm
  subst e
  cases r3
  refine wpAny_truthy_bool ?_
  cases k with
  | false => exact ite_ff ⟨.bl false, H3, I3, rfl, q3⟩
  | true => exact ite_tt (chain_last (thn (hc pins s3 σ H3 _ I3 q3) fun w' s4 ⟨z', H4, I4, r4, q4⟩ => ho' pins s4 σ H4 y z' u w' Q I4 r2 r4 q4))
theorem pt_chain {op op' : CmpOp} {r r' : R2} (ho : OpR X (compareOp op) r) (ho' : OpR X (compareOp op') r') (ha : PE X a ta) (hb : PE X b tb) (hc : PE X c tc)
    (hm : lastMarks [op, op'] [b, c] = false := by with_unfolding_all rfl) : PT X (.Compare a [op, op'] [b, c] pos) (tTest (tChain r r' ta tb tc)) := by
  intro pins s σ H Q I h
  refine isTrue_chain (thn (ha pins s σ H _ I h) fun v s1 ⟨x, H1, I1, r1, q1⟩ => test_link (thn (hb pins s1 σ H1 _ I1 q1) fun u s2 ⟨y, H2, I2, r2, q2⟩ =>
    thn (ho pins s2 σ H2 x y v u _ I2 r1 r2 q2) fun d s3 ⟨z, H3, I3, r3, k, e, q3⟩ => ?_)) hm
  subst e
  cases r3
  refine wpAny_truthy_bool ?_
  cases k with
  | false =>
    obtain ⟨k', e', q'⟩ := q3
    cases e'
    exact ite_ff ⟨H3, I3, q'⟩
  | true =>
    refine ite_tt (test_last (thn (hc pins s3 σ H3 _ I3 q3) fun w' s4 ⟨z', H4, I4, r4, q4⟩ => thn (ho' pins s4 σ H4 y z' u w' _ I4 r2 r4 q4) fun d' s5 ⟨z2, H5, I5, r5, k2, e2, q5⟩ => ?_))
    subst e2
    cases r5
    exact wpAny_truthy_bool ⟨H5, I5, q5⟩

/-! ### truth -/
/-- a value's truth by the abstract heap -/
def TruV (K : PySem.W.Frag) (x : V) (H : Hp) (k : Bool) : Prop :=
  match x with
  | .non => k = false
  | .bl b => k = b
  | .int i => k = (i != 0)
  | .str y => y.length ≤ sizeLine ∧ k = ((y.length : Int) != 0)
  | .byt y => y.size ≤ sizeLine ∧ k = ((y.size : Int) != 0)
  | .ref p => (∃ xs, SqL K H p xs ∧ k = !xs.isEmpty) ∨ (∃ xs, SqT K H p xs ∧ k = !xs.isEmpty) ∨ ∃ kvs, H p = some (.dK kvs) ∧ k = !kvs.isEmpty
  | _ => False
theorem isEmpty_kv {κ : Type} {kvs : List (κ × V)} {vs : List (κ × Value)} (r : KV kvs vs) : (!vs.isEmpty) = !kvs.isEmpty := by
  cases r <;> rfl
theorem isEmpty_of {xs : List V} {its : List Value} (r : Vals xs its) : (!its.toArray.isEmpty) = !xs.isEmpty := by
  cases r <;> simp
theorem line63 : (sizeLine : Nat) < 2 ^ 63 := by rw [sizeLine_eq]; decide
theorem tru_ok : TruR X (fun x H Q => ∃ k, TruV X.K x H k ∧ Q k H) := by
  intro pins s σ H x v Q I rx h
  obtain ⟨k, e, q⟩ := h
  have hl := line63
  have hs : sizeLine = 16777216 := sizeLine_eq
  cases x with
  | non =>
    cases rx
    have e' : k = false := e
    subst e'
    exact truthy_none ⟨H, I, q⟩
  | bl b =>
    cases rx
    have e' : k = b := e
    subst e'
    exact wpAny_truthy_bool ⟨H, I, q⟩
  | int i =>
    obtain ⟨t, rfl⟩ := rx
    have e' : k = (i != 0) := e
    subst e'
    exact PySem.P.truthy_int ⟨H, I, q⟩
  | str y =>
    obtain ⟨t, rfl⟩ := rx
    obtain ⟨hy, e'⟩ : y.length ≤ sizeLine ∧ k = ((y.length : Int) != 0) := e
    subst e'
    exact PySem.P.truthy_str (by omega) ⟨H, I.tok _, q⟩
  | byt y =>
    obtain ⟨t, rfl⟩ := rx
    obtain ⟨hy, e'⟩ : y.size ≤ sizeLine ∧ k = ((y.size : Int) != 0) := e
    subst e'
    exact PySem.W.truthy_bytes (by omega) ⟨H, I.tok _, q⟩
  | ref p =>
    cases rx
    have e' : (∃ xs, SqL X.K H p xs ∧ k = !xs.isEmpty) ∨ (∃ xs, SqT X.K H p xs ∧ k = !xs.isEmpty) ∨ ∃ kvs, H p = some (.dK kvs) ∧ k = !kvs.isEmpty := e
    rcases e' with ⟨xs, hx, e'⟩ | ⟨xs, hx, e'⟩ | ⟨kvs, hx, e'⟩
    · subst e'
      obtain ⟨its, r, pl, hz⟩ := I.list hx
      have hlen := r.length
      exact wpAny_truthy_list pl.isList (by simp only [List.size_toArray]; omega) ⟨H, I.tok _, by rw [isEmpty_of r]; exact q⟩
    · subst e'
      obtain ⟨its, r, pl, hz⟩ := I.tuple hx
      have hlen := r.length
      exact truthy_tuple pl (by simp only [List.size_toArray]; omega) ⟨H, I.tok _, by rw [isEmpty_of r]; exact q⟩
    · subst e'
      obtain ⟨hz, hS, vs, r, m⟩ : kvs.length ≤ sizeLine ∧ (p == sysModules) = false ∧ ∃ vs, KV kvs vs ∧ s.heap.DictOf (mixKind X.prog X.w) p vs := I.hok p _ hx
      have hlen : kvs.length = vs.length := Paired.length r
      exact wpAny_truthy_dict hS m (by omega) ⟨H, I.tok _, by rw [isEmpty_kv r]; exact q⟩
  | _ => exact (show False from e).elim
/-- any expression whose test is its value's truth (a name, a call, a subscript, a field ..: he by fun _ => rfl) -/
theorem pt_truth (ha : PE X a ta) (he : ∀ whole, isTrue a X.env whole = (do let v ← whole; standAt a.pos; holding [v] (truthy v))) :
    PT X a (fun σ H Q => ta σ H fun x H' => ∃ k, TruV X.K x H' k ∧ Q k H') := by
  intro pins s σ H Q I h
  exact isTrue_plain (thn (ha pins s σ H _ I h) fun v s1 ⟨x, H1, I1, r1, q1⟩ => tru_ok pins s1 σ H1 x v Q I1 r1 q1) (he _)

/-! ### strs and bytes -/
theorem pe_byt {x : List UInt8} {k : Nat} : PE X (.Constant (.bytes x) k pos) (fun _ H Q => Q (.byt x.toArray) H) := fun _ _ _ H _ I h => PySem.W.Constant_bytes ⟨.byt x.toArray, H, I.tok _, ⟨_, rfl⟩, h⟩
theorem op_add_str : OpR X (binaryOp .Add) (fun x y H Q => ∃ i j, x = .str i ∧ y = .str j ∧ i.length + j.length ≤ sizeLine ∧ Q (.str (i ++ j)) H) := by
  intro pins s σ H x y v u Q I rx ry h
  obtain ⟨i, j, rfl, rfl, hz, q⟩ := h
  obtain ⟨t, rfl⟩ := rx
  obtain ⟨t', rfl⟩ := ry
  exact add_str (fun t' tk => ⟨.str (i ++ j), H, I.tok _, ⟨_, rfl⟩, q⟩) hz
theorem iop_add_str : OpR X (inplaceOp .Add) (fun x y H Q => ∃ i j, x = .str i ∧ y = .str j ∧ i.length + j.length ≤ sizeLine ∧ Q (.str (i ++ j)) H) := by
  intro pins s σ H x y v u Q I rx ry h
  obtain ⟨i, j, rfl, rfl, hz, q⟩ := h
  obtain ⟨t, rfl⟩ := rx
  obtain ⟨t', rfl⟩ := ry
  exact iadd_str (fun t' tk => ⟨.str (i ++ j), H, I.tok _, ⟨_, rfl⟩, q⟩) hz
theorem op_add_byt : OpR X (binaryOp .Add) (fun x y H Q => ∃ i j, x = .byt i ∧ y = .byt j ∧ i.size + j.size ≤ 16777216 ∧ Q (.byt (i ++ j)) H) := by
  intro pins s σ H x y v u Q I rx ry h
  obtain ⟨i, j, rfl, rfl, hz, q⟩ := h
  obtain ⟨t, rfl⟩ := rx
  obtain ⟨t', rfl⟩ := ry
  exact PySem.W.KBy.add_bytes hz (fun t' tk => ⟨.byt (i ++ j), H, I.tok _, ⟨_, rfl⟩, q⟩)

def PlainIxT (b : Expr) : Prop := ∀ o i, subscripted b false o i = operate [o, i] (getItem o i)
/-- s[i], 0 ≤ i < len -/
theorem pe_item_str (ha : PE X a ta) (hb : PE X b tb) (hs : PlainIxT b) :
    PE X (.Subscript a b pos) (tOp (fun x y H Q => ∃ z i c, x = .str z ∧ y = .int i ∧ 0 ≤ i ∧ i < 2 ^ 63 ∧ i < z.length ∧ z.cps[i.toNat]? = some c ∧ Q (.str ⟨#[c]⟩) H) ta tb) := by
  intro pins s σ H Q I h
  refine Subscript_ (binT ha hb I h fun v u s2 x y H2 I2 rx ry q => ?_)
  obtain ⟨z, i, c, rfl, rfl, h0, h63, h1, hc, q⟩ := q
  obtain ⟨t, rfl⟩ := rx
  obtain ⟨t', rfl⟩ := ry
  have e : seqIndex? i z.length = some i.toNat := PySem.StrLaws.seqIndex_nonneg h0 h1
  exact tail_any (typeIs_str s2 z t) slot_str_getitem.lookup (getItem_str (c := c) (by
    have e1 : decide (i < -(2 ^ 63 : Int)) = false := decide_eq_false (by omega)
    have e2 : decide (i ≥ 2 ^ 63) = false := decide_eq_false (by omega)
    rw [e1, e2] <;> rfl) (by rw [e]; exact hc) ⟨.str ⟨#[c]⟩, H2, I2.tok _, ⟨_, rfl⟩, q⟩) (hs _ _)
/-- b[i], 0 ≤ i < len -/
theorem pe_item_byt (ha : PE X a ta) (hb : PE X b tb) (hs : PlainIxT b) :
    PE X (.Subscript a b pos) (tOp (fun x y H Q => ∃ (z : List UInt8) (i : Int), x = .byt z.toArray ∧ y = .int i ∧ z.length ≤ sizeLine ∧ 0 ≤ i ∧ i < z.length ∧ Q (.int ((z.getD i.toNat 0).toNat : Nat)) H) ta tb) := by
  intro pins s σ H Q I h
  refine Subscript_ (binT ha hb I h fun v u s2 x y H2 I2 rx ry q => ?_)
  obtain ⟨z, i, rfl, rfl, hz, h0, h1, q⟩ := q
  obtain ⟨t, rfl⟩ := rx
  obtain ⟨t', rfl⟩ := ry
  have hl : sizeLine = 16777216 := sizeLine_eq
  exact tail_any (PySem.W.typeIs_bytes s2 z.toArray t) PySem.W.FB.slot_bytes_getitem.lookup (PySem.W.getItem_bytes (by omega) h0 h1 ⟨.int ((z.getD i.toNat 0).toNat : Nat), H2, I2.tok _, ⟨_, rfl⟩, q⟩) (hs _ _)

/-! ### scalar builtins, by CallR -/
theorem vals1 {x : V} {us : List Value} (r : Vals [x] us) : ∃ u, us = [u] ∧ RelV x u := by
  cases r with
  | cons r1 r2 => cases r2; exact ⟨_, rfl, r1⟩
theorem vals2 {x y : V} {us : List Value} (r : Vals [x, y] us) : ∃ u w', us = [u, w'] ∧ RelV x u ∧ RelV y w' := by
  cases r with
  | cons r1 r2 =>
    cases r2 with
    | cons r3 r4 => cases r4; exact ⟨_, _, rfl, r1, r3⟩
theorem call_abs : CallR X (.builtin "abs") (fun xs H Q => ∃ i, xs = [.int i] ∧ Q (.int (if i < 0 then -i else i)) H) := by
  intro pins s σ H xs us Q I r h
  obtain ⟨i, rfl, q⟩ := h
  obtain ⟨u, rfl, t, rfl⟩ := vals1 r
  exact call_abs_int fun u tk => ⟨.int (if i < 0 then -i else i), H, I.tok _, ⟨_, rfl⟩, q⟩
theorem call_max2 (hc : X.calm = true) : CallR X (.builtin "max") (fun xs H Q => ∃ i j, xs = [.int i, .int j] ∧ Q (.int (if j > i then j else i)) H) := by
  intro pins s σ H xs us Q I r h
  obtain ⟨i, j, rfl, q⟩ := h
  obtain ⟨u, w', rfl, ⟨t, rfl⟩, ⟨t', rfl⟩⟩ := vals2 r
  refine max_two_ints (I.ok.hd hc) fun h' tk k => ⟨_, H, I.kept k, ?_, q⟩
  by_cases hj : j > i
  · rw [if_pos hj, if_pos hj]; exact ⟨_, rfl⟩
  · rw [if_neg hj, if_neg hj]; exact ⟨_, rfl⟩
theorem call_min2 (hc : X.calm = true) : CallR X (.builtin "min") (fun xs H Q => ∃ i j, xs = [.int i, .int j] ∧ Q (.int (if j < i then j else i)) H) := by
  intro pins s σ H xs us Q I r h
  obtain ⟨i, j, rfl, q⟩ := h
  obtain ⟨u, w', rfl, ⟨t, rfl⟩, ⟨t', rfl⟩⟩ := vals2 r
  refine min_two_ints (I.ok.hd hc) fun h' tk k => ⟨_, H, I.kept k, ?_, q⟩
  by_cases hj : j < i
  · rw [if_pos hj, if_pos hj]; exact ⟨_, rfl⟩
  · rw [if_neg hj, if_neg hj]; exact ⟨_, rfl⟩
theorem call_int1 : CallR X (.type "int") (fun xs H Q => (∃ i, xs = [.int i] ∧ Q (.int i) H) ∨ ∃ k, xs = [.bl k] ∧ Q (.int (if k then 1 else 0)) H) := by
  intro pins s σ H xs us Q I r h
  rcases h with ⟨i, rfl, q⟩ | ⟨k, rfl, q⟩
  · obtain ⟨u, rfl, t, rfl⟩ := vals1 r
    exact call_int_int ⟨.int i, H, I, ⟨_, rfl⟩, q⟩
  · obtain ⟨u, rfl, r1⟩ := vals1 r
    cases r1
    exact call_int_bool ⟨.int (if k then 1 else 0), H, I.tok _, ⟨_, rfl⟩, q⟩
theorem call_bool1 : CallR X (.type "bool") (fun xs H Q => (∃ i, xs = [.int i] ∧ Q (.bl (i != 0)) H) ∨ ∃ k, xs = [.bl k] ∧ Q (.bl k) H) := by
  intro pins s σ H xs us Q I r h
  rcases h with ⟨i, rfl, q⟩ | ⟨k, rfl, q⟩
  · obtain ⟨u, rfl, t, rfl⟩ := vals1 r
    exact call_bool_int ⟨.bl (i != 0), H, I, rfl, q⟩
  · obtain ⟨u, rfl, r1⟩ := vals1 r
    cases r1
    exact call_bool_bool ⟨.bl k, H, I, rfl, q⟩
theorem call_str_int : CallR X (.type "str") (fun xs H Q => ∃ i, xs = [.int i] ∧ i.natAbs.log2 < 1920 ∧ Q (.str (toString i)) H) := by
  intro pins s σ H xs us Q I r h
  obtain ⟨i, rfl, hz, q⟩ := h
  obtain ⟨u, rfl, t, rfl⟩ := vals1 r
  exact PySem.P.str_of_int hz ⟨.str _, H, I.tok _, ⟨_, rfl⟩, q⟩
theorem call_ord : CallR X (.builtin "ord") (fun xs H Q => ∃ x, xs = [.str x] ∧ x.length = 1 ∧ Q (.int (x.cps.getD 0 0 : Nat)) H) := by
  intro pins s σ H xs us Q I r h
  obtain ⟨x, rfl, hz, q⟩ := h
  obtain ⟨u, rfl, t, rfl⟩ := vals1 r
  exact ord_of_one hz ⟨.int _, H, I.tok _, ⟨_, rfl⟩, q⟩
theorem call_chr : CallR X (.builtin "chr") (fun xs H Q => ∃ i, xs = [.int i] ∧ 0 ≤ i ∧ i ≤ 1114111 ∧ Q (.str ⟨#[i.toNat]⟩) H) := by
  intro pins s σ H xs us Q I r h
  obtain ⟨i, rfl, h0, h1, q⟩ := h
  obtain ⟨u, rfl, t, rfl⟩ := vals1 r
  exact chr_of_range h0 h1 ⟨.str _, H, I.tok _, ⟨_, rfl⟩, q⟩
/-- len of a str, a bytes, a list, a tuple -/
def LenV (K : PySem.W.Frag) (x : V) (H : Hp) (n : Nat) : Prop :=
  match x with
  | .str y => y.length ≤ sizeLine ∧ n = y.length
  | .byt y => y.size ≤ sizeLine ∧ n = y.size
  | .ref p => (∃ xs, SqL K H p xs ∧ n = xs.length) ∨ ∃ xs, SqT K H p xs ∧ n = xs.length
  | _ => False
theorem call_len : CallR X (.builtin "len") (fun xs H Q => ∃ x n, xs = [x] ∧ LenV X.K x H n ∧ Q (.int n) H) := by
  intro pins s σ H xs us Q I r h
  obtain ⟨x, n, rfl, e, q⟩ := h
  obtain ⟨u, rfl, rx⟩ := vals1 r
  have hl := line63
  have hs : sizeLine = 16777216 := sizeLine_eq
  cases x with
  | str y =>
    obtain ⟨t, rfl⟩ := rx
    obtain ⟨hy, e'⟩ : y.length ≤ sizeLine ∧ n = y.length := e
    subst e'
    exact len_str (by omega) ⟨.int _, H, I.tok _, ⟨_, rfl⟩, q⟩
  | byt y =>
    obtain ⟨t, rfl⟩ := rx
    obtain ⟨hy, e'⟩ : y.size ≤ sizeLine ∧ n = y.size := e
    subst e'
    exact PySem.W.len_bytes (by omega) ⟨.int _, H, I.tok _, ⟨_, rfl⟩, q⟩
  | ref p =>
    cases rx
    have e' : (∃ xs, SqL X.K H p xs ∧ n = xs.length) ∨ ∃ xs, SqT X.K H p xs ∧ n = xs.length := e
    rcases e' with ⟨xs, hx, e'⟩ | ⟨xs, hx, e'⟩
    · subst e'
      obtain ⟨its, r', pl, hz⟩ := I.list hx
      have hlen := r'.length
      exact Calls.call_len_list pl.isList (by simp only [List.size_toArray]; omega) ⟨.int xs.length, H, I.tok _, ⟨_, by simp only [List.size_toArray]; rw [hlen]⟩, q⟩
    · subst e'
      obtain ⟨its, r', pl, hz⟩ := I.tuple hx
      have hlen := r'.length
      exact len_tuple pl (by simp only [List.size_toArray]; omega) ⟨.int xs.length, H, I.tok _, ⟨_, by simp only [List.size_toArray]; rw [hlen]⟩, q⟩
  | _ => exact (show False from e).elim
/-- divmod: a new tuple -/
theorem call_divmod : CallR X (.builtin "divmod") (fun xs H Q => ∃ i j, xs = [.int i, .int j] ∧ CDiv i j ∧ ∀ p, H p = none → Q (.ref p) (upd H p (.tup [.int (i / j), .int (i % j)]))) := by
  intro pins s σ H xs us Q I r h
  obtain ⟨i, j, rfl, ⟨h1, h2⟩, q⟩ := h
  obtain ⟨u, w', rfl, ⟨t, rfl⟩, ⟨t', rfl⟩⟩ := vals2 r
  refine divmod_int (by omega) ?_ (.inl (PyProof.noPylong_small (by omega)))
  rw [Int.fdiv_eq_ediv_of_nonneg i (by omega), Int.fmod_eq_emod_of_nonneg i (by omega)]
  have hn : H s.heap.objs.size = none := I.hok.fresh (Nat.le_refl _)
  refine ⟨.ref s.heap.objs.size, _, ?_, rfl, q _ hn⟩
  refine I.laid (fun b o e => Heap.get?_push_of_some _ e) (Nat.le_refl _) ⟨by simp only [List.length_cons, List.length_nil]; rw [sizeLine_eq]; decide, [.int (i / j) s.toks, .int (i % j) (s.toks + 1)], .cons ⟨_, rfl⟩ (.cons ⟨_, rfl⟩ .nil), ?_⟩
  exact ⟨_, Heap.get?_push_size s.heap rfl, rfl, 0, rfl⟩
end
end L2

namespace L2
open PySem PySem.Spec PyProof.Rows

/-! ### an instance, its attributes a map -/
structure ObjM (h : Heap) (x dx C : Addr) (mA : Str → Option Value) : Prop where
  obj : h.get? x = some (PySem.W.instObj C dx)
  ns : h.Ns1 dx mA
  ne : dx ≠ x

theorem lookIn_ns {h : Heap} {dx : Addr} {mA : Str → Option Value} (n : h.Ns1 dx mA) : ∃ od, h.get? dx = some od ∧ ∀ name, PySem.W.lookIn name od = some (mA name) := by
  obtain ⟨o, es, ep, ho, hd, hk, _, hm⟩ := n
  refine ⟨o, ho, fun name => ?_⟩
  have e := hm name
  unfold nsFind findBy at e
  rw [← Array.find?_toList] at e
  unfold PySem.W.lookIn
  rw [hd]
  dsimp only
  split
  · rename_i y q
    rw [q] at e
    exact congrArg some e
  · rename_i q
    rw [q] at e
    have a : es.toList.any (·.refKey) = false := by
      rw [List.any_eq_false]
      intro y hy
      obtain ⟨z, t, hkey⟩ := hk y (Array.mem_toList_iff.mp hy)
      simp [DictEntry.refKey, hkey]
    have a' : ¬ es.toList.any (·.refKey) = true := by rw [a]; exact Bool.false_ne_true
    rw [if_neg a']
    exact congrArg some e

theorem ObjM.look {h : Heap} {x dx C : Addr} {mA : Str → Option Value} (I : ObjM h x dx C mA) : ∃ od, PySem.W.InstAt h x (PySem.W.instObj C dx) C (some od) ∧ ∀ name, PySem.W.lookIn name od = some (mA name) :=
  let ⟨od, ho, hl⟩ := lookIn_ns I.ns
  ⟨od, ⟨I.obj, rfl, rfl, ho⟩, hl⟩

section
variable {prog : Program} {w : World} {A : Around} {E : Value → Shared → Prop} {s : Shared} {K : PySem.W.Frag} {x dx C f : Addr} {mA : Str → Option Value} {name : Str} {v : Value}

theorem get_map {expr : Bool} {Q : Value → Shared → Prop} (X : K.In s.heap) (I : ObjM s.heap x dx C mA) (hg : PySem.W.plainGet K C name = true) (hh : PySem.W.hasDictIn K C = true)
    (ha : PySem.W.findIn K (.ref C) name = some none) (hv : mA name = some v) (hv' : PySem.W.handedIn v = true) (h : Q v { s with toks := s.toks + 1 }) :
    wpAny (model prog w) A (getAttr (.ref x) name expr) Q E s := by
  obtain ⟨od, J, hl⟩ := I.look
  exact PySem.W.get_value X J (PySem.W.plainGet_of hg).1 (PySem.W.findObj_own hh ha rfl (by rw [hl, hv])) hv' h

theorem get_const {expr : Bool} {a : Value} {Q : Value → Shared → Prop} (X : K.In s.heap) (I : ObjM s.heap x dx C mA) (hg : PySem.W.plainGet K C name = true) (hh : PySem.W.hasDictIn K C = true)
    (ha : PySem.W.findIn K (.ref C) name = some (some a)) (hn : PySem.W.specialIn K a "__get__" = some none) (hc : PySem.W.copiedNames.contains name = false) (hv : mA name = none) (hv' : PySem.W.handedIn a = true)
    (h : Q a { s with toks := s.toks + 1 }) : wpAny (model prog w) A (getAttr (.ref x) name expr) Q E s := by
  obtain ⟨od, J, hl⟩ := I.look
  exact PySem.W.get_value X J (PySem.W.plainGet_of hg).1 (PySem.W.findObj_cls hh ha hn hv' hc (by rw [hl, hv])) hv' h

theorem get_meth {pl : Sem Bool} {Q : Value × List Value → Shared → Prop} (X : K.In s.heap) (I : ObjM s.heap x dx C mA) (hg : PySem.W.plainGet K C name = true)
    (hf : PySem.W.findIn K (.ref C) name = some (some (.ref f))) (ht : PySem.W.isFn K (.ref f) = true) (hv : mA name = none) (h : Q (.ref f, [.ref x]) s) :
    wpAny (model prog w) A (getMethod (.ref x) name pl) Q E s := by
  obtain ⟨od, J, hl⟩ := I.look
  exact PySem.W.method_fn X J (PySem.W.plainGet_of hg).1 (PySem.W.plainGet_of hg).2 hf (beq_iff_eq.mp ht) (by show (PySem.W.lookIn name od).map (·.isSome) = some false; rw [hl, hv]; rfl) h

theorem set_map {ns : List Str} {Q : Unit → Shared → Prop} (X : K.In s.heap) (I : ObjM s.heap x dx C mA)
    (hs : PySem.W.findIn K (.ref C) "__setattr__" = some (some (.builtin "object.__setattr__"))) (hp : PySem.W.plainOver K C = true) (ht : PySem.W.takerIn K C name = some none) (hh : PySem.W.hasDictIn K C = true)
    (hw : PySem.Within mA ns) (hsz : ns.length ≤ sizeLine)
    (h : ∀ h', ObjM h' x dx C (fun y => if y = name then some v else mA y) → Heap.SameBut dx s.heap h' → Q () { s with heap := h', toks := s.toks + 2 }) :
    wpAny (model prog w) A (setAttr (.ref x) name v) Q E s := by
  obtain ⟨od, J, hl⟩ := I.look
  refine PySem.W.set_plain X J hs (PySem.W.osa_open (s := { s with toks := s.toks + 1 }) (r := none) X J hp ht fun b => ?_)
  obtain ⟨cd, hc, hd'⟩ := PySem.W.any_some hh
  have hx : s.heap.get? x = some ⟨.ref C, some dx, .plain, #[]⟩ := I.obj
  refine wpAny_bind (wpAny_pure (wpAny_bind (wpAny_bind (wpAny_loadPart hx (wpAny_bind (PySem.W.Looks.here (s := { s with toks := s.toks + 1 }) (PySem.W.looks_clsIn X hc) ?_))))))
  rw [hd']
  refine wpAny_pure (a := some dx) (wpAny_bind (wpAny_pure (wpAny_bind ?_)))
  refine wpAny_nsSet1 (s := { s with toks := s.toks + 1 }) I.ns fun h' hn2 hs2 => ?_
  obtain ⟨oD, esD, epD, hoD, hdD, hcD⟩ := hn2.count (PySem.Within.cons name v hw)
  refine wpAny_bind (wpAny_lookBehind hoD (by rw [hdD]; exact pastItsLine_dict (Nat.le_trans hcD (by rw [List.length_cons]; omega))) ?_)
  exact wpAny_pure (h _ ⟨(hs2.2 _ (Ne.symm I.ne)).trans I.obj, hn2, I.ne⟩ hs2)

/-- C(..): the dict at the heap's end, the instance behind it; then its __init__ -/
theorem make_map {R : Result → Shared → Prop} {vs : List Value} {kw : List (Str × Value)} (X : K.In s.heap) (hm : PySem.W.makesIn K C = true)
    (hi : PySem.W.findIn K (.ref C) "__init__" = some (some (.ref f))) (hf : PySem.W.typeIn K (.ref f) = some (.type "function"))
    (h : codeAny (model prog w) (A.under (.builtin "type.__call__" ⟨.ref C :: vs, kw⟩)) (.call (.ref f) ⟨.ref (s.heap.objs.size + 1) :: vs, kw⟩) (PySem.W.InitBack (s.heap.objs.size + 1) R)
      { s with heap := (s.heap.push PySem.W.emptyDict).push (PySem.W.instObj C s.heap.objs.size) }) :
    codeAny (model prog w) A (.call (.ref C) ⟨vs, kw⟩) R s := by
  obtain ⟨hh, g, d, t, os⟩ := s
  exact PySem.W.make_core (PySem.W.makes_of X hm) (PySem.W.looks_findIn X hi) (fun self => PySem.W.bind_fn X self hf) (.inl rfl) h
/-- C() where there is no __init__ but object's -/
theorem make_map0 {R : Result → Shared → Prop} (X : K.In s.heap) (hm : PySem.W.makesIn K C = true)
    (hi : PySem.W.findIn K (.ref C) "__init__" = some (some (.builtin "object.__init__")))
    (hb : ∀ self, PySem.W.Looks (model prog w) s.heap (bindSpecial (.builtin "object.__init__") self) (.builtin "object.__init__", [self]))
    (h : codeAny (model prog w) (A.under (.builtin "type.__call__" ⟨[.ref C], []⟩)) (.call (.builtin "object.__init__") ⟨[.ref (s.heap.objs.size + 1)], []⟩) (PySem.W.InitBack (s.heap.objs.size + 1) R)
      { s with heap := (s.heap.push PySem.W.emptyDict).push (PySem.W.instObj C s.heap.objs.size) }) :
    codeAny (model prog w) A (.call (.ref C) ⟨[], []⟩) R s := by
  obtain ⟨hh, g, d, t, os⟩ := s
  exact PySem.W.make_core (PySem.W.makes_of X hm) (PySem.W.looks_findIn X hi) hb (.inr ⟨rfl, rfl⟩) h
end

/-! ### the attributes as a list of pairs -/
def putF (f : Str) (v : V) : List (Str × V) → List (Str × V)
  | [] => [(f, v)]
  | (g, x) :: r => if g = f then (g, v) :: r else (g, x) :: putF f v r
theorem lookup_putF (f g : Str) (v : V) : ∀ fs : List (Str × V), (putF f v fs).lookup g = if g = f then some v else fs.lookup g
  | [] => by
    show List.lookup g [(f, v)] = _
    by_cases h : g = f
    · have hb : (g == f) = true := beq_iff_eq.mpr h
      simp only [List.lookup, hb, if_pos h]
    · have hb : (g == f) = false := beq_eq_false_iff_ne.mpr h
      simp only [List.lookup, hb, if_neg h]
  | (k, x) :: r => by
    have ih := lookup_putF f g v r
    rw [show putF f v ((k, x) :: r) = (if k = f then (k, v) :: r else (k, x) :: putF f v r) from rfl]
    by_cases hk : k = f
    · rw [if_pos hk]
      by_cases h : g = k
      · have hb : (g == k) = true := beq_iff_eq.mpr h
        simp only [List.lookup, hb, if_pos (h.trans hk)]
      · have hb : (g == k) = false := beq_eq_false_iff_ne.mpr h
        simp only [List.lookup, hb, if_neg (fun e : g = f => h (e.trans hk.symm))]
    · rw [if_neg hk]
      by_cases h : g = k
      · have hb : (g == k) = true := beq_iff_eq.mpr h
        simp only [List.lookup, hb, if_neg (fun e : g = f => hk (h.symm.trans e))]
      · have hb : (g == k) = false := beq_eq_false_iff_ne.mpr h
        simp only [List.lookup, hb]
        exact ih
theorem keys_putF (f : Str) (v : V) : ∀ fs : List (Str × V), f ∈ (putF f v fs).map (·.1) ∧ ∀ g, g ∈ fs.map (·.1) → g ∈ (putF f v fs).map (·.1)
  | [] => ⟨by simp [putF], fun g h => by simp at h⟩
  | (k, x) :: r => by
    obtain ⟨i1, i2⟩ := keys_putF f v r
    rw [show putF f v ((k, x) :: r) = (if k = f then (k, v) :: r else (k, x) :: putF f v r) from rfl]
    by_cases hk : k = f
    · rw [if_pos hk]
      subst hk
      exact ⟨by simp, fun g h => by simpa using h⟩
    · rw [if_neg hk]
      refine ⟨?_, fun g h => ?_⟩
      · rw [List.map_cons]
        exact List.mem_cons_of_mem _ i1
      · rw [List.map_cons] at h ⊢
        rcases List.mem_cons.mp h with e | e
        · exact List.mem_cons.mpr (.inl e)
        · exact List.mem_cons_of_mem _ (i2 g e)
theorem length_putF (f : Str) (v : V) : ∀ fs : List (Str × V), (putF f v fs).length ≤ fs.length + 1
  | [] => by simp [putF]
  | (k, x) :: r => by
    have ih := length_putF f v r
    rw [show putF f v ((k, x) :: r) = (if k = f then (k, v) :: r else (k, x) :: putF f v r) from rfl]
    by_cases hk : k = f
    · rw [if_pos hk, List.length_cons, List.length_cons]; omega
    · rw [if_neg hk, List.length_cons, List.length_cons]; omega

theorem RelO.some_of {v : V} {o : Option Value} (r : RelO (some v) o) : ∃ u, o = some u ∧ RelV v u := by
  cases o with
  | none => exact (show False from r).elim
  | some u => exact ⟨u, rfl, r⟩
theorem RelO.none_of {o : Option Value} (r : RelO none o) : o = none := by
  cases o with
  | none => rfl
  | some u => exact (show False from r).elim
theorem handed_of {v : V} {u : Value} (r : RelV v u) : PySem.W.handedIn u = true := by
  cases v with
  | non => cases (show u = Value.none from r); rfl
  | bl b => cases (show u = Value.bool b from r); rfl
  | int i => obtain ⟨t, e⟩ := (show ∃ t, u = Value.int i t from r); cases e; rfl
  | str x => obtain ⟨t, e⟩ := (show ∃ t, u = Value.str x t from r); cases e; rfl
  | byt b => obtain ⟨t, e⟩ := (show ∃ t, u = Value.bytes b t from r); cases e; rfl
  | flt b => obtain ⟨t, e⟩ := (show ∃ t, u = Value.float b t from r); cases e; rfl
  | ref a => cases (show u = Value.ref a from r); rfl
  | ty n => cases (show u = Value.type n from r); rfl

section
variable {P : Program} {w : World} {H H' : Hp} {h h' : Heap} {a C dx : Addr} {fs fs' : List (Str × V)}
theorem ins_get (hok : HOk P w H h) (e : H a = some (.ins C dx fs)) : ∃ mA, ObjM h a dx C mA ∧ (∀ f, RelO (fs.lookup f) (mA f)) ∧ PySem.Within mA (fs.map (·.1)) ∧ fs.length ≤ 1000 ∧ H dx = some (.own a) := by
  obtain ⟨d, z, ne, ob, mA, n, r, q⟩ := (show ObjOk P w H h a (.ins C dx fs) from hok a _ e)
  exact ⟨mA, ⟨ob, n, ne⟩, r, q, z, d⟩
end

/-! ### what of the text a class must have -/
structure Cls (K : PySem.W.Frag) (C : Addr) : Prop where
  pg : PySem.W.plainGet K C Str.empty = true
  hd : PySem.W.hasDictIn K C = true
  po : PySem.W.plainOver K C = true
  sa : PySem.W.findIn K (.ref C) "__setattr__" = some (some (.builtin "object.__setattr__"))
theorem Cls.get {K : PySem.W.Frag} {C : Addr} (c : Cls K C) (f : Str) : PySem.W.plainGet K C f = true := c.pg
/-- no class of it has the name -/
def NoAttr (K : PySem.W.Frag) (C : Addr) (f : Str) : Prop := PySem.W.findIn K (.ref C) f = some none
theorem NoAttr.taker {K : PySem.W.Frag} {C : Addr} {f : Str} (n : NoAttr K C f) : PySem.W.takerIn K C f = some none := by
  unfold PySem.W.takerIn
  rw [show PySem.W.findIn K (.ref C) f = some none from n]
  rfl
/-- a constant of the class -/
structure Con (K : PySem.W.Frag) (C : Addr) (f : Str) (v : V) (u : Value) : Prop where
  at_ : PySem.W.findIn K (.ref C) f = some (some u)
  rel : RelV v u
  get : PySem.W.specialIn K u "__get__" = some none
  cp : PySem.W.copiedNames.contains f = false
/-- a method: a plain def of the class or of one above it -/
structure Meth (K : PySem.W.Frag) (C : Addr) (m : Str) (f : Addr) : Prop where
  at_ : PySem.W.findIn K (.ref C) m = some (some (.ref f))
  fn : PySem.W.isFn K (.ref f) = true
  kp : PySem.W.keepIn K (.ref f) = true

section
variable {X : Cx} {pins : List (Addr × Obj)} {σ : St} {H : Hp} {s : Shared} {a C dx : Addr} {fs : List (Str × V)} {f : Str} {v : V} {A : Around} {E : Value → Shared → Prop}

theorem getattr_ok {b : Bool} {Q : Value → Shared → Prop} (I : Inv X pins σ H s) (e : H a = some (.ins C dx fs)) (c : Cls X.K C) (n : NoAttr X.K C f) (l : fs.lookup f = some v)
    (h : ∀ u s', Inv X pins σ H s' → RelV v u → Q u s') : wpAny (model X.prog X.w) A (getAttr (.ref a) f b) Q E s := by
  obtain ⟨mA, O, r, _, _, _⟩ := ins_get I.hok e
  obtain ⟨u, hu, ru⟩ := RelO.some_of (v := v) (o := mA f) (by rw [← l]; exact r f)
  exact get_map I.kIn O (c.get f) c.hd n hu (handed_of ru) (h u _ (I.tok _) ru)

theorem getcon_ok {b : Bool} {u : Value} {Q : Value → Shared → Prop} (I : Inv X pins σ H s) (e : H a = some (.ins C dx fs)) (c : Cls X.K C) (k : Con X.K C f v u) (l : fs.lookup f = none)
    (h : ∀ s', Inv X pins σ H s' → Q u s') : wpAny (model X.prog X.w) A (getAttr (.ref a) f b) Q E s := by
  obtain ⟨mA, O, r, _, _, _⟩ := ins_get I.hok e
  have hn : mA f = none := RelO.none_of (by rw [← l]; exact r f)
  exact get_const I.kIn O (c.get f) c.hd k.at_ k.get k.cp hn (handed_of k.rel) (h _ (I.tok _))

theorem getmeth_ok {m : Str} {g : Addr} {pl : Sem Bool} {Q : Value × List Value → Shared → Prop} (I : Inv X pins σ H s) (e : H a = some (.ins C dx fs)) (c : Cls X.K C) (k : Meth X.K C m g) (l : fs.lookup m = none)
    (h : Q (.ref g, [.ref a]) s) : wpAny (model X.prog X.w) A (getMethod (.ref a) m pl) Q E s := by
  obtain ⟨mA, O, r, _, _, _⟩ := ins_get I.hok e
  have hn : mA m = none := RelO.none_of (by rw [← l]; exact r m)
  exact get_meth I.kIn O (c.get m) k.at_ k.fn hn h

theorem setattr_ok {y : V} {u : Value} {Q : Unit → Shared → Prop} (I : Inv X pins σ H s) (e : H a = some (.ins C dx fs)) (c : Cls X.K C) (n : NoAttr X.K C f) (hl : fs.length < 1000) (ry : RelV y u)
    (h : ∀ s', Inv X pins σ (upd H a (.ins C dx (putF f y fs))) s' → Q () s') : wpAny (model X.prog X.w) A (setAttr (.ref a) f u) Q E s := by
  obtain ⟨mA, O, r, wi, _, ho⟩ := ins_get I.hok e
  have hz : (fs.map (·.1)).length ≤ sizeLine := by rw [List.length_map, sizeLine_eq]; omega
  refine set_map I.kIn O c.sa c.po n.taker c.hd wi hz fun h' O' sb => h _ ?_
  have hd : ∃ o, h'.get? dx = some o := let ⟨o, _, _, e', _⟩ := O'.ns; ⟨o, e'⟩
  refine I.write (x := a) (e := dx) (by rw [e]; exact True.intro) (.inr ho) (fun b q hb z => (sb.2 b hb).trans z) hd ?_
  refine ⟨by rw [upd_ne O.ne]; exact ho, ?_, O.ne, O'.obj, _, O'.ns, fun g => ?_, fun g hg => ?_⟩
  · have := length_putF f y fs; omega
  · show RelO ((putF f y fs).lookup g) (if g = f then some u else mA g)
    rw [lookup_putF]
    by_cases q : g = f
    · rw [if_pos q, if_pos q]; exact ry
    · rw [if_neg q, if_neg q]; exact r g
  · by_cases q : g = f
    · rw [q]; exact (keys_putF f y fs).1
    · refine (keys_putF f y fs).2 g (wi g fun z => hg ?_)
      show (if g = f then some u else mA g) = none
      rw [if_neg q]; exact z

/-- a new instance, tracked, without attributes -/
theorem Inv.made (I : Inv X pins σ H s) : Inv X pins σ (upd (upd H s.heap.objs.size (.own (s.heap.objs.size + 1))) (s.heap.objs.size + 1) (.ins C s.heap.objs.size []))
    { s with heap := (s.heap.push PySem.W.emptyDict).push (PySem.W.instObj C s.heap.objs.size) } := by
  have e1 : (s.heap.push PySem.W.emptyDict).get? s.heap.objs.size = some PySem.W.emptyDict := Heap.get?_push_size s.heap rfl
  have e2 : ((s.heap.push PySem.W.emptyDict).push (PySem.W.instObj C s.heap.objs.size)).get? (s.heap.objs.size + 1) = some (PySem.W.instObj C s.heap.objs.size) := by
    have := Heap.get?_push_size (s.heap.push PySem.W.emptyDict) (o := PySem.W.instObj C s.heap.objs.size) rfl
    rwa [Heap.size_push] at this
  have e3 : (s.heap.push PySem.W.emptyDict).Ns s.heap.objs.size (fun _ => none) := ⟨PySem.W.emptyDict, #[], _, e1, rfl, (fun e he => absurd he (by simp)), fun _ => rfl⟩
  have I1 := I.laid (a := s.heap.objs.size) (o := .own (s.heap.objs.size + 1)) (h' := s.heap.push PySem.W.emptyDict) (t' := s.toks) (fun b u q => Heap.get?_push_of_some _ q) (Nat.le_refl _) ⟨_, e1⟩
  refine I1.laid (a := s.heap.objs.size + 1) (o := .ins C s.heap.objs.size []) (t' := s.toks) (fun b u q => Heap.get?_push_of_some _ q) (Nat.le_of_eq (Heap.size_push _ _)) ?_
  have ne : s.heap.objs.size ≠ s.heap.objs.size + 1 := Nat.ne_of_lt (Nat.lt_succ_self _)
  refine ⟨by rw [upd_ne ne, upd_same], Nat.zero_le _, ne, e2, fun _ => none, (Heap.Ns1.of_empty e3).at fun o q => Heap.get?_push_of_some _ q, fun _ => True.intro, fun y hy => absurd rfl hy⟩

/-- e.f where nothing but the object is asked: through attributeBase (super) and the last hold -/
theorem attr_of {prog : Program} {w : World} {env : Env} {e : Expr} {f : Str} {pos : Pos} {s : Shared} {Q : Value → Shared → Prop} (hb : attributeBase e f env (eval e env) = eval e env)
    (h : wpAny (model prog w) A (eval e env) (fun o s₁ => wpAny (model prog w) A (getAttr o f true) Q E s₁) E s) : wpAny (model prog w) A (eval (.Attribute e f pos) env) Q E s :=
  Attribute_any_ h (by rw [arm_eval_Attribute, hb])
end

/-! ### readings and rules -/
/-- e.f, an attribute of the instance -/
def tFld (K : PySem.W.Frag) (ta : TE) (f : Str) : TE := fun σ H Q => ta σ H fun x H1 => ∃ a C dx fs v, x = .ref a ∧ H1 a = some (.ins C dx fs) ∧ Cls K C ∧ NoAttr K C f ∧ fs.lookup f = some v ∧ Q v H1
/-- e.f, a constant of the class -/
def tCon (K : PySem.W.Frag) (ta : TE) (f : Str) : TE := fun σ H Q => ta σ H fun x H1 => ∃ a C dx fs v u, x = .ref a ∧ H1 a = some (.ins C dx fs) ∧ Cls K C ∧ Con K C f v u ∧ fs.lookup f = none ∧ Q v H1
/-- e.f = value -/
def sFld (K : PySem.W.Frag) (ta tv : TE) (f : Str) : TS := fun D σ H => tv σ H fun y H1 => ta σ H1 fun x H2 => ∃ a C dx fs, x = .ref a ∧ H2 a = some (.ins C dx fs) ∧ Cls K C ∧ NoAttr K C f ∧ fs.length < 1000 ∧
  D.nx σ (upd H2 a (.ins C dx (putF f y fs)))
/-- an augmented operator on two values -/
def InOp (X : Cx) (op : Operator) (rd : V → V → Hp → VK → Prop) : Prop :=
  ∀ (pins : List (Addr × Obj)) (s : Shared) (σ : St) (H : Hp) (x y : V) (u v : Value) (Q : VK), Inv X pins σ H s → RelV x u → RelV y v → rd x y H Q → wpAny (model X.prog X.w) X.A (inplaceOp op u v) (EP X pins σ Q) X.xe s
/-- e.f op= value -/
def sFldAug (K : PySem.W.Frag) (ta tv : TE) (rd : V → V → Hp → VK → Prop) (f : Str) : TS := fun D σ H => ta σ H fun x H1 => ∃ a C dx fs v, x = .ref a ∧ H1 a = some (.ins C dx fs) ∧ Cls K C ∧ NoAttr K C f ∧ fs.lookup f = some v ∧
  tv σ H1 fun y H2 => rd v y H2 fun z H3 => ∃ dx' fs', H3 a = some (.ins C dx' fs') ∧ fs'.length < 1000 ∧ D.nx σ (upd H3 a (.ins C dx' (putF f z fs')))

section
variable {X : Cx} {o e value : Expr} {f : Str} {pos pos' tpos : Pos} {ta tv : TE}
theorem pe_fld (he : PE X e ta) (hb : attributeBase e f X.env (eval e X.env) = eval e X.env) : PE X (.Attribute e f pos) (tFld X.K ta f) := by
  intro pins s σ H Q I h
  refine attr_of hb (thn (he pins s σ H _ I h) fun u s1 ⟨x, H1, I1, rx, a, C, dx, fs, v, ex, ea, c, n, l, q⟩ => ?_)
  subst ex
  obtain rfl : u = Value.ref a := rx
  exact getattr_ok I1 ea c n l fun u' s2 I2 ru => ⟨v, H1, I2, ru, q⟩
theorem pe_con (he : PE X e ta) (hb : attributeBase e f X.env (eval e X.env) = eval e X.env) : PE X (.Attribute e f pos) (tCon X.K ta f) := by
  intro pins s σ H Q I h
  refine attr_of hb (thn (he pins s σ H _ I h) fun u s1 ⟨x, H1, I1, rx, a, C, dx, fs, v, u0, ex, ea, c, k, l, q⟩ => ?_)
  subst ex
  obtain rfl : u = Value.ref a := rx
  exact getcon_ok I1 ea c k l fun s2 I2 => ⟨v, H1, I2, k.rel, q⟩
theorem ps_fld (ha : PE X o ta) (hv : PE X value tv) (hs : swapsWith value (some (.Attribute o f pos')) pos.line X.env = pure false) : PS X (.Assign [.Attribute o f pos'] value pos) (sFld X.K ta tv f) := by
  intro pins s σ H D I h
  refine plainObj_wpAny_Assign_Attribute (thn (hv pins s σ H _ I h) fun u s1 ⟨y, H1, I1, ry, q⟩ => thn (ha pins s1 σ H1 _ I1 q) fun ov s2 ⟨x, H2, I2, rx, a, C, dx, fs, ex, ea, c, n, l, q2⟩ => ?_) hs
  subst ex
  obtain rfl : ov = Value.ref a := rx
  exact setattr_ok I2 ea c n l ry fun s3 I3 => ⟨σ, _, I3, q2⟩
theorem ps_fldaug {op : Operator} {rd : V → V → Hp → VK → Prop} (ha : PE X o ta) (hv : PE X value tv) (hop : InOp X op rd) : PS X (.AugAssign (.Attribute o f tpos) op value pos) (sFldAug X.K ta tv rd f) := by
  intro pins s σ H D I h
  refine wpAny_AugAssign_AttributeAny (thn (ha pins s σ H _ I h) fun ov s1 ⟨x, H1, I1, rx, a, C, dx, fs, v, ex, ea, c, n, l, q⟩ => ?_)
  subst ex
  obtain rfl : ov = Value.ref a := rx
  refine getattr_ok I1 ea c n l fun u s2 I2 ru => thn (hv pins s2 σ H1 _ I2 q) fun w3 s3 ⟨y, H2, I3, ry, q3⟩ => thn (hop pins s3 σ H2 v y u w3 _ I3 ru ry q3) fun w4 s4 ⟨z, H3, I4, rz, dx', fs', ea', l', q4⟩ => ?_
  exact setattr_ok I4 ea' c n l' rz fun s5 I5 => ⟨σ, _, I5, q4⟩
def rAdd : V → V → Hp → VK → Prop := fun x y H Q => ∃ i j, x = .int i ∧ y = .int j ∧ Q (.int (i + j)) H
def rSub : V → V → Hp → VK → Prop := fun x y H Q => ∃ i j, x = .int i ∧ y = .int j ∧ Q (.int (i - j)) H
theorem in_add : InOp X .Add rAdd := by
  rintro pins s σ H x y u v Q I rx ry ⟨i, j, rfl, rfl, q⟩
  obtain ⟨t, rfl⟩ := (show ∃ t, u = Value.int i t from rx)
  obtain ⟨t', rfl⟩ := (show ∃ t', v = Value.int j t' from ry)
  exact PyProof.Rows.iadd_int ⟨.int (i + j), H, I.tok _, ⟨_, rfl⟩, q⟩
theorem in_sub : InOp X .Sub rSub := by
  rintro pins s σ H x y u v Q I rx ry ⟨i, j, rfl, rfl, q⟩
  obtain ⟨t, rfl⟩ := (show ∃ t, u = Value.int i t from rx)
  obtain ⟨t', rfl⟩ := (show ∃ t', v = Value.int j t' from ry)
  exact PyProof.Rows.isub_int ⟨.int (i - j), H, I.tok _, ⟨_, rfl⟩, q⟩

/-- what is between an instance and its method: the tree of a method call -/
theorem methcall_of {pl : Sem Bool} {m : Str} {apos : Pos} {args : List Expr} {pins : List (Addr × Obj)} {s : Shared} {σ : St} {H : Hp} {Q : Value → Shared → Prop} {te : TE} (he : PE X e te) (I : Inv X pins σ H s)
    (h : te σ H fun x H1 => ∃ a C dx fs g, x = .ref a ∧ H1 a = some (.ins C dx fs) ∧ Cls X.K C ∧ Meth X.K C m g ∧ fs.lookup m = none ∧
      ∀ s1, Inv X pins σ H1 s1 → wpAny (model X.prog X.w) X.A (callWith pos (.ref g) [.ref a] (backTo pos (starEach args X.env)) (backToKw pos (keywordEach [] X.env))) Q X.xe s1)
    (ht : eval (.Call (.Attribute e m apos) args [] pos) X.env = (do
      let ov ← eval e X.env
      standAt apos.atName
      let (f, first) ← holding [ov] (getMethod ov m pl)
      callWith pos f first (backTo pos (starEach args X.env)) (backToKw pos (keywordEach [] X.env)))) :
    wpAny (model X.prog X.w) X.A (eval (.Call (.Attribute e m apos) args [] pos) X.env) Q X.xe s := by
  refine PySem.W.methodCall_KW (pl := pl) (thn (he pins s σ H _ I h) fun u s1 ⟨x, H1, I1, rx, a, C, dx, fs, g, ex, ea, c, k, l, q⟩ => ?_) ht
  subst ex
  obtain rfl : u = Value.ref a := rx
  exact getmeth_ok I1 ea c k l (q s1 I1)
end

/-! ### isinstance -/
section
variable {X : Cx} {pins : List (Addr × Obj)} {σ : St} {H : Hp} {s : Shared} {A : Around} {E : Value → Shared → Prop} {Q : Value → Shared → Prop} {c : Value} {b : Bool}
/-- the type of a value, as the fragment's deciders take it; for an instance its class -/
inductive TyOf (K : PySem.W.Frag) (H : Hp) : V → Value → Prop where
  | non : TyOf K H .non (.type "NoneType")
  | bl (x : Bool) : TyOf K H (.bl x) (.type "bool")
  | int (i : Int) : TyOf K H (.int i) (.type "int")
  | str (x : Str) : TyOf K H (.str x) (.type "str")
  | flt (x : UInt64) : TyOf K H (.flt x) (.type "float")
  | lst {a : Addr} {xs : List V} (e : H a = some (.lst xs)) : TyOf K H (.ref a) (.type "list")
  | frz {a : Addr} {o : Obj} {xs : List V} (e : H a = some (.frz o (.lst xs))) : TyOf K H (.ref a) (.type "list")
  | tup {a : Addr} {xs : List V} (e : H a = some (.tup xs)) : TyOf K H (.ref a) (.type "tuple")
  | dK {a : Addr} {kvs : List (Key × V)} (e : H a = some (.dK kvs)) : TyOf K H (.ref a) (.type "dict")
  | dT {a : Addr} {kvs : List (List Key × V)} (e : H a = some (.dT kvs)) : TyOf K H (.ref a) (.type "dict")
  | ins {a C dx : Addr} {fs : List (Str × V)} (e : H a = some (.ins C dx fs)) (cl : Cls K C) (ha : PySem.W.findIn K (.ref C) "__class__" = some (some (.builtin "object.__class__")))
      (hn : PySem.W.specialIn K (.builtin "object.__class__") "__get__" = some (some (.builtin "getset_descriptor.__get__"))) (htk : PySem.W.takesIn K (.builtin "object.__class__") = some true)
      (hm : PySem.W.mroIn K C (.type "object") = some true) : TyOf K H (.ref a) (.ref C)
/-- isinstance(x, c) for one class c, a built-in or an own one: kitOne's answer -/
theorem isinst_ok {x : V} {u t : Value} (I : Inv X pins σ H s) (rx : RelV x u) (ty : TyOf X.K H x t) (e : PySem.W.kitOne X.K t c = some b) (h : ∀ tk, Q (.bool b) { s with toks := tk }) :
    wpAny (model X.prog X.w) A (call (.builtin "isinstance") [u, c]) Q E s := by
  cases ty with
  | non => cases (show u = Value.none from rx); exact PySem.W.kia_one PySem.W.kitx_none I.kIn True.intro e (fun z => nomatch z) h
  | bl y => cases (show u = Value.bool y from rx); exact PySem.W.kia_one PySem.W.kitx_bool I.kIn True.intro e (fun z => nomatch z) h
  | int i => obtain ⟨t, q⟩ := (show ∃ t, u = Value.int i t from rx); cases q; exact PySem.W.kia_one PySem.W.kitx_int I.kIn True.intro e (fun z => nomatch z) h
  | str y => obtain ⟨t, q⟩ := (show ∃ t, u = Value.str y t from rx); cases q; exact PySem.W.kia_one PySem.W.kitx_str I.kIn True.intro e (fun z => nomatch z) h
  | flt y => obtain ⟨t, q⟩ := (show ∃ t, u = Value.float y t from rx); cases q; exact PySem.W.kia_one PySem.W.kitx_float I.kIn True.intro e (fun z => nomatch z) h
  | @lst a xs ea =>
    cases (show u = Value.ref a from rx)
    obtain ⟨_, _, n, _, h1⟩ := (show ObjOk X.prog X.w H s.heap a (.lst xs) from I.hok a _ ea)
    exact PySem.W.kia_one PySem.W.kitx_list I.kIn ⟨_, h1, rfl⟩ e (fun z => nomatch z) h
  | @frz a ob xs ea =>
    cases (show u = Value.ref a from rx)
    obtain ⟨_, _, _, n, _, h1⟩ := (show ObjOk X.prog X.w H s.heap a (.frz ob (.lst xs)) from I.hok a _ ea)
    exact PySem.W.kia_one PySem.W.kitx_list I.kIn ⟨_, h1, rfl⟩ e (fun z => nomatch z) h
  | @tup a xs ea =>
    cases (show u = Value.ref a from rx)
    obtain ⟨_, _, _, p⟩ := (show ObjOk X.prog X.w H s.heap a (.tup xs) from I.hok a _ ea)
    obtain ⟨o, h1, h2, _⟩ := p
    exact PySem.W.kia_one PySem.W.kitx_tuple I.kIn ⟨o, h1, h2⟩ e (fun z => nomatch z) h
  | @dK a kvs ea =>
    cases (show u = Value.ref a from rx)
    obtain ⟨_, _, vs, _, p⟩ := (show ObjOk X.prog X.w H s.heap a (.dK kvs) from I.hok a _ ea)
    obtain ⟨o, es, ep, h1, h2, _⟩ := p
    exact PySem.W.kia_one PySem.W.kitx_dict I.kIn ⟨o, h1, h2.1⟩ e (fun z => nomatch z) h
  | @dT a kvs ea =>
    cases (show u = Value.ref a from rx)
    obtain ⟨_, _, xs, _, o, es, ep, h1, h2, _⟩ := (show ObjOk X.prog X.w H s.heap a (.dT kvs) from I.hok a _ ea)
    exact PySem.W.kia_one PySem.W.kitx_dict I.kIn ⟨o, h1, h2.1⟩ e (fun z => nomatch z) h
  | @ins a C dx fs ea cl ha hn htk hm =>
    cases (show u = Value.ref a from rx)
    obtain ⟨mA, O, _⟩ := ins_get I.hok ea
    obtain ⟨od, J, _⟩ := O.look
    exact PySem.W.kia_one (PySem.W.kitx_own (cl.get _) cl.hd ha hn htk hm) I.kIn J e (fun z => nomatch z) h
end
end L2

namespace L2
open PySem PySem.Spec PyProof.Rows

/-! ### room -/
structure Room (k : Nat) (A : Around) : Prop where
  hd : A.handled = none
  dp : A.depth + 3 * k + 5 < recursionLimit
  un : A.units + 16 * k + 200 < cLine
theorem Room.mono {j k : Nat} {A : Around} (r : Room k A) (h : j ≤ k) : Room j A := ⟨r.hd, by have := r.dp; omega, by have := r.un; omega⟩
theorem Room.deeper {k : Nat} {A : Around} (r : Room (k + 1) A) (env : Env) : Room k (A.deeper env) :=
  ⟨r.hd, by have := r.dp; show A.depth + 1 + 3 * k + 5 < _; omega, by have := r.un; show A.units + 3 + 16 * k + 200 < _; omega⟩
theorem Room.in1 {k : Nat} {A : Around} (r : Room (k + 1) A) : Room k A.in1 :=
  ⟨r.hd, by have := r.dp; show A.depth + 3 * k + 5 < _; omega, by have := r.un; show A.units + 1 + 16 * k + 200 < _; omega⟩
theorem make_depth {A : Around} {C : Addr} {us : List Value} {kw : List (Str × Value)} : (A.under (.builtin "type.__call__" ⟨.ref C :: us, kw⟩)).depth = A.depth + 1 := by
  first | rfl | simp [Around.under, Code.weight, Code.isCreation, Code.isGuard, Code.isCaller, Code.frames, Code.isFrame, guardIds]
theorem make_units {A : Around} {C : Addr} {us : List Value} {kw : List (Str × Value)} : (A.under (.builtin "type.__call__" ⟨.ref C :: us, kw⟩)).units = A.units + 1 := by
  first | rfl | simp [Around.under, Code.cUnits, Code.frames, Code.isFrame]
theorem Room.make {k : Nat} {A : Around} (r : Room (k + 1) A) (C : Addr) (us : List Value) (kw : List (Str × Value)) : Room k (A.under (.builtin "type.__call__" ⟨.ref C :: us, kw⟩)) :=
  ⟨r.hd, by have := r.dp; rw [make_depth]; omega, by have := r.un; rw [make_units]; omega⟩
theorem Room.depth {k : Nat} {A : Around} (r : Room k A) : A.depth < recursionLimit := by have := r.dp; omega
theorem Room.units {k : Nat} {A : Around} (r : Room k A) : A.units + 64 < cLine := by have := r.un; omega
theorem Room.units0 {k : Nat} {A : Around} (r : Room k A) : A.units < cLine := by have := r.un; omega

/-! ### argument lists and displays -/
def tNil : TA := fun _ H Q => Q [] H
def tCons (ta : TE) (tr : TA) : TA := fun σ H Q => ta σ H fun x H1 => tr σ H1 fun xs H2 => Q (x :: xs) H2
section
variable {X : Cx} {e : Expr} {es : List Expr} {te : TE} {t : TA} {pos : Pos}
theorem pa_nil : PA X [] tNil := fun _ _ _ _ H Q I h => Calls.spliced_nil ⟨[], H, I, .nil, h⟩
theorem pa_cons (ha : PE X e te) (hr : PA X es t) (hs : starEach (e :: es) X.env = (false, eval e X.env) :: starEach es X.env := by rfl) : PA X (e :: es) (tCons te t) := by
  intro pos pins s σ H Q I h
  rw [hs]
  show wpAny _ _ (spliced ((false, eval e X.env) :: backTo pos (starEach es X.env))) _ _ s
  refine Calls.spliced_cons (thn (ha pins s σ H _ I h) fun u s1 ⟨x, H1, I1, r1, q1⟩ => ?_)
  exact thn (hr pos pins s1 σ H1 _ I1 q1) fun us s2 ⟨xs, H2, I2, r2, q2⟩ => ⟨x :: xs, H2, I2, .cons r1 r2, q2⟩

/-- a tuple, a list of written items -/
def tTup (t : TA) : TE := fun σ H Q => t σ H fun xs H1 => xs.length ≤ sizeLine ∧ ∀ p, H1 p = none → Q (.ref p) (upd H1 p (.tup xs))
def tLst (t : TA) : TE := fun σ H Q => t σ H fun xs H1 => xs.length ≤ sizeLine ∧ ∀ p, H1 p = none → Q (.ref p) (upd H1 p (.lst xs))
theorem pe_tup {x1} (h : PA X es t) : PE X (.Tuple es x1 pos) (tTup t) := by
  intro pins s σ H Q I hq
  refine wpAny_Tuple_spliced (thn (h pos pins s σ H _ I hq) fun us s1 ⟨xs, H1, I1, r, z, q⟩ => ⟨by rw [← r.length]; exact z, ?_⟩)
  have hf : H1 s1.heap.objs.size = none := I1.hok.fresh (Nat.le_refl _)
  refine ⟨.ref s1.heap.objs.size, upd H1 s1.heap.objs.size (.tup xs), I1.laid (t' := s1.toks) (fun b u e => Heap.get?_push_of_some _ e) (Nat.le_refl _) ?_, rfl, q _ hf⟩
  exact ⟨z, us, r, ⟨_, Heap.get?_push_size _ rfl, rfl, _, rfl⟩⟩
theorem pe_lst (h : PA X es t) : PE X (.List es pos) (tLst t) := by
  intro pins s σ H Q I hq
  refine wpAny_List_spliced (thn (h pos pins s σ H _ I hq) fun us s1 ⟨xs, H1, I1, r, z, q⟩ => ⟨by rw [← r.length]; exact z, ?_⟩)
  have hf : H1 s1.heap.objs.size = none := I1.hok.fresh (Nat.le_refl _)
  refine ⟨.ref s1.heap.objs.size, upd H1 s1.heap.objs.size (.lst xs), I1.laid (t' := s1.toks) (fun b u e => Heap.get?_push_of_some _ e) (Nat.le_refl _) ?_, rfl, q _ hf⟩
  exact ⟨z, us, 0, r, Heap.get?_push_size _ rfl⟩
end

/-! ### what a def promises -/
/-- a def's promise: the bound arguments in the parameters' order, the heap, the wanted end, the wanted exception -/
abbrev Sp := List V → Hp → VK → XK → Prop
/-- how an exception lies behind a call (file 08 gives it): the callers' frames, abstract heap and state ahead of the call, the wish, the exception, the state -/
abbrev CXT := List Env → Hp → Shared → XK → Value → Shared → Prop

/-- the state at a call -/
structure Env0 (P : Program) (w : World) (K : PySem.W.Frag) (mg : Str → Option Value) (base : Heap) (A : Around) (outer : List Env) (s : Shared) (H : Hp) : Prop where
  frames : A.frames = some outer
  mod : Mod K mg base
  bs : ∀ b o, base.get? b = some o → s.heap.get? b = some o ∧ H b = none
  bsz : base.objs.size ≤ s.heap.objs.size
  funs : s.heap.FunFrames base outer
  frf : ∀ b ∈ frs outer, H b = none
  hok : HOk P w H s.heap
  bare : AllBare s.gens
/-- a call's end -/
def CE (outer : List Env) (P : Program) (w : World) (H : Hp) (s : Shared) (Q : VK) (u : Value) (s' : Shared) : Prop :=
  ∃ v H', s'.os = s.os ∧ AllBare s'.gens ∧ Un (frs outer) [] H H' s.heap s'.heap ∧ HOk P w H' s'.heap ∧ RelV v u ∧ Q v H'
def CR (CX : CXT) (outer : List Env) (P : Program) (w : World) (H : Hp) (s : Shared) (Q : VK) (E : XK) (r : Result) (s' : Shared) : Prop :=
  match r with
  | .ok (.ret u) => CE outer P w H s Q u s'
  | .ok _ => False
  | .error e => CX outer H s E e s'
structure FnOk (P : Program) (w : World) (K : PySem.W.Frag) (mg : Str → Option Value) (base : Heap) (CX : CXT) (k : Nat) (f : Addr) (fd : FuncData) (ps : List Str) (sp : Sp) : Prop where
  len : ∀ vs H Q E, sp vs H Q E → vs.length = ps.length
  run : ∀ (A : Around) (outer : List Env) (s : Shared) (H : Hp) (args : Args) (us : List Value) (vs : List V) (Q : VK) (E : XK), Room k A → Env0 P w K mg base A outer s H → BindsTo s fd args (ps.zip us) → Vals vs us → sp vs H Q E →
    codeAny (model P w) A (.call (.ref f) args) (CR CX outer P w H s Q E) s
theorem FnOk.mono {P : Program} {w : World} {K : PySem.W.Frag} {mg : Str → Option Value} {base : Heap} {CX : CXT} {j k : Nat} {f : Addr} {fd : FuncData} {ps : List Str} {sp : Sp} (F : FnOk P w K mg base CX j f fd ps sp) (h : j ≤ k) :
    FnOk P w K mg base CX k f fd ps sp := ⟨F.len, fun A outer s H args us vs Q E hr => F.run A outer s H args us vs Q E (hr.mono h)⟩
/-- a weaker promise -/
theorem FnOk.imp {P : Program} {w : World} {K : PySem.W.Frag} {mg : Str → Option Value} {base : Heap} {CX : CXT} {k : Nat} {f : Addr} {fd : FuncData} {ps : List Str} {sp sp' : Sp} (F : FnOk P w K mg base CX k f fd ps sp)
    (h : ∀ vs H Q E, sp' vs H Q E → sp vs H Q E) : FnOk P w K mg base CX k f fd ps sp' :=
  ⟨fun vs H Q E q => F.len vs H Q E (h _ _ _ _ q), fun A outer s H args us vs Q E hr he hb hv hs => F.run A outer s H args us vs Q E hr he hb hv (h _ _ _ _ hs)⟩

theorem Env0.make {P : Program} {w : World} {K : PySem.W.Frag} {mg : Str → Option Value} {base : Heap} {A : Around} {outer : List Env} {s : Shared} {H : Hp} (e : Env0 P w K mg base A outer s H) (C : Addr) (us : List Value) (kw : List (Str × Value)) :
    Env0 P w K mg base (A.under (.builtin "type.__call__" ⟨.ref C :: us, kw⟩)) outer s H := ⟨by first | exact e.frames | (simpa [Around.under, Code.envs, Code.isFrame, pushEnvs] using e.frames), e.mod, e.bs, e.bsz, e.funs, e.frf, e.hok, e.bare⟩
theorem Env0.in1 {P : Program} {w : World} {K : PySem.W.Frag} {mg : Str → Option Value} {base : Heap} {A : Around} {outer : List Env} {s : Shared} {H : Hp} (e : Env0 P w K mg base A outer s H) :
    Env0 P w K mg base A.in1 outer s H := ⟨e.frames, e.mod, e.bs, e.bsz, e.funs, e.frf, e.hok, e.bare⟩

section
variable {X : Cx} {pins : List (Addr × Obj)} {σ : St} {H : Hp} {s s' : Shared}
/-- from a body: what a callee wants -/
theorem Inv.env0 (I : Inv X pins σ H s) : Env0 X.prog X.w X.K X.mg X.base X.A X.stack s H :=
  ⟨I.ok.frames, I.ok.mod, I.bs, Nat.le_trans I.ok.bsz I.sz, I.stack, I.stkFree, I.hok, I.bare⟩
/-- behind a call -/
theorem Inv.after {Q : VK} {u : Value} (I : Inv X pins σ H s) (h : CE X.stack X.prog X.w H s Q u s') : EP X pins σ Q u s' := by
  obtain ⟨v, H', os, bare, un, hok, r, q⟩ := h
  obtain ⟨hh, g, d, t, os'⟩ := s'
  obtain rfl : os' = s.os := os
  exact ⟨v, H', I.call (h' := hh) (g' := g) (d' := d) (t' := t) (ch := []) un hok bare (fun b z => absurd z (by simp)), r, q⟩
end

/-! ### calls -/
/-- f(..): the written arguments, then the defaults dvs; E: what is wanted of an exception -/
def tCall (sp : Sp) (dvs : List V) (E : XK) (t : TA) : TE := fun σ H Q => t σ H fun vs H1 => sp (vs ++ dvs) H1 Q E
/-- o.m(..) of an instance of the class at C -/
def tMeth (C : Addr) (m : Str) (sp : Sp) (dvs : List V) (E : XK) (ta : TE) (t : TA) : TE := fun σ H Q => ta σ H fun x H1 => ∃ a dx fs, x = .ref a ∧ H1 a = some (.ins C dx fs) ∧ fs.lookup m = none ∧
  t σ H1 fun vs H2 => sp (x :: (vs ++ dvs)) H2 Q E
/-- C(..): a new instance and its dict, then __init__ -/
def tMake (C : Addr) (sp : Sp) (dvs : List V) (E : XK) (t : TA) : TE := fun σ H Q => t σ H fun vs H1 => ∀ x dx, H1 x = none → H1 dx = none → dx ≠ x →
  sp (.ref x :: (vs ++ dvs)) (upd (upd H1 dx (.own x)) x (.ins C dx [])) (fun v H2 => v = .non ∧ Q (.ref x) H2) E

/-- how the parameters are bound: us the positional arguments, kw the keywords' values by name, ds the defaults that fill up -/
def Binds (K : PySem.W.Frag) (fd : FuncData) (ps : List Str) (ds : List Value) : Prop :=
  ∀ (s : Shared) (us : List Value), K.In s.heap → (us ++ ds).length = ps.length → BindsTo s fd ⟨us, []⟩ (ps.zip (us ++ ds))
/-- every parameter is given -/
theorem Binds.all {K : PySem.W.Frag} {fd : FuncData} {ps : List Str} (h : ∀ us : List Value, us.length = ps.length → bindArgs fd ⟨us, []⟩ = pure (ps.zip us)) : Binds K fd ps [] := fun s us _ hl => by
  rw [List.append_nil] at hl ⊢
  exact .of_eq (h us hl)

/-- an exception of a callee reaches what this body wants of exceptions -/
def Passes (CX : CXT) (X : Cx) (E : XK) : Prop := ∀ (pins : List (Addr × Obj)) (σ : St) (H : Hp) (s : Shared) (e : Value) (s' : Shared), Inv X pins σ H s → CX X.stack H s E e s' → X.xe e s'

section
variable {X : Cx} {CX : CXT} {k : Nat} {f C : Addr} {fd : FuncData} {ps : List Str} {sp : Sp} {dvs : List V} {ds : List Value} {E : XK} {x m : Str} {p pos apos : Pos} {e o : Expr} {es : List Expr} {ta : TE} {t : TA}

/-- the callee runs -/
theorem run_fn {pins : List (Addr × Obj)} {σ : St} {H : Hp} {s : Shared} {Q : VK} {us : List Value} {vs : List V} (F : FnOk X.prog X.w X.K X.mg X.base CX k f fd ps sp) (hr : Room k X.A) (hb : Binds X.K fd ps ds) (hd : Vals dvs ds) (hx : Passes CX X E)
    (I : Inv X pins σ H s) (r : Vals vs us) (h : sp (vs ++ dvs) H Q E) : wpAny (model X.prog X.w) X.A (call (.ref f) us) (EP X pins σ Q) X.xe s := by
  have r2 : Vals (vs ++ dvs) (us ++ ds) := r.append hd
  have hl : (us ++ ds).length = ps.length := by rw [← r2.length]; exact F.len _ _ _ _ h
  refine wpAny_call (codeAny_mono (F.run X.A X.stack s H ⟨us, []⟩ (us ++ ds) (vs ++ dvs) Q E hr I.env0 (hb s us I.kIn hl) r2 h) fun r s' hq => ?_)
  cases r with
  | error e => exact hx pins σ H s e s' I hq
  | ok fl =>
    cases fl with
    | ret u => exact I.after hq
    | next => exact False.elim hq
    | brk => exact False.elim hq
    | cont => exact False.elim hq

theorem pe_call (F : FnOk X.prog X.w X.K X.mg X.base CX k f fd ps sp) (hr : Room k X.A) (hg : Gl X x) (hm : X.mg x = some (.ref f)) (hk : PySem.W.keepIn X.K (.ref f) = true) (hb : Binds X.K fd ps ds) (hd : Vals dvs ds) (hx : Passes CX X E)
    (ha : PA X (e :: es) t) (hdb : (x == ("__debug__" : Str)) = false := by decide) (he : starEach (e :: es) X.env = (false, eval e X.env) :: starEach es X.env := by rfl) (hpl : (backTo pos (starEach es X.env)).any (·.1) = false := by rfl) :
    PE X (.Call (.Name x p) (e :: es) [] pos) (tCall sp dvs E t) := by
  intro pins s σ H Q I h
  refine wpAny_Call_Name_kw (ld_glob I hg hm ?_ hdb)
  refine PySem.W.callWith_K (h₀ := X.base) I.ok.mod.kin hk (thn (ha pos pins s σ H _ I h) fun us s1 ⟨vs, H1, I1, r, q⟩ => ⟨I1.kIn, ?_⟩) he hpl
  exact run_fn F hr hb hd hx I1 r q
theorem pe_call0 (F : FnOk X.prog X.w X.K X.mg X.base CX k f fd ps sp) (hr : Room k X.A) (hg : Gl X x) (hm : X.mg x = some (.ref f)) (hk : PySem.W.keepIn X.K (.ref f) = true) (hb : Binds X.K fd ps ds) (hd : Vals dvs ds) (hx : Passes CX X E)
    (hdb : (x == ("__debug__" : Str)) = false := by decide) : PE X (.Call (.Name x p) [] [] pos) (tCall sp dvs E tNil) := by
  intro pins s σ H Q I h
  refine wpAny_Call_Name_kw (ld_glob I hg hm ?_ hdb)
  exact PySem.W.callWith_K0 I.kIn hk (run_fn (us := []) F hr hb hd hx I .nil h)

/-- o.m(e, ..) -/
theorem pe_meth {pl : Sem Bool} (he : PE X o ta) (c : Cls X.K C) (hm : Meth X.K C m f) (F : FnOk X.prog X.w X.K X.mg X.base CX k f fd ps sp) (hr : Room k X.A) (hb : Binds X.K fd ps ds) (hd : Vals dvs ds) (hx : Passes CX X E) (ha : PA X (e :: es) t)
    (hst : starEach (e :: es) X.env = (false, eval e X.env) :: starEach es X.env := by rfl) (hpl : (backTo pos (starEach es X.env)).any (·.1) = false := by rfl)
    (ht : eval (.Call (.Attribute o m apos) (e :: es) [] pos) X.env = (do
      let ov ← eval o X.env
      standAt apos.atName
      let (f, first) ← holding [ov] (getMethod ov m pl)
      callWith pos f first (backTo pos (starEach (e :: es) X.env)) (backToKw pos (keywordEach [] X.env))) := by rfl) :
    PE X (.Call (.Attribute o m apos) (e :: es) [] pos) (tMeth C m sp dvs E ta t) := by
  intro pins s σ H Q I h
  refine PySem.W.methodCall_KW (pl := pl) (thn (he pins s σ H _ I h) fun u s1 ⟨x, H1, I1, rx, a, dx, fs, ex, ea, l, q⟩ => ?_) ht
  subst ex
  obtain rfl : u = Value.ref a := rx
  refine getmeth_ok I1 ea c hm l ?_
  refine PySem.W.callWith_K (first := [.ref a]) (h₀ := X.base) I.ok.mod.kin hm.kp (thn (ha pos pins s1 σ H1 _ I1 q) fun us s2 ⟨vs, H2, I2, r, q2⟩ => ⟨I2.kIn, ?_⟩) hst hpl
  exact run_fn (us := .ref a :: us) (vs := .ref a :: vs) F hr hb hd hx I2 (.cons rfl r) q2
/-- o.m() -/
theorem pe_meth0 {pl : Sem Bool} (he : PE X o ta) (c : Cls X.K C) (hm : Meth X.K C m f) (F : FnOk X.prog X.w X.K X.mg X.base CX k f fd ps sp) (hr : Room k X.A) (hb : Binds X.K fd ps ds) (hd : Vals dvs ds) (hx : Passes CX X E)
    (ht : eval (.Call (.Attribute o m apos) [] [] pos) X.env = (do
      let ov ← eval o X.env
      standAt apos.atName
      let (f, first) ← holding [ov] (getMethod ov m pl)
      callWith pos f first (backTo pos (starEach [] X.env)) (backToKw pos (keywordEach [] X.env))) := by rfl) :
    PE X (.Call (.Attribute o m apos) [] [] pos) (tMeth C m sp dvs E ta tNil) := by
  intro pins s σ H Q I h
  refine PySem.W.methodCall_KW (pl := pl) (thn (he pins s σ H _ I h) fun u s1 ⟨x, H1, I1, rx, a, dx, fs, ex, ea, l, q⟩ => ?_) ht
  subst ex
  obtain rfl : u = Value.ref a := rx
  refine getmeth_ok I1 ea c hm l ?_
  exact PySem.W.callWith_K0 (first := [.ref a]) I1.kIn hm.kp (run_fn (us := [.ref a]) (vs := [.ref a]) F hr hb hd hx I1 (.cons rfl .nil) q)

/-- what a class must have to be made -/
structure Mk (K : PySem.W.Frag) (C f : Addr) : Prop where
  makes : PySem.W.makesIn K C = true
  init : PySem.W.findIn K (.ref C) "__init__" = some (some (.ref f))
  fn : PySem.W.isFn K (.ref f) = true
  kp : PySem.W.keepIn K (.ref C) = true

theorem run_make {pins : List (Addr × Obj)} {σ : St} {H : Hp} {s : Shared} {Q : VK} {us : List Value} {vs : List V} (M : Mk X.K C f) (F : FnOk X.prog X.w X.K X.mg X.base CX k f fd ps sp) (hr : Room (k + 1) X.A) (hb : Binds X.K fd ps ds) (hd : Vals dvs ds)
    (hx : Passes CX X E) (I : Inv X pins σ H s) (r : Vals vs us)
    (h : ∀ x dx, H x = none → H dx = none → dx ≠ x → sp (.ref x :: (vs ++ dvs)) (upd (upd H dx (.own x)) x (.ins C dx [])) (fun v H2 => v = .non ∧ Q (.ref x) H2) E) :
    wpAny (model X.prog X.w) X.A (call (.ref C) us) (EP X pins σ Q) X.xe s := by
  have hq := h (s.heap.objs.size + 1) s.heap.objs.size (I.hok.fresh (Nat.le_succ _)) (I.hok.fresh (Nat.le_refl _)) (Nat.ne_of_lt (Nat.lt_succ_self _))
  have I2 := Inv.made (C := C) I
  have r2 : Vals (V.ref (s.heap.objs.size + 1) :: (vs ++ dvs)) (Value.ref (s.heap.objs.size + 1) :: (us ++ ds)) := .cons rfl (r.append hd)
  have hl : (Value.ref (s.heap.objs.size + 1) :: us ++ ds).length = ps.length := by
    have e := r2.length
    rw [F.len _ _ _ _ hq] at e
    exact e.symm
  refine wpAny_call (make_map (f := f) I.kIn M.makes M.init (beq_iff_eq.mp M.fn) (codeAny_mono (F.run _ X.stack _ _ ⟨Value.ref (s.heap.objs.size + 1) :: us, []⟩ (Value.ref (s.heap.objs.size + 1) :: (us ++ ds)) _ _ E (hr.make C us [])
    (I2.env0.make C us []) (hb _ (Value.ref (s.heap.objs.size + 1) :: us) I2.kIn hl) r2 hq) fun r s' hq' => ?_))
  cases r with
  | error e => exact hx pins σ _ _ e s' I2 hq'
  | ok fl =>
    cases fl with
    | ret u =>
      obtain ⟨v, H', I3, rv, ev, q3⟩ := I2.after hq'
      subst ev
      exact ⟨rv, ⟨V.ref (s.heap.objs.size + 1), H', I3, rfl, q3⟩⟩
    | next => exact False.elim hq'
    | brk => exact False.elim hq'
    | cont => exact False.elim hq'
theorem pe_make (M : Mk X.K C f) (F : FnOk X.prog X.w X.K X.mg X.base CX k f fd ps sp) (hr : Room (k + 1) X.A) (hg : Gl X x) (hm : X.mg x = some (.ref C)) (hb : Binds X.K fd ps ds) (hd : Vals dvs ds) (hx : Passes CX X E)
    (ha : PA X (e :: es) t) (hdb : (x == ("__debug__" : Str)) = false := by decide) (he : starEach (e :: es) X.env = (false, eval e X.env) :: starEach es X.env := by rfl) (hpl : (backTo pos (starEach es X.env)).any (·.1) = false := by rfl) :
    PE X (.Call (.Name x p) (e :: es) [] pos) (tMake C sp dvs E t) := by
  intro pins s σ H Q I h
  refine wpAny_Call_Name_kw (ld_glob I hg hm ?_ hdb)
  refine PySem.W.callWith_K (h₀ := X.base) I.ok.mod.kin M.kp (thn (ha pos pins s σ H _ I h) fun us s1 ⟨vs, H1, I1, r, q⟩ => ⟨I1.kIn, ?_⟩) he hpl
  exact run_make M F hr hb hd hx I1 r q
theorem pe_make0 (M : Mk X.K C f) (F : FnOk X.prog X.w X.K X.mg X.base CX k f fd ps sp) (hr : Room (k + 1) X.A) (hg : Gl X x) (hm : X.mg x = some (.ref C)) (hb : Binds X.K fd ps ds) (hd : Vals dvs ds) (hx : Passes CX X E)
    (hdb : (x == ("__debug__" : Str)) = false := by decide) : PE X (.Call (.Name x p) [] [] pos) (tMake C sp dvs E tNil) := by
  intro pins s σ H Q I h
  refine wpAny_Call_Name_kw (ld_glob I hg hm ?_ hdb)
  exact PySem.W.callWith_K0 I.kIn M.kp (run_make (us := []) M F hr hb hd hx I .nil h)
end

/-! ### keywords -/
/-- the values of the keywords, from the left -/
def PK (X : Cx) (kws : List Keyword) (t : TA) : Prop :=
  ∀ (pos : Pos) (pins : List (Addr × Obj)) (s : Shared) (σ : St) (H : Hp) (Q : List V → Hp → Prop), Inv X pins σ H s → t σ H Q → wpAny (model X.prog X.w) X.A (evalAll ((backToKw pos (keywordEach kws X.env)).map (·.2))) (AP X pins σ Q) X.xe s
section
variable {X : Cx} {CX : CXT} {k : Nat} {f C : Addr} {fd : FuncData} {ps ks : List Str} {sp : Sp} {E : XK} {x m : Str} {p pos apos kpos : Pos} {e o : Expr} {es : List Expr} {kws : List Keyword} {te ta : TE} {t tk : TA} {nm : Option Str}
theorem pk_nil : PK X [] tNil := fun _ _ _ _ H Q I h => wpAny_evalAll_nil ⟨[], H, I, .nil, h⟩
theorem pk_cons (ha : PE X e te) (hr : PK X kws t) : PK X (⟨nm, e, kpos⟩ :: kws) (tCons te t) := by
  intro pos pins s σ H Q I h
  show wpAny _ _ (evalAll ((do let v ← eval e X.env; standAt pos; pure v) :: (backToKw pos (keywordEach kws X.env)).map (·.2))) _ _ s
  refine wpAny_evalAll_cons (wpAny_bind (thn (ha pins s σ H _ I h) fun u s1 ⟨x, H1, I1, r1, q1⟩ => wpAny_bind (wpAny_standAt (wpAny_pure ?_))))
  exact thn (hr pos pins s1 σ H1 _ I1 q1) fun us s2 ⟨xs, H2, I2, r2, q2⟩ => ⟨x :: xs, H2, I2, .cons r1 r2, q2⟩

/-- how a call with keywords binds: g puts the positional values us and the keywords' values ws (names ks) in the parameters' order, defaults among them -/
structure KBinds (K : PySem.W.Frag) (fd : FuncData) (ps ks : List Str) (g : List Value → List Value → List Value) (gV : List V → List V → List V) : Prop where
  to : ∀ (s : Shared) (us ws : List Value), K.In s.heap → (g us ws).length = ps.length → BindsTo s fd ⟨us, ks.zip ws⟩ (ps.zip (g us ws))
  rel : ∀ {vs : List V} {us : List Value} {zs : List V} {ws : List Value}, Vals vs us → Vals zs ws → Vals (gV vs zs) (g us ws)
def tCallK (sp : Sp) (gV : List V → List V → List V) (E : XK) (t tk : TA) : TE := fun σ H Q => t σ H fun vs H1 => tk σ H1 fun zs H2 => sp (gV vs zs) H2 Q E
variable {g : List Value → List Value → List Value} {gV : List V → List V → List V}
theorem run_fnk {pins : List (Addr × Obj)} {σ : St} {H : Hp} {s : Shared} {Q : VK} {us ws : List Value} {vs zs : List V} (F : FnOk X.prog X.w X.K X.mg X.base CX k f fd ps sp) (hr : Room k X.A) (hb : KBinds X.K fd ps ks g gV) (hx : Passes CX X E)
    (I : Inv X pins σ H s) (r : Vals vs us) (rz : Vals zs ws) (h : sp (gV vs zs) H Q E) : wpAny (model X.prog X.w) X.A (call (.ref f) us (ks.zip ws)) (EP X pins σ Q) X.xe s := by
  have r2 := hb.rel r rz
  have hl : (g us ws).length = ps.length := by rw [← r2.length]; exact F.len _ _ _ _ h
  refine wpAny_call (codeAny_mono (F.run X.A X.stack s H ⟨us, ks.zip ws⟩ (g us ws) (gV vs zs) Q E hr I.env0 (hb.to s us ws I.kIn hl) r2 h) fun r s' hq => ?_)
  cases r with
  | error e => exact hx pins σ H s e s' I hq
  | ok fl =>
    cases fl with
    | ret u => exact I.after hq
    | next => exact False.elim hq
    | brk => exact False.elim hq
    | cont => exact False.elim hq
/-- f(e, .., k = v, ..) -/
theorem pe_callK (F : FnOk X.prog X.w X.K X.mg X.base CX k f fd ps sp) (hr : Room k X.A) (hg : Gl X x) (hm : X.mg x = some (.ref f)) (hk : PySem.W.keepIn X.K (.ref f) = true) (hb : KBinds X.K fd ps ks g gV) (hx : Passes CX X E)
    (ha : PA X (e :: es) t) (hkw : PK X kws tk) (hall : (backToKw pos (keywordEach kws X.env)).all (·.1.isSome) = true := by rfl) (hks : (backToKw pos (keywordEach kws X.env)).filterMap (·.1) = ks := by rfl)
    (hdb : (x == ("__debug__" : Str)) = false := by decide) (he : starEach (e :: es) X.env = (false, eval e X.env) :: starEach es X.env := by rfl)
    (hpl : ((backTo pos (starEach (e :: es) X.env)).any (·.1) || (backToKw pos (keywordEach kws X.env)).any (·.1.isNone)) = false := by rfl) :
    PE X (.Call (.Name x p) (e :: es) kws pos) (tCallK sp gV E t tk) := by
  intro pins s σ H Q I h
  refine wpAny_Call_Name_kw (ld_glob I hg hm ?_ hdb)
  refine PySem.W.callWith_KW (h₀ := X.base) I.ok.mod.kin hk hall (thn (ha pos pins s σ H _ I h) fun us s1 ⟨vs, H1, I1, r, q⟩ => ?_) hpl he
  refine thn (hkw pos pins s1 σ H1 _ I1 q) fun ws s2 ⟨zs, H2, I2, rz, q2⟩ => ⟨I2.kIn, ?_⟩
  rw [hks]
  exact run_fnk F hr hb hx I2 r rz q2
end

/-! ### a def's body keeps its promise -/
/-- names: the parameters first -/
structure FnScope (N P : List Str) (sc : Scope) : Prop where
  kind : sc.kind = .function
  co : sc.isCoroutine = false
  gen : sc.isGenerator = false
  nd : N.Nodup
  pre : N.take P.length = P
  par : ∀ x ∈ P, sc.names.lookup x = some .local ∨ sc.names.lookup x = some .cell
  nofree : ∀ y ∈ sc.names, y.2 ≠ .free

theorem bindL_out {kindOf : Str → Option NameKind} {x : Str} : ∀ {binds : List (Str × Value)} {m : Str → Option Value}, (∀ v, (x, v) ∉ binds) → bindL kindOf binds m x = m x
  | [], _, _ => rfl
  | (n, v) :: r, m, h => by
    unfold bindL
    rw [bindL_out fun w hw => h w (List.mem_cons_of_mem _ hw)]
    split
    · have : x ≠ n := by rintro rfl; exact h v List.mem_cons_self
      simp [this]
    · rfl
theorem bindC_out {kindOf : Str → Option NameKind} {x : Str} : ∀ {binds : List (Str × Value)} {m : Str → Option Value}, (∀ v, (x, v) ∉ binds) → bindC kindOf binds m x = m x
  | [], _, _ => rfl
  | (n, v) :: r, m, h => by
    unfold bindC
    rw [bindC_out fun w hw => h w (List.mem_cons_of_mem _ hw)]
    split
    · rfl
    · have : x ≠ n := by rintro rfl; exact h v List.mem_cons_self
      simp [this]
theorem bindL_get {kindOf : Str → Option NameKind} {x : Str} {v : Value} : ∀ {P : List Str} {vs : List Value} {i : Nat} {m : Str → Option Value}, P.Nodup → P[i]? = some x → vs[i]? = some v → kindOf x = some .local →
    bindL kindOf (P.zip vs) m x = some v
  | [], _, _, _, _, h, _, _ => by simp at h
  | _ :: _, [], _, _, _, _, h, _ => by simp at h
  | p :: P, w :: vs, 0, m, nd, h1, h2, hk => by
    simp at h1 h2; subst h1; subst h2
    show bindL kindOf ((p, w) :: P.zip vs) m p = _
    unfold bindL
    rw [bindL_out fun v hv => (List.nodup_cons.mp nd).1 (List.of_mem_zip hv).1, if_pos hk]
    simp
  | p :: P, w :: vs, i + 1, m, nd, h1, h2, hk => by
    show bindL kindOf ((p, w) :: P.zip vs) m x = _
    unfold bindL
    exact bindL_get (i := i) (List.nodup_cons.mp nd).2 (by simpa using h1) (by simpa using h2) hk
theorem bindC_get {kindOf : Str → Option NameKind} {x : Str} {v : Value} : ∀ {P : List Str} {vs : List Value} {i : Nat} {m : Str → Option Value}, P.Nodup → P[i]? = some x → vs[i]? = some v → kindOf x ≠ some .local →
    bindC kindOf (P.zip vs) m x = some v
  | [], _, _, _, _, h, _, _ => by simp at h
  | _ :: _, [], _, _, _, _, h, _ => by simp at h
  | p :: P, w :: vs, 0, m, nd, h1, h2, hk => by
    simp at h1 h2; subst h1; subst h2
    show bindC kindOf ((p, w) :: P.zip vs) m p = _
    unfold bindC
    rw [bindC_out fun v hv => (List.nodup_cons.mp nd).1 (List.of_mem_zip hv).1, if_neg hk]
    simp
  | p :: P, w :: vs, i + 1, m, nd, h1, h2, hk => by
    show bindC kindOf ((p, w) :: P.zip vs) m x = _
    unfold bindC
    exact bindC_get (i := i) (List.nodup_cons.mp nd).2 (by simpa using h1) (by simpa using h2) hk

/-- the names' values at the entry -/
def start (N : List Str) (vs : List V) : St := vs.map some ++ List.replicate (N.length - vs.length) none

/-- the context of a def's body, at its entry; an exception leaves the frame, then lies as CX says -/
def cxOf (CX : CXT) (P : Program) (w : World) (K : PySem.W.Frag) (mg : Str → Option Value) (base : Heap) (N : List Str) (qual : Str) (scope : Scope) (f : Addr) (cd : Value) (A : Around) (outer : List Env) (s : Shared) (H : Hp) (E : XK) : Cx where
  prog := P
  w := w
  K := K
  mg := mg
  base := base
  A := A.deeper (envOfC qual scope s.heap.objs.size f cd)
  N := N
  s₀ := s
  H₀ := H
  env := envOfC qual scope s.heap.objs.size f cd
  outer := outer
  stack := envOfC qual scope s.heap.objs.size f cd :: outer
  ex := []
  calm := true
  fn := fun _ => true
  pn := []
  xe := fun e s' => wpAny (model P w) (A.deeper (envOfC qual scope s.heap.objs.size f cd)) (leaving (envOfC qual scope s.heap.objs.size f cd) e) (fun _ s'' => CX outer H s E e s'') (fun e' s'' => CX outer H s E e' s'') s'

theorem cell_has {sc : Scope} {n : Nat} {x : Str} (h : sc.names.lookup x = some .cell) : ∃ c, (cellsFrom n sc.names []).lookup x = some c := by
  have q := PySem.W.cellsFrom_some sc.names n [] (.inl h)
  exact Option.isSome_iff_exists.mp q

theorem inv_start {CX : CXT} {P : Program} {w : World} {K : PySem.W.Frag} {mg : Str → Option Value} {base : Heap} {N ps : List Str} {qual : Str} {scope : Scope} {f : Addr} {cd : Value} {A : Around} {outer : List Env} {s s1 : Shared} {H : Hp} {E : XK} {us : List Value} {vs : List V}
    (S : FnScope N ps scope) (hd : A.handled = none) (e0 : Env0 P w K mg base A outer s H) (hl : vs.length = ps.length) (r : Vals vs us)
    (x : InCallC s s.heap.objs.size (bindL (envOfC qual scope s.heap.objs.size f cd).kindOf (ps.zip us) fun _ => none) (cellsFrom (s.heap.objs.size + 1) scope.names []) (bindC (envOfC qual scope s.heap.objs.size f cd).kindOf (ps.zip us) fun _ => none) s1) :
    Inv (cxOf CX P w K mg base N qual scope f cd A outer s H E) [] (start N vs) H s1 := by
  have hpl : ps.length ≤ N.length := by have := congrArg List.length S.pre; rw [List.length_take] at this; omega
  obtain ⟨h1, tk, rfl, hk⟩ := x.done
  have noA : ∀ b : Addr, b ∉ (cxOf CX P w K mg base N qual scope f cd A outer s H E).ex := fun b z => absurd (show b ∈ ([] : List Addr) from z) (by simp)
  refine ⟨⟨e0.mod, S.kind, rfl, rfl, Nat.le_refl _, fun y z c h1 h2 => ?_, fun y hy => ?_, fun y c _ h => ?_, fun _ => hd, Around.frames_deeper e0.frames, .inr ⟨rfl, rfl⟩, fun b z => absurd z (noA b), e0.bs, e0.bsz, fun b _ _ => noA b, fun b z => absurd z (noA b), e0.funs, e0.frf⟩,
    rfl, e0.bare, Un.kept hk, ⟨_, x.toInCall.ns, fun i y v h1 h2 h3 => ?_⟩, fun y c h => ⟨_, x.cell y c h⟩, e0.hok.fresh (Nat.le_refl _), fun y c h => ?_, fun p hp => absurd (show p ∈ ([] : List (Addr × Obj)) from hp) (by simp), e0.hok.kept hk, ?_⟩
  · exact name_of_addr x.apart (PySem.mem_of_lookup h1) (PySem.mem_of_lookup h2)
  · have hy : scope.names.lookup y = some .cell ∨ scope.names.lookup y = some .free := hy
    rcases hy with hy | hy
    · exact cell_has hy
    · exact absurd rfl (S.nofree _ (PySem.mem_of_lookup hy))
  · exact Nat.le_of_lt (x.above y c (PySem.mem_of_lookup h))
  · have hi : i < vs.length := by
      unfold start at h2
      by_cases hi : i < vs.length
      · exact hi
      · rw [List.getElem?_append_right (by simpa using hi)] at h2
        rw [List.getElem?_replicate] at h2
        split at h2 <;> cases h2
    have ha : vs[i]? = some v := by
      unfold start at h2
      rw [List.getElem?_append_left (by simpa using hi), List.getElem?_map] at h2
      cases e : vs[i]? with
      | none => rw [e] at h2; cases h2
      | some a => rw [e] at h2; cases h2; rfl
    obtain ⟨u, hu, rv⟩ := r.get ha
    have hp : ps[i]? = some y := by
      rw [← S.pre, List.getElem?_take_of_lt (by omega)]; exact h1
    have ndP : ps.Nodup := by rw [← S.pre]; exact S.nd.sublist (List.take_sublist _ _)
    refine ⟨u, rv, ?_⟩
    rcases S.par y (List.mem_of_getElem? hp) with k | k
    · exact .inl ⟨k, bindL_get ndP hp hu k⟩
    · obtain ⟨c, e⟩ := cell_has (n := s.heap.objs.size + 1) k
      refine .inr ⟨.inl k, c, e, ?_⟩
      have q := x.cell y c e
      rw [bindC_get ndP hp hu (by show scope.names.lookup y ≠ _; rw [k]; decide)] at q
      exact q
  · exact e0.hok.fresh (Nat.le_of_lt (x.above y c (PySem.mem_of_lookup h)))
  · unfold start
    show _ = N.length
    rw [List.length_append, List.length_map, List.length_replicate]
    omega

/-- THE RULE: a def (or a method) of the text, by its body. The body's reading t is chosen for each entry; it is run at the parameters' values -/
theorem fn_of {CX : CXT} {P : Program} {w : World} {K : PySem.W.Frag} {mg : Str → Option Value} {base : Heap} {k : Nat} {f : Addr} {name qual : Str} {params : Arguments} {body : List Stmt} {scope : Scope} {dV kV doc pm cdv ct oc : Value} {an od : Option Addr}
    {osl : Array (Option Value)} {N ps : List Str} {sp : Sp} (lk : K.lookup f = some ⟨oc, od, .func (PySem.W.fnOf name qual params body scope dV kV doc pm an cdv ct), osl⟩) (hcd : PySem.W.codeIn K cdv qual = true) (S : FnScope N ps scope)
    (len : ∀ vs H Q E, sp vs H Q E → vs.length = ps.length)
    (hbody : ∀ (A : Around) (outer : List Env) (s : Shared) (H : Hp) (vs : List V) (Q : VK) (E : XK), Room k (A.deeper (envOfC qual scope s.heap.objs.size f cdv)) → sp vs H Q E →
      ∃ t, PSs (cxOf CX P w K mg base N qual scope f cdv A outer s H E) body t ∧ t { nx := fun _ H' => Q .non H', rt := Q } (start N vs) H) :
    FnOk P w K mg base CX (k + 1) f (PySem.W.fnOf name qual params body scope dV kV doc pm an cdv ct) ps sp := by
  refine ⟨len, fun A outer s H args us vs Q E hr e0 hb r hsp => ?_⟩
  have hl := len _ _ _ _ hsp
  have KX : K.In s.heap := e0.mod.kin.keeps fun b o e => (e0.bs b o e).1
  have lim : s.heap.NoLimit := e0.mod.nolimit.keeps fun b o e => (e0.bs b o e).1
  have hkind : ∀ y ∈ ps.zip us, scope.names.lookup y.1 = some .local ∨ (scope.names.lookup y.1 = some .cell ∧ ((cellsFrom (s.heap.objs.size + 1) scope.names []).lookup y.1).isSome = true) := fun ⟨n, v⟩ hy => by
    rcases S.par n (List.of_mem_zip hy).1 with q | q
    · exact .inl q
    · exact .inr ⟨q, PySem.W.cellsFrom_some _ _ _ (.inl q)⟩
  refine codeAny_call_function hr.depth (KX _ _ lk) rfl S.co S.gen rfl (PySem.W.codeRec_of KX hcd) (hb _ _ _ _ ?_)
  refine wpAny_newFunctionEnv_cells S.kind hkind fun env he s1 x => ?_
  subst he
  refine ⟨lim.keeps x.toInCall.keep, codeAny_func ?_⟩
  obtain ⟨t, ht, hq⟩ := hbody A outer s H vs Q E (hr.deeper _) hsp
  have I : Inv (cxOf CX P w K mg base N qual scope f cdv A outer s H E) [] (start N vs) H s1 := inv_start S hr.hd e0 hl r x
  refine wpAny_mono (ht [] s1 (start N vs) H _ I hq) (fun fl s' hs => ?_) fun e s' hs => hs
  have fin : ∀ {σ' : St} {H' : Hp} {v : V} {u : Value}, Inv (cxOf CX P w K mg base N qual scope f cdv A outer s H E) [] σ' H' s' → RelV v u → Q v H' → CE outer P w H s Q u s' :=
    fun {σ' H' v u} J rv q => ⟨v, H', J.os, J.bare, J.base, J.hok, rv, q⟩
  cases fl with
  | ret u =>
    obtain ⟨v, σ', H', J, rv, q⟩ := hs
    exact fin J rv q
  | next =>
    obtain ⟨σ', H', J, q⟩ := hs
    exact fin (v := V.non) (u := Value.none) J rfl q
  | brk =>
    obtain ⟨_, _, _, q⟩ := hs
    exact False.elim q
  | cont =>
    obtain ⟨_, _, _, q⟩ := hs
    exact False.elim q
end L2

namespace L2
open PySem PySem.Spec PyProof.Rows
section
variable {X : Cx} {x : Str} {p pos : Pos} {e : Expr} {es : List Expr} {t : TA} {id T : String} {r : List V → Hp → VK → Prop}

def tCB (r : List V → Hp → VK → Prop) (t : TA) : TE := fun σ H Q => t σ H fun vs H1 => r vs H1 Q
/-- f(e, ..), f a built-in function -/
theorem pe_callB (hc : CallR X (.builtin id) r) (hg : Gl X x) (hm : X.mg x = none) (hv : bootBuiltins x = some (.builtin id)) (ha : PA X (e :: es) t) (hn : x ≠ "__name__" := by decide) (hdb : (x == ("__debug__" : Str)) = false := by decide)
    (he : starEach (e :: es) X.env = (false, eval e X.env) :: starEach es X.env := by rfl) (hpl : (backTo pos (starEach es X.env)).any (·.1) = false := by rfl) : PE X (.Call (.Name x p) (e :: es) [] pos) (tCB r t) := by
  intro pins s σ H Q I h
  refine wpAny_Call_Name_kw (ld_blt I hg hm hv ?_ hn hdb)
  exact PyProof.Rows.callWith_builtin1 (thn (ha pos pins s σ H _ I h) fun us s1 ⟨vs, H1, I1, r1, q1⟩ => hc pins s1 σ H1 vs us Q I1 r1 q1) he hpl
/-- T(e, ..), T a built-in type -/
theorem pe_callTy (hc : CallR X (.type T) r) (hg : Gl X x) (hm : X.mg x = none) (hv : bootBuiltins x = some (.type T)) (ha : PA X (e :: es) t) (hn : x ≠ "__name__" := by decide) (hdb : (x == ("__debug__" : Str)) = false := by decide)
    (he : starEach (e :: es) X.env = (false, eval e X.env) :: starEach es X.env := by rfl) (hpl : (backTo pos (starEach es X.env)).any (·.1) = false := by rfl) : PE X (.Call (.Name x p) (e :: es) [] pos) (tCB r t) := by
  intro pins s σ H Q I h
  refine wpAny_Call_Name_kw (ld_blt I hg hm hv ?_ hn hdb)
  exact PyProof.Rows.callWith_type1 (thn (ha pos pins s σ H _ I h) fun us s1 ⟨vs, H1, I1, r1, q1⟩ => hc pins s1 σ H1 vs us Q I1 r1 q1) he hpl
/-- T() -/
theorem pe_callTy0 (hc : CallR X (.type T) r) (hg : Gl X x) (hm : X.mg x = none) (hv : bootBuiltins x = some (.type T)) (hn : x ≠ "__name__" := by decide) (hdb : (x == ("__debug__" : Str)) = false := by decide) :
    PE X (.Call (.Name x p) [] [] pos) (tCB r tNil) := by
  intro pins s σ H Q I h
  refine wpAny_Call_Name_kw (ld_blt I hg hm hv ?_ hn hdb)
  exact PyProof.Rows.callWith_type0 (hc pins s σ H [] [] Q I .nil h)
end
end L2

namespace HT
open PySem PyProof.Rows

/-- t < u of tuples of ints -/
def lexLt : List Int → List Int → Bool
  | [], [] => false
  | [], _ :: _ => true
  | _ :: _, [] => false
  | x :: xs, y :: ys => if x = y then lexLt xs ys else decide (x < y)
theorem lexLt_cons (x y : Int) (xs ys : List Int) : lexLt (x :: xs) (y :: ys) = if x = y then lexLt xs ys else decide (x < y) := rfl
theorem lexLt_nil_nil : lexLt [] [] = false := rfl
theorem lexLt_nil_cons (y : Int) (ys : List Int) : lexLt [] (y :: ys) = true := rfl
theorem lexLt_cons_nil (x : Int) (xs : List Int) : lexLt (x :: xs) [] = false := rfl

theorem eqAt_int (A : Around) (s : Shared) (a : Int) (t : Tok) (c : Int) (u : Tok) : ∃ e, SeqAt.EqAt A s (.int a t) (.int c u) e ∧ (e = true ↔ a = c) :=
  ⟨(a == c), SeqAt.EqAt.int_int a t c u, by simp⟩
theorem rcLt_int (A : Around) (s : Shared) (a : Int) (t : Tok) (c : Int) (u : Tok) (prog : Program) (w : World) (E : Value → Shared → Prop) (Q : Value → Shared → Prop) (h : Q (.bool (decide (a < c))) s) :
    wpAny (model prog w) A (richCompare .Lt (.int a t) (.int c u)) Q E s :=
  (PyProof.Rows.lt_int h : wpAny (model prog w) A (compareOp .Lt (.int a t) (.int c u)) Q E s)

section
open PySem.SeqAt
open PySem.AutoSeq1 (wpAny_loadPart')
open PySem.MeetsSeq PySem.MeetsSeq2 PySem.MeetsSeq3

theorem tuple_lt_ints (l b : Addr) (items items2 : Array Value) (n n2 : Nat) (dd dd2 : Option Addr) (sl sl2 : Array (Option Value)) (ns ms : List Int) (hi : IntsAre items.toList ns) (hj : IntsAre items2.toList ms) :
    Meets (Builtin.«tuple.__lt__» ⟨[.ref l, .ref b], []⟩)
      (fun _ R s => s.heap.get? l = some { cls := .type "tuple", dict := dd, data := .seq items n, slots := sl } ∧ s.heap.get? b = some { cls := .type "tuple", dict := dd2, data := .seq items2 n2, slots := sl2 } ∧
        R (.ok (.ret (.bool (lexLt ns ms)))) s) :=
  .of_wp fun prog w A R s h => by
    obtain ⟨hp, g, d, tk, os⟩ := s; obtain ⟨hl, hb, h⟩ := h
    have f2 := AutoSeq1.sub_tuple_tuple
    have z1 : items.size = ns.length := by rw [← hi.length]; simp
    have z2 : items2.size = ms.length := by rw [← hj.length]; simp
    wp_walk using wpAny_loadPart' hl, wpAny_loadPart' hb, wpAny_forIn_list _ (fun rest b s' => b.1 = none ∧ s' = ⟨hp, g, d, tk, os⟩ ∧ ∃ (vs ws : List Value) (ns' ms' : List Int), rest = vs.zip ws ∧
      IntsAre vs ns' ∧ IntsAre ws ms' ∧ ns'.length + items2.size = ms'.length + items.size ∧ R (.ok (.ret (.bool (lexLt ns' ms')))) ⟨hp, g, d, tk, os⟩) _
    case turn =>
      rintro ⟨y, x⟩ rest b s' ⟨hb', rfl, vs, ws, ns', ms', hz, hvi, hwi, hlen, hR⟩
      cases hvi with
      | nil => rw [List.zip_nil_left] at hz; cases hz
      | cons a t hvi' =>
        cases hwi with
        | nil => rw [List.zip_nil_right] at hz; cases hz
        | cons c u hwi' =>
          rw [List.zip_cons_cons] at hz
          injection hz with hyx hrest
          injection hyx with hy hx
          subst hy hx
          rw [lexLt_cons] at hR
          simp only [List.length_cons] at hlen
          obtain ⟨e, he, hiff⟩ := eqAt_int A.in1 ⟨hp, g, d, tk, os⟩ a t c u
          refine wpAny_bind (he prog w _ _ ?_)
          cases e with
          | true =>
            rw [if_pos (hiff.mp rfl)] at hR
            wp_walk
            exact ⟨rfl, rfl, _, _, _, _, hrest, hvi', hwi', by omega, hR⟩
          | false =>
            rw [if_neg (fun q => absurd (hiff.mpr q) Bool.false_ne_true)] at hR
            have hri := rcLt_int A.in1 ⟨hp, g, d, tk, os⟩ a t c u prog w
            wp_walk using hri
            exact ⟨_, rfl, by simpa using hR⟩
    case fin =>
      rintro ⟨b1, b2⟩ s' ⟨hb', rfl, vs, ws, ns', ms', hz, hvi, hwi, hlen, hR⟩
      simp only at hb'
      subst hb'
      have hv : lexLt ns' ms' = decide (items.size < items2.size) := by
        cases hvi with
        | nil =>
          cases hwi with
          | nil =>
            simp only [List.length_nil] at hlen
            rw [lexLt_nil_nil]
            exact (decide_eq_false (by omega)).symm
          | cons c u hw =>
            simp only [List.length_nil, List.length_cons] at hlen
            rw [lexLt_nil_cons]
            exact (decide_eq_true (by omega)).symm
        | cons a t hv =>
          cases hwi with
          | nil =>
            simp only [List.length_nil, List.length_cons] at hlen
            rw [lexLt_cons_nil]
            exact (decide_eq_false (by omega)).symm
          | cons c u hw =>
            rw [List.zip_cons_cons] at hz
            cases hz
      rw [hv] at hR
      wp_walk
      exact ⟨_, rfl, by simpa [Builtin.Tuple.tupleCompareSizes] using hR⟩
    case h =>
      exact ⟨rfl, rfl, items.toList, items2.toList, ns, ms, rfl, hi, hj, by omega, h⟩
end

section
variable {prog : Program} {w : World} {A : Around} {E : Value → Shared → Prop} {s : Shared}

theorem lt_tupInts {l b : Addr} {items items2 : Array Value} {ns ms : List Int} {Q : Value → Shared → Prop} (hl : IsTup s.heap l items) (hb : IsTup s.heap b items2) (hi : IntsAre items.toList ns) (hj : IntsAre items2.toList ms)
    (hu : A.units < cLine) (h : Q (.bool (lexLt ns ms)) s) : wpAny (model prog w) A (compareOp .Lt (.ref l) (.ref b)) Q E s := by
  obtain ⟨⟨cls, dd, data, sl⟩, ho, hc, n, hd⟩ := id hl
  obtain ⟨⟨cls2, dd2, data2, sl2⟩, ho2, hc2, n2, hd2⟩ := id hb
  simp only at hc hd hc2 hd2
  subst hc hd hc2 hd2
  exact richCompare_meets_room (op := .Lt) ⟨_, ho, rfl⟩ ⟨_, ho2, rfl⟩ PySem.F.slot_tuple_lt PySem.F.entry_tuple_lt (PySem.F.args_tuple_lt_2 _ _) (tuple_lt_ints l b items items2 n n2 dd dd2 sl sl2 ns ms hi hj)
    ⟨ho, ho2, show Value.bool (lexLt ns ms) ≠ Value.notImplemented ∧ Q (.bool (lexLt ns ms)) s from ⟨(fun x => nomatch x), h⟩⟩ hu

/-- t + u, t not empty -/
theorem cat_tup {t b : Addr} {vs ws : List Value} {Q : Value → Shared → Prop} (ht : IsTup s.heap t vs.toArray) (hb : IsTup s.heap b ws.toArray) (hv : vs ≠ [])
    (h1 : ws = [] → Q (.ref t) s) (h2 : ws ≠ [] → Q (.ref s.heap.objs.size) { s with heap := s.heap.push { cls := .type "tuple", data := .seq (vs ++ ws).toArray } })
    (hsz : vs.length + ws.length ≤ sizeLine) : wpAny (model prog w) A (binaryOp .Add (.ref t) (.ref b)) Q E s := by
  obtain ⟨⟨cls, dd, data, sl⟩, ho, hc, n, hd⟩ := id ht
  obtain ⟨⟨cls2, dd2, data2, sl2⟩, ho2, hc2, n2, hd2⟩ := id hb
  simp only at hc hd hc2 hd2
  subst hc hd hc2 hd2
  have e : vs.toArray ++ ws.toArray = (vs ++ ws).toArray := by simp
  by_cases hw : ws = []
  · exact concat_meets ⟨_, ho, rfl⟩ ⟨_, ho2, rfl⟩ noFill_tuple_add seq_tuple_add PySem.F.slot_tuple_add PySem.F.entry_tuple_add (PySem.F.args_tuple_add_2 _ _)
      (tuple_addW1 t b vs.toArray ws.toArray n n2 dd dd2 sl sl2 (by simpa using hv) (by simp [hw])) ⟨ho, ho2, h1 hw⟩
  · refine concat_meets ⟨_, ho, rfl⟩ ⟨_, ho2, rfl⟩ noFill_tuple_add seq_tuple_add PySem.F.slot_tuple_add PySem.F.entry_tuple_add (PySem.F.args_tuple_add_2 _ _)
      (tuple_addW2 t b vs.toArray ws.toArray n n2 dd dd2 sl sl2 (by simpa using hv) (by simpa using hw) (by rw [List.size_toArray, List.size_toArray]; exact hsz)) ⟨ho, ho2, ?_⟩
    rw [e]
    exact h2 hw

/-! ### t[a:b], not the whole -/
/-- a slice's bound as a place among n (d where it is left out) -/
def sIx (n d : Nat) : Option Int → Nat
  | none => d
  | some v => if v < 0 then (v + (n : Int)).toNat else min v.toNat n
theorem sIx_none (n d : Nat) : sIx n d none = d := rfl
theorem sIx_nat (n d k : Nat) : sIx n d (some (k : Int)) = min k n := by
  show (if (k : Int) < 0 then ((k : Int) + (n : Int)).toNat else min (k : Int).toNat n) = min k n
  rw [if_neg (by omega), Int.toNat_natCast]
theorem sIx_le (n d : Nat) (hd : d ≤ n) (o : Option Int) : sIx n d o ≤ n := by
  cases o with
  | none => exact hd
  | some v =>
    show (if v < 0 then (v + (n : Int)).toNat else min v.toNat n) ≤ n
    by_cases hv : v < 0
    · rw [if_pos hv]; omega
    · rw [if_neg hv]; exact Nat.min_le_right _ _
theorem clip_eq (v : Int) (n d : Nat) : (if v < 0 then max (v + (n : Int)) 0 else min v (n : Int)) = ((sIx n d (some v) : Nat) : Int) := by
  show (if v < 0 then max (v + (n : Int)) 0 else min v (n : Int)) = (((if v < 0 then (v + (n : Int)).toNat else min v.toNat n) : Nat) : Int)
  by_cases hv : v < 0
  · simp only [if_pos hv]; omega
  · simp only [if_neg hv]; omega
theorem adjust_gen (lo hi : Option Int) (n : Nat) : Builtin.Slice.sliceAdjust lo hi 1 (n : Int) = (((sIx n 0 lo : Nat) : Int), ((sIx n n hi : Nat) : Int)) := by
  have h1 : ¬ ((1 : Int) < 0) := by omega
  unfold Builtin.Slice.sliceAdjust
  simp only [h1, if_false]
  refine Prod.ext ?_ ?_
  · cases lo with
    | none => rfl
    | some v => exact clip_eq v n 0
  · cases hi with
    | none => rfl
    | some v => exact clip_eq v n n
theorem places_gen (i j : Nat) : Builtin.Slice.slicePlaces (i : Int) (j : Int) 1 = j - i := by
  unfold Builtin.Slice.slicePlaces
  have h1 : (1 : Int) > 0 := by omega
  simp only [h1, if_true, Int.ediv_one]
  split <;> omega
theorem slicePart_ {v : Value} {o : Option Int} {Q : Option Int → Shared → Prop} (p : IsPart v o) (h : Q o s) : wpAny (model prog w) A (Builtin.Slice.slicePartIndex v) Q E s := by
  cases p with
  | none => exact slicePart_none h
  | int i t => exact slicePart_int h
theorem sliceApplied_gen {sl : Addr} {vl vu : Value} {lo hi : Option Int} {n : Nat} {Q : Int × Int × Nat → Shared → Prop} (hs : s.heap.IsSliceOf sl vl vu .none) (pl : IsPart vl lo) (pu : IsPart vu hi)
    (h : Q (((sIx n 0 lo : Nat) : Int), 1, sIx n n hi - sIx n 0 lo) s) : wpAny (model prog w) A (Builtin.Slice.sliceApplied (.ref sl) (pure (n : Int))) Q E s := by
  obtain ⟨os, hos, hcs, hds⟩ := id hs
  unfold Builtin.Slice.sliceApplied Builtin.Slice.sliceFields
  refine wpAny_bind (wpAny_bind (wpAny_field hos hds (x := vl) rfl (wpAny_bind (wpAny_field hos hds (x := vu) rfl (wpAny_bind (wpAny_field hos hds (x := .none) rfl (wpAny_pure ?_)))))))
  refine wpAny_bind (slicePart_none ?_)
  show wpAny _ _ (if ((1 : Int) == 0) = true then _ else _) _ _ s
  rw [if_neg (by decide)]
  refine wpAny_bind (slicePart_ pl (wpAny_bind (slicePart_ pu (wpAny_bind (wpAny_pure ?_)))))
  show wpAny _ _ (match Builtin.Slice.sliceAdjust lo hi 1 (n : Int) with | (lo, hi) => pure (lo, (1 : Int), Builtin.Slice.slicePlaces lo hi 1)) _ _ s
  rw [adjust_gen lo hi n]
  show wpAny _ _ (pure (((sIx n 0 lo : Nat) : Int), (1 : Int), Builtin.Slice.slicePlaces ((sIx n 0 lo : Nat) : Int) ((sIx n n hi : Nat) : Int) 1)) _ _ s
  rw [places_gen]
  exact wpAny_pure h
theorem pick_gen (xs : Array Value) (i k : Nat) : ((List.range k).filterMap fun (m : Nat) => xs[((i : Int) + (m : Int) * 1).toNat]?).toArray = ((xs.toList.drop i).take k).toArray := by
  have e : (fun (m : Nat) => xs[((i : Int) + (m : Int) * 1).toNat]?) = fun m => xs[i + m]? := by
    funext m
    have : ((i : Int) + (m : Int) * 1).toNat = i + m := by omega
    rw [this]
  rw [e]
  have := pick_run xs i k
  rw [List.filterMap_map] at this
  have e2 : ((fun x => xs[x]?) ∘ fun x => i + x) = fun m => xs[i + m]? := rfl
  rw [e2] at this
  rw [this]

theorem getItem_tuple_cut {t sl : Addr} {items : Array Value} {vl vu : Value} {lo hi : Option Int} {Q : Value → Shared → Prop} (ht : IsTup s.heap t items) (hs : s.heap.IsSliceOf sl vl vu .none) (pl : IsPart vl lo) (pu : IsPart vu hi)
    (hw : ¬ (sIx items.size 0 lo = 0 ∧ sIx items.size items.size hi = items.size))
    (h : Q (.ref s.heap.objs.size) { s with heap := s.heap.push { cls := .type "tuple", data := .seq ((items.toList.drop (sIx items.size 0 lo)).take (sIx items.size items.size hi - sIx items.size 0 lo)).toArray } })
    (hsz : items.size ≤ sizeLine) : wpAny (model prog w) A (getItem (.ref t) (.ref sl)) Q E s := by
  have htake : sizeOk (.seq ((items.toList.drop (sIx items.size 0 lo)).take (sIx items.size items.size hi - sIx items.size 0 lo)).toArray) := by
    show ((items.toList.drop (sIx items.size 0 lo)).take (sIx items.size items.size hi - sIx items.size 0 lo)).toArray.size ≤ sizeLine
    rw [List.size_toArray, List.length_take, List.length_drop, Array.length_toList]
    omega
  have hj : sIx items.size items.size hi ≤ items.size := sIx_le _ _ (Nat.le_refl _) hi
  obtain ⟨os, hos, hcs, hds⟩ := id hs
  have hTs : s.TypeIs (.ref sl) "slice" := ⟨os, hos, hcs⟩
  unfold getItem
  try with_reducible refine wpAny_holding ?_
  first | refine wpAny_bind (wpAny_pure ?_) | skip
  refine wpAny_bind (wpAny_sequenceKey ht.typeIs (by decide) ?_)
  refine wpAny_bind (wpAny_callSpecial?_slot (name := Str.ofString "__getitem__") ht.typeIs PyProof.Rows.slot_tuple_getitem
    (wpAny_call_entry PyProof.Rows.slot_tuple_getitem ht.typeIs entry_tuple_getitem ?_ (args_tuple_getitem _ _)))
  show wpAny _ _ (Builtin.Tuple.tupleItemsOf (.ref t) >>= _) _ _ s
  refine wpAny_bind (tupleItemsOf_ ht ?_)
  refine wpAny_bind (wpAny_typeOf hTs ?_)
  rw [if_pos (by decide)]
  refine wpAny_bind (sliceApplied_gen hs pl pu ?_)
  have hno : ¬ ((((sIx items.size 0 lo : Nat) : Int) == 0 && (1 : Int) == 1 && (sIx items.size items.size hi - sIx items.size 0 lo) == items.size) = true) := by
    intro q
    rw [Bool.and_eq_true, Bool.and_eq_true] at q
    have q1 : ((sIx items.size 0 lo : Nat) : Int) = 0 := eq_of_beq q.1.1
    have q2 : sIx items.size items.size hi - sIx items.size 0 lo = items.size := eq_of_beq q.2
    exact hw ⟨by omega, by omega⟩
  show wpAny _ _ (if (((sIx items.size 0 lo : Nat) : Int) == 0 && (1 : Int) == 1 && (sIx items.size items.size hi - sIx items.size 0 lo) == items.size) = true then _ else _) _ _ s
  rw [if_neg hno, pick_gen]
  first
    | exact wpAny_bind (m := Builtin.Tuple.tupleExact _) (wpAny_newObj_type (wpAny_pure ⟨_, rfl, wpAny_pure h⟩) htake)
    | exact wpAny_bind (m := Builtin.Tuple.tupleExact _) (wpAny_newObj_type (wpAny_bind (wpAny_pure (wpAny_pure ⟨_, rfl, wpAny_pure h⟩))) htake)
    | exact wpAny_bind (wpAny_bind (m := Builtin.Tuple.tupleExact _) (wpAny_newObj_type (wpAny_pure (wpAny_pure ⟨_, rfl, wpAny_pure h⟩)) htake))
    | exact wpAny_bind (wpAny_bind (m := Builtin.Tuple.tupleExact _) (wpAny_newObj_type (wpAny_pure ⟨_, rfl, wpAny_pure h⟩) htake))
end
end HT

namespace L2
open PySem PySem.Spec PyProof.Rows

/-! ### the parts of a slice -/
abbrev TO := St → Hp → (Option Int → Hp → Prop) → Prop
/-- a slice's part (left out, or an int) -/
def PO (X : Cx) (e : Option Expr) (t : TO) : Prop :=
  ∀ (pins : List (Addr × Obj)) (s : Shared) (σ : St) (H : Hp) (Q : Option Int → Hp → Prop), Inv X pins σ H s → t σ H Q →
    wpAny (model X.prog X.w) X.A (evalPart e X.env) (fun u s' => ∃ o H', Inv X pins σ H' s' ∧ IsPart u o ∧ Q o H') X.xe s
def tNoPart : TO := fun _ H Q => Q none H
def tPart (t : TE) : TO := fun σ H Q => t σ H fun x H1 => ∃ i, x = .int i ∧ Q (some i) H1

theorem intsAre_of {ns : List Int} : ∀ {us : List Value}, Vals (ns.map V.int) us → IntsAre us ns := by
  induction ns with
  | nil => intro us r; rw [List.map_nil] at r; cases r; exact .nil
  | cons n ns ih =>
    intro us r
    rw [List.map_cons] at r
    cases r with
    | cons r1 r2 =>
      obtain ⟨t, e⟩ := r1
      subst e
      exact .cons n t (ih r2)

section
variable {X : Cx} {e : Expr} {te : TE} {lo hi : Option Expr} {tl th : TO} {pos p2 : Pos}

theorem po_none : PO X none tNoPart := by
  intro pins s σ H Q I h
  rw [evalPart_none]
  exact wpAny_pure ⟨none, H, I, .none, h⟩
theorem po_some (h : PE X e te) : PO X (some e) (tPart te) := by
  intro pins s σ H Q I hw
  rw [evalPart_some]
  refine thn (h pins s σ H _ I hw) fun u s1 ⟨x, H1, I1, r1, q1⟩ => ?_
  obtain ⟨i, rfl, q⟩ := q1
  obtain ⟨t, rfl⟩ := r1
  exact ⟨some i, H1, I1, .int i t, q⟩

/-- what a slice of a value is, by values: the slice object stands at sl -/
def SlR (X : Cx) (r : V → Option Int → Option Int → Hp → VK → Prop) : Prop :=
  ∀ (pins : List (Addr × Obj)) (s : Shared) (σ : St) (H : Hp) (x : V) (v vl vu : Value) (lo hi : Option Int) (sl : Addr) (Q : VK), Inv X pins σ H s → RelV x v → s.heap.IsSliceOf sl vl vu .none → IsPart vl lo → IsPart vu hi → r x lo hi H Q →
    ∃ T id, typeLookup (.type T) "__getitem__" = pure (some (.builtin id)) ∧ s.TypeIs v T ∧ wpAny (model X.prog X.w) X.A (getItem v (.ref sl)) (EP X pins σ Q) X.xe s
theorem SlR.or {r r' : V → Option Int → Option Int → Hp → VK → Prop} (h : SlR X r) (h' : SlR X r') : SlR X (fun x lo hi H Q => r x lo hi H Q ∨ r' x lo hi H Q) := by
  intro pins s σ H x v vl vu lo hi sl Q I rx hs pl pu q
  rcases q with q | q
  · exact h pins s σ H x v vl vu lo hi sl Q I rx hs pl pu q
  · exact h' pins s σ H x v vl vu lo hi sl Q I rx hs pl pu q
def tSl (r : V → Option Int → Option Int → Hp → VK → Prop) (te : TE) (tl th : TO) : TE := fun σ H Q => te σ H fun x H1 => tl σ H1 fun l H2 => th σ H2 fun u H3 => r x l u H3 Q
/-- a[lo:hi], any a -/
theorem pe_slice {r : V → Option Int → Option Int → Hp → VK → Prop} (hr : SlR X r) (he : PE X e te) (hl : PO X lo tl) (hu : PO X hi th) : PE X (.Subscript e (.Slice lo hi none p2) pos) (tSl r te tl th) := by
  intro pins s σ H Q I h
  refine Subscript_ (thn (he pins s σ H _ I h) fun v s1 ⟨x, H1, I1, r1, q1⟩ => ?_)
  refine wpAny_Slice (thn (hl pins s1 σ H1 _ I1 q1) fun vl s2 ⟨l, H2, I2, pl, q2⟩ => thn (hu pins s2 σ H2 _ I2 q2) fun vu s3 ⟨u, H3, I3, pu, q3⟩ => ?_)
  rw [evalPart_none]
  refine wpAny_pure ?_
  have I4 : Inv X pins σ H3 { s3 with heap := s3.heap.push { cls := .type "slice", data := .fields #[vl, vu, .none] } } := I3.kept (t' := s3.toks) fun b ob q => Heap.get?_push_of_some _ q
  obtain ⟨T, id, hT, ht, hg⟩ := hr pins { s3 with heap := s3.heap.push { cls := .type "slice", data := .fields #[vl, vu, .none] } } σ H3 x v vl vu l u s3.heap.objs.size Q I4 r1 (Heap.IsSliceOf.new ..) pl pu q3
  show wpAny (model X.prog X.w) X.A (subscriptTail e (.Slice lo hi none p2) v (.ref s3.heap.objs.size)) (EP X pins σ Q) X.xe { s3 with heap := s3.heap.push { cls := .type "slice", data := .fields #[vl, vu, .none] } }
  exact tail_any (ops := [.ref s3.heap.objs.size, v]) ht hT hg (by with_unfolding_all rfl)

/-- the items of xs[lo:hi] -/
def cutV (xs : List V) (lo hi : Option Int) : List V := (xs.drop (HT.sIx xs.length 0 lo)).take (HT.sIx xs.length xs.length hi - HT.sIx xs.length 0 lo)
theorem cutV_length (xs : List V) (lo hi : Option Int) : (cutV xs lo hi).length ≤ xs.length := by
  unfold cutV
  rw [List.length_take, List.length_drop]
  omega
/-- t[lo:hi], not the whole of it (the whole would be t itself) -/
def rSlT (K : PySem.W.Frag) : V → Option Int → Option Int → Hp → VK → Prop := fun x lo hi H Q => ∃ a xs, x = .ref a ∧ SqT K H a xs ∧
  ¬ (HT.sIx xs.length 0 lo = 0 ∧ HT.sIx xs.length xs.length hi = xs.length) ∧ ∀ p, H p = none → Q (.ref p) (upd H p (.tup (cutV xs lo hi)))
theorem sl_tup : SlR X (rSlT X.K) := by
  intro pins s σ H x v vl vu lo hi sl Q I rx hs pl pu h
  obtain ⟨a, xs, rfl, hx, hw, q⟩ := h
  cases rx
  obtain ⟨its, r, ht, hz⟩ := I.tuple hx
  have hlen : its.toArray.size = xs.length := by rw [List.size_toArray]; exact r.length.symm
  refine ⟨"tuple", _, PyProof.Rows.slot_tuple_getitem.lookup, ht.typeIs, ?_⟩
  refine HT.getItem_tuple_cut ht hs pl pu (by rw [hlen]; exact hw) ?_ (by rw [hlen]; exact hz)
  rw [hlen]
  refine ⟨.ref s.heap.objs.size, _, I.laid (t' := s.toks) (o := .tup (cutV xs lo hi)) (fun b ob q => Heap.get?_push_of_some _ q) (Nat.le_refl _) ?_, rfl, q _ (I.hok.fresh (Nat.le_refl _))⟩
  exact ⟨Nat.le_trans (cutV_length xs lo hi) hz, _, (r.drop (HT.sIx xs.length 0 lo)).take (HT.sIx xs.length xs.length hi - HT.sIx xs.length 0 lo), IsTup.new _ _⟩

/-! ### t < u, t + u -/
def rLtT (K : PySem.W.Frag) : R2 := fun x y H Q => ∃ a b ns ms, x = .ref a ∧ y = .ref b ∧ SqT K H a (ns.map V.int) ∧ SqT K H b (ms.map V.int) ∧ Q (.bl (HT.lexLt ns ms)) H
theorem op_ltT (hu : X.A.units < cLine) : OpR X (compareOp .Lt) (rLtT X.K) := by
  intro pins s σ H x y v u Q I rx ry h
  obtain ⟨a, b, ns, ms, rfl, rfl, ha, hb, q⟩ := h
  cases rx
  cases ry
  obtain ⟨its, r1, p1, _⟩ := I.tuple ha
  obtain ⟨its2, r2, p2, _⟩ := I.tuple hb
  have i1 : IntsAre its.toArray.toList ns := intsAre_of r1
  have i2 : IntsAre its2.toArray.toList ms := intsAre_of r2
  exact HT.lt_tupInts p1 p2 i1 i2 hu ⟨.bl (HT.lexLt ns ms), H, I, rfl, q⟩
/-- t + u, t not empty: u empty gives t itself -/
def rCatT (K : PySem.W.Frag) : R2 := fun x y H Q => ∃ a b xs ys, x = .ref a ∧ y = .ref b ∧ SqT K H a xs ∧ SqT K H b ys ∧ xs ≠ [] ∧ xs.length + ys.length ≤ sizeLine ∧
  (ys = [] → Q (.ref a) H) ∧ (ys ≠ [] → ∀ p, H p = none → Q (.ref p) (upd H p (.tup (xs ++ ys))))
theorem Vals.nil_iff {xs : List V} {us : List Value} (r : Vals xs us) : us = [] ↔ xs = [] := by
  cases r with
  | nil => simp
  | cons _ _ => simp
theorem op_catT : OpR X (binaryOp .Add) (rCatT X.K) := by
  intro pins s σ H x y v u Q I rx ry h
  obtain ⟨a, b, xs, ys, rfl, rfl, ha, hb, hx, hz, q1, q2⟩ := h
  cases rx
  cases ry
  obtain ⟨its, r1, p1, _⟩ := I.tuple ha
  obtain ⟨its2, r2, p2, _⟩ := I.tuple hb
  refine HT.cat_tup p1 p2 (fun z => hx (r1.nil_iff.mp z)) (fun z => ⟨.ref a, H, I, rfl, q1 (r2.nil_iff.mp z)⟩) (fun z => ?_) (by rw [← r1.length, ← r2.length]; exact hz)
  refine ⟨.ref s.heap.objs.size, _, I.laid (t' := s.toks) (o := .tup (xs ++ ys)) (fun b ob q => Heap.get?_push_of_some _ q) (Nat.le_refl _) ?_, rfl, q2 (fun w => z (r2.nil_iff.mpr w)) _ (I.hok.fresh (Nat.le_refl _))⟩
  exact ⟨by rw [List.length_append]; exact hz, _, r1.append r2, IsTup.new _ _⟩
/-- tuple(t) -/
theorem call_tupleT : CallR X (.type "tuple") (fun xs H Q => ∃ a ys, xs = [.ref a] ∧ SqT X.K H a ys ∧ Q (.ref a) H) := by
  intro pins s σ H xs us Q I r h
  obtain ⟨a, ys, rfl, ha, q⟩ := h
  obtain ⟨u, rfl, ru⟩ := vals1 r
  cases ru
  obtain ⟨its, _, p1, _⟩ := I.tuple ha
  exact call_tuple_same (items := its.toArray) p1 ⟨.ref a, H, I, rfl, q⟩
end
end L2

namespace L2
open PySem PySem.Spec PyProof.Rows

/-! ### places -/
/-- the place that an index of any sign means -/
def ixN (n : Nat) (i : Int) : Option Nat := if 0 ≤ i then (if i < n then some i.toNat else none) else if -(n : Int) ≤ i then some (i + n).toNat else none
def atI {α : Type} (xs : List α) (i : Int) : Option α := (ixN xs.length i).bind fun j => xs[j]?
theorem ixN_seq {n : Nat} {i : Int} {j : Nat} (h : ixN n i = some j) : seqIndex? i n = some j ∧ j < n ∧ -(n : Int) ≤ i ∧ i < n := by
  unfold ixN at h
  by_cases h0 : 0 ≤ i
  · rw [if_pos h0] at h
    by_cases h1 : i < n
    · rw [if_pos h1] at h
      have e : i.toNat = j := Option.some.inj h
      exact ⟨by rw [seqIndex_of h0 h1, e], by omega, by omega, h1⟩
    · rw [if_neg h1] at h; cases h
  · rw [if_neg h0] at h
    by_cases h1 : -(n : Int) ≤ i
    · rw [if_pos h1] at h
      have e : (i + n).toNat = j := Option.some.inj h
      exact ⟨by rw [seqIndex_neg (by omega) h1, e], by omega, h1, by omega⟩
    · rw [if_neg h1] at h; cases h
theorem atI_get {α : Type} {xs : List α} {i : Int} {v : α} (h : atI xs i = some v) : ∃ j, seqIndex? i xs.length = some j ∧ xs[j]? = some v ∧ j < xs.length ∧ -(xs.length : Int) ≤ i ∧ i < xs.length := by
  unfold atI at h
  cases e : ixN xs.length i with
  | none => rw [e] at h; cases h
  | some j =>
    rw [e] at h
    obtain ⟨h1, h2, h3, h4⟩ := ixN_seq e
    exact ⟨j, h1, h, h2, h3, h4⟩
theorem atI_nat {α : Type} {xs : List α} {j : Nat} {v : α} (h : xs[j]? = some v) : atI xs (j : Int) = some v := by
  have hj : j < xs.length := (List.getElem?_eq_some_iff.mp h).1
  have e : ixN xs.length (j : Int) = some j := by
    unfold ixN
    rw [if_pos (by omega), if_pos (by omega)]; simp
  unfold atI; rw [e]; exact h
theorem atI_last {α : Type} (xs : List α) (v : α) : atI (xs ++ [v]) (-1) = some v := by
  have hl : (xs ++ [v]).length = xs.length + 1 := by simp
  have e : ixN (xs ++ [v]).length (-1) = some xs.length := by
    unfold ixN
    rw [hl, if_neg (by decide), if_pos (by omega)]
    congr 1
    omega
  unfold atI
  rw [e]
  show (xs ++ [v])[xs.length]? = some v
  simp

/-! ### what may be subscripted -/
/-- what stands as an index of a plain subscript -/
def PlainIx (b : Expr) : Prop := ∀ o i, subscripted b false o i = operate [o, i] (getItem o i)
/-- a subscript by values -/
def IxR (X : Cx) (r : R2) : Prop :=
  ∀ (value slice : Expr) (pins : List (Addr × Obj)) (s : Shared) (σ : St) (H : Hp) (x y : V) (v u : Value) (Q : VK), Inv X pins σ H s → RelV x v → RelV y u → r x y H Q →
    subscripted slice false v u = operate [v, u] (getItem v u) → wpAny (model X.prog X.w) X.A (subscriptTail value slice v u) (EP X pins σ Q) X.xe s
/-- a call of a builtin's method by values: the receiver, the arguments -/
def MtR (X : Cx) (id : String) (r : V → List V → Hp → VK → Prop) : Prop :=
  ∀ (pins : List (Addr × Obj)) (s : Shared) (σ : St) (H : Hp) (x : V) (xs : List V) (v : Value) (us : List Value) (Q : VK), Inv X pins σ H s → RelV x v → Vals xs us → r x xs H Q →
    wpAny (model X.prog X.w) X.A (call (.builtin id) (v :: us)) (EP X pins σ Q) X.xe s
section
variable {X : Cx} {a b : Expr} {ta tb : TE} {pos : Pos}
theorem IxR.or {r r' : R2} (h : IxR X r) (h' : IxR X r') : IxR X (fun x y H Q => r x y H Q ∨ r' x y H Q) := by
  intro value slice pins s σ H x y v u Q I rx ry q hs
  rcases q with q | q
  · exact h value slice pins s σ H x y v u Q I rx ry q hs
  · exact h' value slice pins s σ H x y v u Q I rx ry q hs
theorem MtR.or {id : String} {r r' : V → List V → Hp → VK → Prop} (h : MtR X id r) (h' : MtR X id r') : MtR X id (fun x xs H Q => r x xs H Q ∨ r' x xs H Q) := by
  intro pins s σ H x xs v us Q I rx rs q
  rcases q with q | q
  · exact h pins s σ H x xs v us Q I rx rs q
  · exact h' pins s σ H x xs v us Q I rx rs q
/-- a[b] -/
theorem pe_ix {r : R2} (hr : IxR X r) (ha : PE X a ta) (hb : PE X b tb) (hs : PlainIx b) : PE X (.Subscript a b pos) (tOp r ta tb) := by
  intro pins s σ H Q I h
  exact Subscript_ (binT ha hb I h fun v u s2 x y H2 I2 rx ry q => hr a b pins s2 σ H2 x y v u Q I2 rx ry q (hs _ _))

def rIxL (K : PySem.W.Frag) : R2 := fun x y H Q => ∃ p xs i v, x = .ref p ∧ y = .int i ∧ SqL K H p xs ∧ atI xs i = some v ∧ Q v H
def rIxT (K : PySem.W.Frag) : R2 := fun x y H Q => ∃ p xs i v, x = .ref p ∧ y = .int i ∧ SqT K H p xs ∧ atI xs i = some v ∧ Q v H
def rIxS : R2 := fun x y H Q => ∃ z i c, x = .str z ∧ y = .int i ∧ z.length ≤ sizeLine ∧ atI z.cps.toList i = some c ∧ Q (.str ⟨#[c]⟩) H
theorem ix_list : IxR X (rIxL X.K) := by
  intro value slice pins s σ H x y v u Q I rx ry h hs
  obtain ⟨p, xs, i, z, rfl, rfl, hq, he, q⟩ := h
  cases rx
  obtain ⟨t, rfl⟩ := ry
  obtain ⟨its, r, pl, hz⟩ := I.list hq
  obtain ⟨j, h1, h2, h3, h4, h5⟩ := atI_get he
  obtain ⟨w, ew, rw'⟩ := r.get h2
  have hl := r.length
  have hn := line63
  have fin : EP X pins σ Q w s := ⟨z, H, I, rw', q⟩
  by_cases h0 : 0 ≤ i
  · have hj : i.toNat = j := by
      rw [seqIndex_of h0 h5] at h1
      exact Option.some.inj h1
    exact item_listR pl.isList h0 (by omega) (by rw [hj]; simpa using ew) fin hs
  · have hj : (i + (its.toArray.size : Int)).toNat = j := by
      rw [seqIndex_neg (by omega) h4] at h1
      rw [List.size_toArray, ← hl]
      exact Option.some.inj h1
    exact subscriptTail_builtinR (x := w) pl.isList.typeIs slot_list_getitem.lookup
      (wpAny_getItem_list_neg (Q := fun r s' => r = w ∧ EP X pins σ Q r s') pl.isList (by omega) (by rw [List.size_toArray] <;> omega) (by omega) (by rw [hj]; simpa using ew) ⟨rfl, fin⟩) hs
theorem ix_tup : IxR X (rIxT X.K) := by
  intro value slice pins s σ H x y v u Q I rx ry h hs
  obtain ⟨p, xs, i, z, rfl, rfl, hq, he, q⟩ := h
  cases rx
  obtain ⟨t, rfl⟩ := ry
  obtain ⟨its, r, pl, hz⟩ := I.tuple hq
  obtain ⟨j, h1, h2, h3, h4, h5⟩ := atI_get he
  obtain ⟨w, ew, rw'⟩ := r.get h2
  have hl := r.length
  have hn := line63
  have fin : EP X pins σ Q w s := ⟨z, H, I, rw', q⟩
  exact subscriptTail_builtinR (x := w) pl.typeIs slot_tuple_getitem.lookup
    (getItem_tuple (j := j) (Q := fun r s' => r = w ∧ EP X pins σ Q r s') pl (by omega) (by omega) (by rw [List.size_toArray, ← hl]; exact h1) (by simpa using ew) ⟨rfl, fin⟩) hs
theorem ix_str : IxR X rIxS := by
  intro value slice pins s σ H x y v u Q I rx ry h hs
  obtain ⟨z, i, c, rfl, rfl, hz, he, q⟩ := h
  obtain ⟨t, rfl⟩ := rx
  obtain ⟨t', rfl⟩ := ry
  obtain ⟨j, h1, h2, h3, h4, h5⟩ := atI_get he
  have hl : z.cps.toList.length = z.length := by simp [Str.length]
  rw [hl] at h1 h4 h5
  have hn := line63
  exact tail_any (typeIs_str s z t) slot_str_getitem.lookup (getItem_str (c := c) (by
    have e1 : decide (i < -(2 ^ 63 : Int)) = false := decide_eq_false (by omega)
    have e2 : decide (i ≥ 2 ^ 63) = false := decide_eq_false (by omega)
    rw [e1, e2, Bool.or_false]) (by rw [h1]; simpa using h2) ⟨.str ⟨#[c]⟩, H, I.tok _, ⟨_, rfl⟩, q⟩) hs
/-- list, tuple or str -/
def rIx (K : PySem.W.Frag) : R2 := fun x y H Q => rIxL K x y H Q ∨ rIxT K x y H Q ∨ rIxS x y H Q
theorem ix_seq : IxR X (rIx X.K) := ix_list.or (ix_tup.or ix_str)

/-! ### xs[i] = v, any sign -/
/-- the list's object behind a store -/
theorem mapSeq_set (its : List Value) (n j : Nat) (u : Value) : Obj.mapSeq (·.setIfInBounds j u) { cls := .type "list", data := .seq its.toArray n } = { cls := .type "list", data := .seq (its.set j u).toArray n } := by
  simp [Obj.mapSeq]
theorem Inv.lst {pins : List (Addr × Obj)} {σ : St} {H : Hp} {s : Shared} {p : Addr} {xs : List V} (I : Inv X pins σ H s) (h : H p = some (.lst xs)) :
    ∃ (its : List Value) (n : Nat), Vals xs its ∧ s.heap.get? p = some { cls := .type "list", data := .seq its.toArray n } ∧ xs.length ≤ sizeLine := by
  obtain ⟨z, its, n, r, e⟩ := I.hok p _ h
  exact ⟨its, n, r, e, z⟩
/-- the list at p is written by an update of its object -/
theorem Inv.lstUpd {pins : List (Addr × Obj)} {σ : St} {H : Hp} {s : Shared} {p : Addr} {xs ys : List V} {its its' : List Value} {n n' : Nat} {f : Obj → Obj} (I : Inv X pins σ H s) (h : H p = some (.lst xs))
    (ho : s.heap.get? p = some { cls := .type "list", data := .seq its.toArray n }) (hf : f { cls := .type "list", data := .seq its.toArray n } = { cls := .type "list", data := .seq its'.toArray n' }) (r : Vals ys its') (hz : ys.length ≤ sizeLine) (t : Nat) :
    Inv X pins σ (upd H p (.lst ys)) { s with heap := s.heap.update p f, toks := t } := by
  have e : (s.heap.update p f).get? p = some { cls := .type "list", data := .seq its'.toArray n' } := by
    rw [Heap.get?_update_self f ho (by rw [hf] <;> rfl), hf]
  refine I.write (x := p) (e := p) (by rw [h]; trivial) (.inl rfl) (fun b u hb q => (Heap.get?_update_other _ _ (Ne.symm hb)).trans q) ⟨_, e⟩ ?_
  exact ⟨hz, its', n', r, e⟩
def rSetL : V → V → V → Hp → (Hp → Prop) → Prop := fun o i v H Q => ∃ p xs k j, o = .ref p ∧ i = .int k ∧ H p = some (.lst xs) ∧ ixN xs.length k = some j ∧ Q (upd H p (.lst (xs.set j v)))
theorem set_list : PSet X rSetL := by
  intro pins s σ H o i v ov iv u Q I ro ri rv h
  obtain ⟨p, xs, k, j, rfl, rfl, hp, hj, q⟩ := h
  cases ro
  obtain ⟨t, rfl⟩ := ri
  obtain ⟨its, n, r, ho, hz⟩ := I.lst hp
  obtain ⟨h1, h2, h3, h4⟩ := ixN_seq hj
  have hl := r.length
  have hn := line63
  have I' : Inv X pins σ (upd H p (.lst (xs.set j v))) { s with heap := s.heap.update p (Obj.mapSeq (·.setIfInBounds j u)) } :=
    I.lstUpd hp ho (mapSeq_set its n j u) (r.set rv j) (by rw [List.length_set]; exact hz) s.toks
  by_cases h0 : 0 ≤ k
  · have hk : k.toNat = j := by
      rw [seqIndex_of h0 h4] at h1
      exact Option.some.inj h1
    exact PySem.W.ki_setAt ho h0 (by omega) (by rw [List.size_toArray, ← hl]; exact h4) (by rw [hk]; exact ⟨_, I', q⟩)
  · have hk : (k + (its.toArray.size : Int)).toNat = j := by
      rw [seqIndex_neg (by omega) h3] at h1
      rw [List.size_toArray, ← hl]
      exact Option.some.inj h1
    exact PySem.W.ki_setBack ho (by omega) (by rw [List.size_toArray, ← hl]; exact h3) (by omega) (by rw [hk]; exact ⟨_, I', q⟩)

/-! ### slices -/
theorem slice_bounds (lo hi : Option Int) (n : Nat) : (sliceBounds lo hi none n).1 = ((HT.sIx n 0 lo : Nat) : Int) ∧ (sliceBounds lo hi none n).2.1 = ((HT.sIx n n hi : Nat) : Int) ∧ (sliceBounds lo hi none n).2.2 = 1 := by
  refine ⟨?_, ?_, rfl⟩
  · cases lo with
    | none => simp [sliceBounds, HT.sIx]
    | some i =>
      simp only [sliceBounds, HT.sIx, Option.getD_none, show (1 : Int) > 0 by decide, if_true]
      by_cases h : i < 0
      · simp only [h, if_true] <;> omega
      · simp only [h, if_false] <;> omega
  · cases hi with
    | none => simp [sliceBounds, HT.sIx]
    | some i =>
      simp only [sliceBounds, HT.sIx, Option.getD_none, show (1 : Int) > 0 by decide, if_true]
      by_cases h : i < 0
      · simp only [h, if_true] <;> omega
      · simp only [h, if_false] <;> omega
theorem slicePick_cut (its : List Value) (lo hi : Option Int) : slicePick its.toArray lo hi none = ((its.drop (HT.sIx its.length 0 lo)).take (HT.sIx its.length its.length hi - HT.sIx its.length 0 lo)).toArray := by
  obtain ⟨h1, h2, h3⟩ := slice_bounds lo hi its.toArray.size
  unfold slicePick
  rw [h1, h2, h3]
  simp only [sliceRange_one, pick_run, List.size_toArray] <;> rfl
/-- xs[lo:hi] of a list: a new list -/
def rSlL (K : PySem.W.Frag) : V → Option Int → Option Int → Hp → VK → Prop := fun x lo hi H Q => ∃ a xs, x = .ref a ∧ SqL K H a xs ∧ ∀ p, H p = none → Q (.ref p) (upd H p (.lst (cutV xs lo hi)))
theorem sl_list : SlR X (rSlL X.K) := by
  intro pins s σ H x v vl vu lo hi sl Q I rx hs pl pu h
  obtain ⟨a, xs, rfl, hx, q⟩ := h
  cases rx
  obtain ⟨its, r, ht, hz⟩ := I.list hx
  have hlen := r.length
  refine ⟨"list", _, slot_list_getitem.lookup, ht.isList.typeIs, ?_⟩
  refine wpAny_getItem_list_slice ht.isList hs pl pu .none (by simp) ?_ (by rw [List.size_toArray] <;> omega)
  rw [slicePick_cut, ← hlen]
  refine ⟨.ref s.heap.objs.size, _, I.laid (t' := s.toks) (o := .lst (cutV xs lo hi)) (fun b ob q => Heap.get?_push_of_some _ q) (Nat.le_refl _) ?_, rfl, q _ (I.hok.fresh (Nat.le_refl _))⟩
  exact ⟨Nat.le_trans (cutV_length xs lo hi) hz, _, 0, (r.drop (HT.sIx xs.length 0 lo)).take (HT.sIx xs.length xs.length hi - HT.sIx xs.length 0 lo), Heap.get?_push_size _ rfl⟩

/-! ### in, not in: flat items -/
def flatV : V → Bool
  | .non => true
  | .bl _ => true
  | .int _ => true
  | .str _ => true
  | _ => false
/-- == of flat values -/
def eqV : V → V → Bool
  | .non, .non => true
  | .bl a, .bl b => a == b
  | .bl a, .int b => (if a then 1 else 0) == b
  | .int a, .bl b => a == (if b then 1 else 0)
  | .int a, .int b => a == b
  | .str a, .str b => a == b
  | _, _ => false
theorem eqAt_V {A : Around} {s : Shared} {y x : V} {u v : Value} (ry : RelV y u) (rx : RelV x v) (fy : flatV y = true) (fx : flatV x = true) : SeqAt.EqAt A s u v (eqV y x) := by
  cases y with
  | non =>
    cases ry
    cases x with
    | non => cases rx; exact SeqAt.EqAt.same _
    | bl b => cases rx; exact SeqAt.EqAt.none_bool b
    | int b => obtain ⟨t, rfl⟩ := rx; exact SeqAt.EqAt.none_int b t
    | str b => obtain ⟨t, rfl⟩ := rx; exact SeqAt.EqAt.none_str b t
    | _ => exact absurd (show false = true from fx) Bool.false_ne_true
  | bl a =>
    cases ry
    cases x with
    | non => cases rx; exact SeqAt.EqAt.bool_none a
    | bl b => cases rx; exact SeqAt.EqAt.bool_bool a b
    | int b => obtain ⟨t, rfl⟩ := rx; exact SeqAt.EqAt.bool_int a b t
    | str b => obtain ⟨t, rfl⟩ := rx; exact SeqAt.EqAt.bool_str a b t
    | _ => exact absurd (show false = true from fx) Bool.false_ne_true
  | int a =>
    obtain ⟨t', rfl⟩ := ry
    cases x with
    | non => cases rx; exact SeqAt.EqAt.int_none a t'
    | bl b => cases rx; exact SeqAt.EqAt.int_bool a t' b
    | int b => obtain ⟨t, rfl⟩ := rx; exact SeqAt.EqAt.int_int a t' b t
    | str b => obtain ⟨t, rfl⟩ := rx; exact SeqAt.EqAt.int_str a t' b t
    | _ => exact absurd (show false = true from fx) Bool.false_ne_true
  | str a =>
    obtain ⟨t', rfl⟩ := ry
    cases x with
    | non => cases rx; exact SeqAt.EqAt.str_none a t'
    | bl b => cases rx; exact SeqAt.EqAt.str_bool a t' b
    | int b => obtain ⟨t, rfl⟩ := rx; exact SeqAt.EqAt.str_int a t' b t
    | str b => obtain ⟨t, rfl⟩ := rx; exact SeqAt.EqAt.str_str a t' b t
    | _ => exact absurd (show false = true from fx) Bool.false_ne_true
  | _ => exact absurd (show false = true from fy) Bool.false_ne_true
/-- the items' answers, read off the values (a value's own answer does not lean on its token) -/
def eqU (x : V) (u : Value) : Bool := match u with
  | .none => eqV .non x
  | .bool b => eqV (.bl b) x
  | .int i _ => eqV (.int i) x
  | .str z _ => eqV (.str z) x
  | _ => false
theorem eqU_of {x y : V} {u : Value} (r : RelV y u) (f : flatV y = true) : eqU x u = eqV y x := by
  cases y with
  | non => cases r; rfl
  | bl b => cases r; rfl
  | int i => obtain ⟨t, rfl⟩ := r; rfl
  | str z => obtain ⟨t, rfl⟩ := r; rfl
  | _ => exact absurd (show false = true from f) Bool.false_ne_true
theorem any_eqU {x : V} : ∀ {xs : List V} {us : List Value}, Vals xs us → xs.all flatV = true → us.any (eqU x) = xs.any fun y => eqV y x
  | _, _, .nil, _ => rfl
  | y :: xs, u :: us, .cons r t, f => by
    rw [List.all_cons, Bool.and_eq_true] at f
    rw [List.any_cons, List.any_cons, eqU_of r f.1, any_eqU t f.2]
theorem mem_eqAt {A : Around} {s : Shared} {x : V} {v : Value} (rx : RelV x v) (fx : flatV x = true) : ∀ {xs : List V} {us : List Value}, Vals xs us → xs.all flatV = true → ∀ u ∈ us, SeqAt.EqAt A s u v (eqU x u)
  | _, _, .nil, _ => fun u hu => by cases hu
  | y :: xs, u :: us, .cons r t, f => fun u' hu => by
    rw [List.all_cons, Bool.and_eq_true] at f
    rcases List.mem_cons.mp hu with rfl | hu
    · rw [eqU_of r f.1]; exact eqAt_V r rx f.1 fx
    · exact mem_eqAt rx fx t f.2 u' hu
def inV (x : V) (xs : List V) : Bool := xs.any fun y => eqV y x
/-- x in a list or tuple of flat items -/
def rIn (K : PySem.W.Frag) (neg : Bool) : R2 := fun x y H Q => ∃ p xs, y = .ref p ∧ (SqL K H p xs ∨ SqT K H p xs) ∧ flatV x = true ∧ xs.all flatV = true ∧ Q (.bl (if neg then !inV x xs else inV x xs)) H
theorem op_in_seq : OpR X (compareOp .In) (rIn X.K false) := by
  intro pins s σ H x y v u Q I rx ry h
  obtain ⟨p, xs, rfl, hq, fx, fs, q⟩ := h
  cases ry
  rcases hq with hq | hq
  · obtain ⟨its, r, pl, hz⟩ := I.list hq
    refine SeqAt.in_listAt (eqU x) pl.isList (fun w hw => mem_eqAt rx fx r fs w (by simpa using hw)) ⟨.bl _, H, I, rfl, ?_⟩
    rw [show its.toArray.any (eqU x) = its.any (eqU x) by simp, any_eqU r fs]
    exact q
  · obtain ⟨its, r, pl, hz⟩ := I.tuple hq
    refine SeqAt.in_tupleAt (eqU x) pl (fun w hw => mem_eqAt rx fx r fs w (by simpa using hw)) ⟨.bl _, H, I, rfl, ?_⟩
    rw [show its.toArray.any (eqU x) = its.any (eqU x) by simp, any_eqU r fs]
    exact q
theorem op_notIn_seq : OpR X (compareOp .NotIn) (rIn X.K true) := by
  intro pins s σ H x y v u Q I rx ry h
  obtain ⟨p, xs, rfl, hq, fx, fs, q⟩ := h
  cases ry
  rcases hq with hq | hq
  · obtain ⟨its, r, pl, hz⟩ := I.list hq
    refine SeqAt.notIn_listAt (eqU x) pl.isList (fun w hw => mem_eqAt rx fx r fs w (by simpa using hw)) ⟨.bl _, H, I, rfl, ?_⟩
    rw [show its.toArray.any (eqU x) = its.any (eqU x) by simp, any_eqU r fs]
    exact q
  · obtain ⟨its, r, pl, hz⟩ := I.tuple hq
    refine SeqAt.notIn_tupleAt (eqU x) pl (fun w hw => mem_eqAt rx fx r fs w (by simpa using hw)) ⟨.bl _, H, I, rfl, ?_⟩
    rw [show its.toArray.any (eqU x) = its.any (eqU x) by simp, any_eqU r fs]
    exact q
theorem op_notIn_str : OpR X (compareOp .NotIn) (fun x y H Q => ∃ i j, x = .str i ∧ y = .str j ∧ Q (.bl (!(!(Builtin.Str.occurrences j i 0 j.length 1).isEmpty))) H) := by
  intro pins s σ H x y v u Q I rx ry h
  obtain ⟨i, j, rfl, rfl, q⟩ := h
  obtain ⟨t, rfl⟩ := rx
  obtain ⟨t', rfl⟩ := ry
  exact notIn_str ⟨.bl _, H, I, rfl, q⟩

/-! ### len, list(x), tuple(x) of any list or tuple that is read -/
theorem call_len_seq : CallR X (.builtin "len") (fun xs H Q => ∃ p ys, xs = [.ref p] ∧ (SqL X.K H p ys ∨ SqT X.K H p ys) ∧ Q (.int ys.length) H) := by
  intro pins s σ H xs us Q I r h
  obtain ⟨p, ys, rfl, hq, q⟩ := h
  obtain ⟨u, rfl, rx⟩ := vals1 r
  cases rx
  have hn := line63
  rcases hq with hq | hq
  · obtain ⟨its, r', pl, hz⟩ := I.list hq
    have hlen := r'.length
    exact Calls.call_len_list pl.isList (by simp only [List.size_toArray] <;> omega) ⟨.int ys.length, H, I.tok _, ⟨s.toks + 1, by rw [List.size_toArray, hlen]⟩, q⟩
  · obtain ⟨its, r', pl, hz⟩ := I.tuple hq
    have hlen := r'.length
    exact len_tuple pl (by simp only [List.size_toArray] <;> omega) ⟨.int ys.length, H, I.tok _, ⟨s.toks + 1, by rw [List.size_toArray, hlen]⟩, q⟩
theorem call_len_str : CallR X (.builtin "len") (fun xs H Q => ∃ z, xs = [.str z] ∧ z.length ≤ sizeLine ∧ Q (.int z.length) H) := by
  intro pins s σ H xs us Q I r h
  obtain ⟨z, rfl, hz, q⟩ := h
  obtain ⟨u, rfl, t, rfl⟩ := vals1 r
  have hn := line63
  exact len_str (by omega) ⟨.int z.length, H, I.tok _, ⟨_, rfl⟩, q⟩
theorem CallR.or {f : Value} {r r' : List V → Hp → VK → Prop} (h : CallR X f r) (h' : CallR X f r') : CallR X f (fun xs H Q => r xs H Q ∨ r' xs H Q) := by
  intro pins s σ H xs us Q I rs q
  rcases q with q | q
  · exact h pins s σ H xs us Q I rs q
  · exact h' pins s σ H xs us Q I rs q
theorem call_list_of : CallR X (.type "list") (fun xs H Q => ∃ p ys, xs = [.ref p] ∧ (SqL X.K H p ys ∨ SqT X.K H p ys) ∧ ∀ l, H l = none → Q (.ref l) (upd H l (.lst ys))) := by
  intro pins s σ H xs us Q I r h
  obtain ⟨p, ys, rfl, hq, q⟩ := h
  obtain ⟨u, rfl, rx⟩ := vals1 r
  cases rx
  have fin : ∀ (its : List Value), Vals ys its → ys.length ≤ sizeLine → ∀ (h' : Heap) (c' : Nat), (∀ b o', s.heap.get? b = some o' → h'.get? b = some o') →
      h'.get? s.heap.objs.size = some { cls := .type "list", dict := none, data := .seq its.toArray c', slots := #[] } → EP X pins σ Q (.ref s.heap.objs.size) { s with heap := h' } := fun its r' hz h' c' kp e =>
    ⟨.ref s.heap.objs.size, _, I.laid (t' := s.toks) kp (Nat.le_refl _) (show ObjOk X.prog X.w _ h' _ (.lst ys) from ⟨hz, its, c', r', e⟩), rfl, q _ (I.hok.fresh (Nat.le_refl _))⟩
  rcases hq with hq | hq
  · obtain ⟨its, r', pl, hz⟩ := I.list hq
    have hlen := r'.length
    obtain ⟨o, ho, hc, n, hd⟩ := pl.isList
    exact call_list_seq p (.inl rfl) ho hc hd (fun h' c' kp e => fin its r' hz h' c' kp e) (by simp only [List.size_toArray] <;> omega)
  · obtain ⟨its, r', pl, hz⟩ := I.tuple hq
    have hlen := r'.length
    obtain ⟨o, ho, hc, n, hd⟩ := pl
    exact call_list_seq p (.inr rfl) ho hc hd (fun h' c' kp e => fin its r' hz h' c' kp e) (by simp only [List.size_toArray] <;> omega)
theorem call_tuple_of : CallR X (.type "tuple") (fun xs H Q => ∃ p ys, xs = [.ref p] ∧ ((SqL X.K H p ys ∧ ∀ l, H l = none → Q (.ref l) (upd H l (.tup ys))) ∨ (SqT X.K H p ys ∧ Q (.ref p) H))) := by
  intro pins s σ H xs us Q I r h
  obtain ⟨p, ys, rfl, h⟩ := h
  obtain ⟨u, rfl, rx⟩ := vals1 r
  cases rx
  rcases h with ⟨hq, q⟩ | ⟨hq, q⟩
  · obtain ⟨its, r', pl, hz⟩ := I.list hq
    have hlen := r'.length
    refine call_tuple_list pl.isList (fun h' kp => ?_) (by simp only [List.size_toArray] <;> omega)
    have I1 : Inv X pins σ H { s with heap := h' } := I.kept (t' := s.toks) kp
    have I2 : Inv X pins σ (upd H h'.objs.size (.tup ys)) { s with heap := h'.push { cls := .type "tuple", data := .seq its.toArray } } :=
      I1.laid (t' := s.toks) (fun b o e => Heap.get?_push_of_some _ e) (Nat.le_refl _) (show ObjOk X.prog X.w _ _ _ (.tup ys) from ⟨hz, its, r', IsTup.new _ _⟩)
    exact ⟨.ref h'.objs.size, _, I2, rfl, q _ (I1.hok.fresh (Nat.le_refl _))⟩
  · obtain ⟨its, r', pl, hz⟩ := I.tuple hq
    exact call_tuple_same pl ⟨.ref p, H, I, rfl, q⟩

/-! ### the call of a builtin's method: o.m(..) -/
/-- the value is of that builtin type -/
def tyV (K : PySem.W.Frag) (T : String) (x : V) (H : Hp) : Prop := match x with
  | .str _ => T = "str"
  | .int _ => T = "int"
  | .ref p => (T = "list" ∧ ∃ xs, SqL K H p xs) ∨ (T = "tuple" ∧ ∃ o, K.lookup p = some o ∧ o.cls = .type "tuple" ∧ o.dict = none) ∨
      (T = "dict" ∧ ((∃ kvs, H p = some (.dK kvs)) ∨ ∃ kvs, H p = some (.dT kvs))) ∨ (T = "set" ∧ ∃ S n, H p = some (.set S n))
  | _ => False
theorem tyV_is {pins : List (Addr × Obj)} {σ : St} {H : Hp} {s : Shared} {T : String} {x : V} {v : Value} (I : Inv X pins σ H s) (r : RelV x v) (ty : tyV X.K T x H) :
    s.TypeIs v T ∧ ∀ a, v = .ref a → ∃ ob, s.heap.get? a = some ob ∧ ob.dict = none := by
  cases x with
  | str z =>
    obtain ⟨t, rfl⟩ := r
    cases (show T = "str" from ty)
    exact ⟨typeIs_str s z t, fun _ e => nomatch e⟩
  | int i =>
    obtain ⟨t, rfl⟩ := r
    cases (show T = "int" from ty)
    exact ⟨typeIs_int s i t, fun _ e => nomatch e⟩
  | ref p =>
    cases r
    rcases ty with ⟨rfl, xs, hq⟩ | ⟨rfl, o, hk, hc, hd⟩ | ⟨rfl, hk⟩ | ⟨rfl, S, n, hk⟩
    · obtain ⟨its, _, pl, _⟩ := I.list hq
      refine ⟨pl.isList.typeIs, fun a e => ?_⟩
      cases e
      obtain ⟨o, n, e, c, hd, _⟩ := pl
      exact ⟨o, e, hd⟩
    · refine ⟨⟨o, I.kIn p o hk, hc⟩, fun a e => ?_⟩
      cases e
      exact ⟨o, I.kIn _ o hk, hd⟩
    · have z : ∃ o, s.heap.get? p = some o ∧ o.ExactDict := by
        rcases hk with ⟨kvs, hk⟩ | ⟨kvs, hk⟩
        · obtain ⟨_, _, _, _, o, _, _, e, ex, _⟩ := I.hok p _ hk
          exact ⟨o, e, ex⟩
        · obtain ⟨_, _, _, _, o, _, _, e, ex, _⟩ := I.hok p _ hk
          exact ⟨o, e, ex⟩
      obtain ⟨o, e, ex⟩ := z
      refine ⟨⟨o, e, ex.1⟩, fun a e2 => ?_⟩
      cases e2
      exact ⟨o, e, ex.2.1⟩
    · obtain ⟨o, _, _, _, e, ex, _⟩ := I.hok p _ hk
      refine ⟨⟨o, e, ex.1⟩, fun a e2 => ?_⟩
      cases e2
      exact ⟨o, e, ex.2.1⟩
  | _ => exact False.elim ty
def tBM0 (K : PySem.W.Frag) (T : String) (r : V → List V → Hp → VK → Prop) (to : TE) : TE := fun σ H Q => to σ H fun x H1 => tyV K T x H1 ∧ r x [] H1 Q
def tBM (K : PySem.W.Frag) (T : String) (r : V → List V → Hp → VK → Prop) (to : TE) (t : TA) : TE := fun σ H Q => to σ H fun x H1 => tyV K T x H1 ∧ t σ H1 fun xs H2 => r x xs H2 Q
variable {o e : Expr} {es : List Expr} {to : TE} {t : TA} {name : Str} {apos cpos : Pos} {T id : String} {r : V → List V → Hp → VK → Prop}
theorem pe_bm0 (pa : PlainAttrs T) (slot : Slot T name id) (hty : typeOf (.builtin id) = pure (.type "method_descriptor")) (hm : MtR X id r) (ho : PE X o to)
    (hbase : attributeBase o name X.env (eval o X.env) = eval o X.env := by rfl) (hline : (apos.endLine == cpos.line) = true := by rfl) : PE X (.Call (.Attribute o name apos) [] [] cpos) (tBM0 X.K T r to) := by
  intro pins s σ H Q I h
  refine wpAny_Call_method0_late hbase hline (thn (ho pins s σ H _ I h) fun v s1 ⟨x, H1, I1, r1, ty, q1⟩ => ?_)
  obtain ⟨h1, h2⟩ := tyV_is I1 r1 ty
  exact ⟨T, id, pa, slot, hty, h1, h2, Calls.callWith_builtin rfl (PySem.evalArgs_none (hm pins s1 σ H1 x [] v [] Q I1 r1 .nil q1))⟩
theorem pe_bm (pa : PlainAttrs T) (slot : Slot T name id) (hty : typeOf (.builtin id) = pure (.type "method_descriptor")) (hm : MtR X id r) (ho : PE X o to) (ha : PA X (e :: es) t)
    (hbase : attributeBase o name X.env (eval o X.env) = eval o X.env := by rfl)
    (hfew : ((backTo cpos (starEach (e :: es) X.env)).all (fun x => !x.1) && (backToKw cpos (keywordEach [] X.env)).all (fun x => x.1.isSome)
      && decide ((e :: es).length + ([] : List Keyword).length + (if ([] : List Keyword).isEmpty then 0 else 1) < 30)) = true := by rfl)
    (hline : (apos.endLine == cpos.line) = true := by rfl) (hs : starEach (e :: es) X.env = (false, eval e X.env) :: starEach es X.env := by rfl) (hplain : (backTo cpos (starEach es X.env)).any (·.1) = false := by rfl) :
    PE X (.Call (.Attribute o name apos) (e :: es) [] cpos) (tBM X.K T r to t) := by
  intro pins s σ H Q I h
  refine wpAny_Call_method_late hbase hfew hline rfl (thn (ho pins s σ H _ I h) fun v s1 ⟨x, H1, I1, r1, ty, q1⟩ => ?_)
  obtain ⟨h1, h2⟩ := tyV_is I1 r1 ty
  refine ⟨T, id, pa, slot, hty, h1, h2, ?_⟩
  have hA := ha cpos pins s1 σ H1 _ I1 q1
  rw [hs] at hA ⊢
  refine Calls.callWith_builtin (by show (false || (backTo cpos (starEach es X.env)).any (·.1)) = false; rw [hplain] <;> rfl) (Calls.evalArgs_plain ?_)
  exact thn hA fun us s2 ⟨vs, H2, I2, r2, q2⟩ => hm pins s2 σ H2 x vs v us Q I2 r1 r2 q2
/- xs.append(e), list.index on a module's tuple .. are MtR facts of 06m -/
end
end L2

namespace L2
open PySem PySem.Spec PyProof.Rows

def MtM (X : Cx) (id : String) (r : V → List V → Hp → VK → Prop) : Prop :=
  ∀ (pins : List (Addr × Obj)) (s : Shared) (σ : St) (H : Hp) (x : V) (xs : List V) (v : Value) (us : List Value) (Q : VK), Inv X pins σ H s → RelV x v → Vals xs us → r x xs H Q →
    wpAny (model X.prog X.w) X.A (call (.builtin id) (v :: us)) (EP X pins σ Q) X.xe s

/-! ### lists of values -/
theorem Vals.one : ∀ {x : V} {us : List Value}, Vals [x] us → ∃ u, us = [u] ∧ RelV x u
  | _, _, .cons r .nil => ⟨_, rfl, r⟩
theorem Vals.two : ∀ {x y : V} {us : List Value}, Vals [x, y] us → ∃ u v, us = [u, v] ∧ RelV x u ∧ RelV y v
  | _, _, _, .cons r (.cons q .nil) => ⟨_, _, rfl, r, q⟩
theorem Vals.zero : ∀ {us : List Value}, Vals [] us → us = []
  | _, .nil => rfl
theorem Vals.dropLast {xs : List V} {us : List Value} (h : Vals xs us) : Vals xs.dropLast us.dropLast := by
  induction h with
  | nil => exact .nil
  | cons r t ih =>
    cases t with
    | nil => exact .nil
    | cons q t' => exact .cons r ih
theorem Vals.eraseIdx : ∀ {xs : List V} {us : List Value} (i : Nat), Vals xs us → Vals (xs.eraseIdx i) (us.eraseIdx i)
  | _, _, _, .nil => .nil
  | _, _, 0, .cons _ t => t
  | _, _, i + 1, .cons r t => .cons r (Vals.eraseIdx i t)
theorem Vals.reverse {xs : List V} {us : List Value} (h : Vals xs us) : Vals xs.reverse us.reverse := by
  induction h with
  | nil => exact .nil
  | cons r t ih => rw [List.reverse_cons, List.reverse_cons]; exact Vals.append ih (.cons r .nil)
theorem Vals.rep {xs : List V} {us : List Value} (h : Vals xs us) : ∀ k : Nat, Vals (List.replicate k xs).flatten (List.replicate k us).flatten
  | 0 => .nil
  | k + 1 => by
    rw [List.replicate_succ, List.replicate_succ, List.flatten_cons, List.flatten_cons]
    exact Vals.append h (Vals.rep h k)
theorem erase_last {α : Type} (l : List α) : l.eraseIdx (l.length - 1) = l.dropLast := by
  induction l with
  | nil => rfl
  | cons a r ih =>
    cases r with
    | nil => rfl
    | cons b r =>
      have e : (a :: b :: r).length - 1 = ((b :: r).length - 1) + 1 := by
        have h1 : (a :: b :: r).length = r.length + 2 := rfl
        have h2 : (b :: r).length = r.length + 1 := rfl
        omega
      rw [e, List.eraseIdx_cons_succ, ih]
      all_goals rfl
theorem len_erase {α : Type} : ∀ (l : List α) (i : Nat), (l.eraseIdx i).length ≤ l.length
  | [], _ => Nat.le_refl _
  | _ :: _, 0 => Nat.le_succ _
  | _ :: r, i + 1 => Nat.succ_le_succ (len_erase r i)
theorem foldl_rep (its : List Value) : ∀ (k : Nat) (acc : List Value),
    List.foldl (fun x1 x2 => x1 ++ x2) acc.toArray (List.replicate k its.toArray) = (acc ++ (List.replicate k its).flatten).toArray
  | 0, acc => by simp
  | k + 1, acc => by
    have e : acc.toArray ++ its.toArray = (acc ++ its).toArray := by simp
    have e2 : (acc ++ its) ++ (List.replicate k its).flatten = acc ++ (List.replicate (k + 1) its).flatten := by
      rw [List.replicate_succ, List.flatten_cons, List.append_assoc]
    rw [← e2, ← foldl_rep its k (acc ++ its), ← e, List.replicate_succ, List.foldl_cons]

section
variable {X : Cx} {pins : List (Addr × Obj)} {σ : St} {H : Hp} {s : Shared} {l b : Addr} {xs ys zs : List V}

/-! ### the two steps: a tracked list is rewritten, a new list is laid -/
theorem Inv.lset {its its' : List Value} {n : Nat} {f : Array Value → Array Value} {t' : Nat} (I : Inv X pins σ H s) (hH : H l = some (.lst xs))
    (e : s.heap.get? l = some { cls := .type "list", data := .seq its.toArray n }) (hf : f its.toArray = its'.toArray) (hv : Vals ys its') (hz : ys.length ≤ sizeLine) :
    Inv X pins σ (upd H l (.lst ys)) { s with heap := s.heap.update l (Obj.mapSeq f), toks := t' } := by
  have q := PySem.IsL.update e f
  rw [hf] at q
  refine I.write (x := l) (e := l) (by rw [hH]; exact trivial) (.inl rfl) (fun b' u hb hu => (Heap.get?_update_other s.heap (Obj.mapSeq f) (Ne.symm hb)).trans hu) ⟨_, q⟩ ?_
  exact ⟨hz, its', _, hv, q⟩
theorem Inv.lnew {its : List Value} {t' : Nat} (I : Inv X pins σ H s) (hv : Vals ys its) (hz : ys.length ≤ sizeLine) :
    Inv X pins σ (upd H s.heap.objs.size (.lst ys)) { s with heap := s.heap.push { cls := .type "list", data := .seq its.toArray }, toks := t' } :=
  I.laid (fun _ _ q => Heap.get?_push_of_some _ q) (Nat.le_refl _) ⟨hz, its, 0, hv, Heap.get?_push_size _ rfl⟩
theorem Inv.fresh (I : Inv X pins σ H s) : H s.heap.objs.size = none := I.hok.fresh (Nat.le_refl _)
theorem Inv.lstM (I : Inv X pins σ H s) (hH : H l = some (.lst xs)) : xs.length ≤ sizeLine ∧ ∃ (its : List Value) (n : Nat), Vals xs its ∧ xs.length = its.length ∧ s.heap.get? l = some { cls := .type "list", data := .seq its.toArray n } := by
  obtain ⟨z, its, n, r, e⟩ := I.hok l _ hH
  exact ⟨z, its, n, r, r.length, e⟩

theorem notLongL {n : Nat} (h : n ≤ sizeLine) : Builtin.List.listTooLong n = false := by
  unfold Builtin.List.listTooLong
  exact decide_eq_false (by omega)
end

section
variable {X : Cx}

/-! ### methods -/
def rAppend : V → List V → Hp → VK → Prop := fun x vs H Q => ∃ l xs y, x = .ref l ∧ vs = [y] ∧ H l = some (.lst xs) ∧ xs.length < sizeLine ∧ Q .non (upd H l (.lst (xs ++ [y])))
theorem mt_append : MtM X "list.append" rAppend := by
  intro pins s σ H x vs v us Q I rx rv h
  obtain ⟨l, xs, y, rfl, rfl, hH, hz, q⟩ := h
  cases rx
  obtain ⟨u, rfl, ru⟩ := rv.one
  obtain ⟨z, its, n, r, hl, e⟩ := I.lstM hH
  refine call_meets F.slot_list_append ⟨_, e, rfl⟩ F.entry_list_append (F.args_list_append_2 _ _) (PySem.list_append l its.toArray n u (by rw [List.size_toArray]; omega)) ⟨e, ?_⟩
  refine ⟨.non, _, I.lset (its' := its ++ [u]) hH e (by simp) (r.append (.cons ru .nil)) ?_, rfl, q⟩
  rw [List.length_append, List.length_singleton]
  omega

def rExtend : V → List V → Hp → VK → Prop := fun x vs H Q => ∃ l b xs zs, x = .ref l ∧ vs = [.ref b] ∧ H l = some (.lst xs) ∧ H b = some (.lst zs) ∧ xs.length + zs.length ≤ sizeLine ∧ Q .non (upd H l (.lst (xs ++ zs)))
theorem mt_extend : MtM X "list.extend" rExtend := by
  intro pins s σ H x vs v us Q I rx rv h
  obtain ⟨l, b, xs, zs, rfl, rfl, hH, hB, hz, q⟩ := h
  cases rx
  obtain ⟨u, rfl, ru⟩ := rv.one
  cases ru
  obtain ⟨z, its, n, r, hl, e⟩ := I.lstM hH
  obtain ⟨z2, its2, n2, r2, hl2, e2⟩ := I.lstM hB
  have hsz : its.toArray.size + its2.toArray.size ≤ sizeLine := by rw [List.size_toArray, List.size_toArray]; omega
  have hlong : ¬ (!its.toArray.isEmpty && Builtin.List.listTooLong (its.toArray.size + its2.toArray.size)) = true := by
    rw [notLongL hsz, Bool.and_false]
    exact Bool.false_ne_true
  refine call_meets F.slot_list_extend ⟨_, e, rfl⟩ F.entry_list_extend (F.args_list_extend_2 _ _)
    (AutoSeq1.list_extend_list_list_0 l its.toArray n b its2.toArray n2 hlong (by rw [List.size_toArray]; omega) (by omega)) ⟨e, e2, ?_⟩
  refine ⟨.non, _, I.lset (its' := its ++ its2) hH e (by simp) (r.append r2) ?_, rfl, q⟩
  rw [List.length_append]
  omega

def rPop : V → List V → Hp → VK → Prop := fun x vs H Q => ∃ l xs y, x = .ref l ∧ vs = [] ∧ H l = some (.lst xs) ∧ xs[xs.length - 1]? = some y ∧ Q y (upd H l (.lst xs.dropLast))
theorem mt_pop : MtM X "list.pop" rPop := by
  intro pins s σ H x vs v us Q I rx rv h
  obtain ⟨l, xs, y, rfl, rfl, hH, hy, q⟩ := h
  cases rx
  have hus := rv.zero
  subst hus
  obtain ⟨z, its, n, r, hl, e⟩ := I.lstM hH
  obtain ⟨u, hu, ru⟩ := r.get hy
  have hy' : its.toArray[its.toArray.size - 1]? = some u := by
    show its.toArray[its.length - 1]? = some u
    rw [← Array.getElem?_toList, ← hl]
    exact hu
  refine call_meets F.slot_list_pop ⟨_, e, rfl⟩ F.entry_list_pop (F.args_list_pop_1 _) (MeetsSeq.list_pop_last l its.toArray n u hy' (by rw [List.size_toArray]; omega)) ⟨e, ?_⟩
  refine ⟨y, _, I.lset (its' := its.dropLast) hH e ?_ r.dropLast ?_, ru, q⟩
  · show its.toArray.eraseIdxIfInBounds (its.toArray.size - 1) = its.dropLast.toArray
    rw [List.size_toArray, List.eraseIdxIfInBounds_toArray, erase_last]
  · rw [List.length_dropLast]
    omega

def rPopAt : V → List V → Hp → VK → Prop := fun x vs H Q => ∃ l xs i k y, x = .ref l ∧ vs = [.int i] ∧ H l = some (.lst xs) ∧ -(2 ^ 63) ≤ i ∧ i < 2 ^ 63 ∧ seqIndex? i xs.length = some k ∧ xs[k]? = some y ∧ Q y (upd H l (.lst (xs.eraseIdx k)))
theorem mt_popAt : MtM X "list.pop" rPopAt := by
  intro pins s σ H x vs v us Q I rx rv h
  obtain ⟨l, xs, i, k, y, rfl, rfl, hH, h1, h2, hk, hy, q⟩ := h
  cases rx
  obtain ⟨u, rfl, ru⟩ := rv.one
  obtain ⟨t, rfl⟩ := ru
  obtain ⟨z, its, n, r, hl, e⟩ := I.lstM hH
  obtain ⟨w, hw, rw'⟩ := r.get hy
  refine call_meets F.slot_list_pop ⟨_, e, rfl⟩ F.entry_list_pop (F.args_list_pop_2 _ _)
    (MeetsSeq.list_pop_at l its.toArray n i t k w (fitsIndex_both h1 h2) (by rw [List.size_toArray, ← hl]; exact hk) (by rw [← Array.getElem?_toList]; exact hw) (by rw [List.size_toArray]; omega)) ⟨e, ?_⟩
  refine ⟨y, _, I.lset (its' := its.eraseIdx k) hH e ?_ (r.eraseIdx k) ?_, rw', q⟩
  · show its.toArray.eraseIdxIfInBounds k = (its.eraseIdx k).toArray
    rw [List.eraseIdxIfInBounds_toArray]
  · have := len_erase xs k
    omega

def rReverse : V → List V → Hp → VK → Prop := fun x vs H Q => ∃ l xs, x = .ref l ∧ vs = [] ∧ H l = some (.lst xs) ∧ Q .non (upd H l (.lst xs.reverse))
theorem mt_reverse : MtM X "list.reverse" rReverse := by
  intro pins s σ H x vs v us Q I rx rv h
  obtain ⟨l, xs, rfl, rfl, hH, q⟩ := h
  cases rx
  have hus := rv.zero
  subst hus
  obtain ⟨z, its, n, r, hl, e⟩ := I.lstM hH
  refine call_meets F.slot_list_reverse ⟨_, e, rfl⟩ F.entry_list_reverse (F.args_list_reverse_1 _) (AutoSeq1.list_reverse_list_0 l its.toArray n (by rw [List.size_toArray]; omega)) ⟨e, ?_⟩
  refine ⟨.non, _, I.lset (its' := its.reverse) hH e (by simp) r.reverse ?_, rfl, q⟩
  rw [List.length_reverse]
  omega

def rClear : V → List V → Hp → VK → Prop := fun x vs H Q => ∃ l xs, x = .ref l ∧ vs = [] ∧ H l = some (.lst xs) ∧ Q .non (upd H l (.lst []))
theorem mt_clear : MtM X "list.clear" rClear := by
  intro pins s σ H x vs v us Q I rx rv h
  obtain ⟨l, xs, rfl, rfl, hH, q⟩ := h
  cases rx
  have hus := rv.zero
  subst hus
  obtain ⟨z, its, n, r, hl, e⟩ := I.lstM hH
  refine call_meets F.slot_list_clear ⟨_, e, rfl⟩ F.entry_list_clear (F.args_list_clear_1 _) (AutoSeq1.list_clear_list_0 l its.toArray n (by rw [List.size_toArray]; omega)) ⟨e, ?_⟩
  exact ⟨.non, _, I.lset (its' := []) (ys := []) hH e rfl .nil (Nat.zero_le _), rfl, q⟩

/-! ### list + list, list += list, list * int -/
def rCat : R2 := fun x y H Q => ∃ l b xs zs, x = .ref l ∧ y = .ref b ∧ H l = some (.lst xs) ∧ H b = some (.lst zs) ∧ xs.length + zs.length ≤ sizeLine ∧ ∀ p, H p = none → Q (.ref p) (upd H p (.lst (xs ++ zs)))
theorem op_cat : OpR X (binaryOp .Add) rCat := by
  intro pins s σ H x y v u Q I rx ry h
  obtain ⟨l, b, xs, zs, rfl, rfl, hH, hB, hz, q⟩ := h
  cases rx
  cases ry
  obtain ⟨z, its, n, r, hl, e⟩ := I.lstM hH
  obtain ⟨z2, its2, n2, r2, hl2, e2⟩ := I.lstM hB
  refine PySem.P.add_list e e2 ?_ (by rw [List.size_toArray, List.size_toArray]; omega)
  have ea : its.toArray ++ its2.toArray = (its ++ its2).toArray := by simp
  rw [ea]
  exact ⟨.ref _, _, I.lnew (t' := s.toks) (r.append r2) (by rw [List.length_append]; omega), rfl, q _ I.fresh⟩
/-- a list times an int (a negative one is nothing) -/
def rRep : R2 := fun x y H Q => ∃ l k xs, x = .ref l ∧ y = .int k ∧ H l = some (.lst xs) ∧ -(2 ^ 63) ≤ k ∧ k < 2 ^ 63 ∧ xs.length * k.toNat ≤ sizeLine ∧
  ∀ p, H p = none → Q (.ref p) (upd H p (.lst (List.replicate k.toNat xs).flatten))
theorem len_rep {α : Type} (xs : List α) (k : Nat) : (List.replicate k xs).flatten.length = k * xs.length := by
  induction k with
  | zero => simp
  | succ k ih => rw [List.replicate_succ, List.flatten_cons, List.length_append, ih, Nat.succ_mul, Nat.add_comm]
theorem op_rep : OpR X (binaryOp .Mult) rRep := by
  intro pins s σ H x y v u Q I rx ry h
  obtain ⟨l, k, xs, rfl, rfl, hH, h1, h2, hz, q⟩ := h
  cases rx
  obtain ⟨t, rfl⟩ := ry
  obtain ⟨z, its, n, r, hl, e⟩ := I.lstM hH
  have hlen : its.toArray.size * k.toNat ≤ sizeLine := by rw [List.size_toArray, ← hl]; exact hz
  have hcap : ¬ its.toArray.size * k.toNat > (2 ^ 63 - 1) / 8 := by
    have : (sizeLine : Nat) ≤ (2 ^ 63 - 1) / 8 := by decide
    omega
  have hfit : ¬ (!Builtin.List.listFitsIndex k) = true := by
    rw [fitsIndex_both h1 h2]
    exact Bool.false_ne_true
  have hlong : ¬ Builtin.List.listTooLong (its.toArray.size * k.toNat) = true := by
    rw [notLongL hlen]
    exact Bool.false_ne_true
  have hnew : List.foldl (fun x1 x2 => x1 ++ x2) #[] (List.replicate (if its.toArray.isEmpty = true then 0 else k.toNat) its.toArray) = (List.replicate k.toNat its).flatten.toArray := by
    have f0 : ∀ m : Nat, List.foldl (fun x1 x2 => x1 ++ x2) #[] (List.replicate m its.toArray) = (List.replicate m its).flatten.toArray := fun m => by
      have := foldl_rep its m []
      rw [List.nil_append] at this
      exact this
    rw [f0]
    cases its with
    | nil => simp
    | cons a r' => rw [if_neg (by simp)]
  refine wpAny_binaryOp_repeat_ref (T := "list") (U := "int") (by decide) ⟨_, e, rfl⟩ (fun s' => typeIs_int s' k t) noFill_list_mul F.fills_int_mul F.slot_int_rmul repeat_list F.slot_int_index.lookup
    (call_meets F.slot_int_rmul (typeIs_int s k t) F.entry_int_rmul (F.args_int_rmul_2 _ _) (int___rmul___int_list k t l its.toArray n)
      ⟨e, rfl, ⟨_, e, rfl⟩, call_meets F.slot_list_mul ⟨_, e, rfl⟩ F.entry_list_mul (F.args_list_mul_2 _ _) (AutoListH.list___mul___list_int_3 l its.toArray n k t hfit hcap hlong) ⟨e, ?_⟩⟩)
  rw [hnew]
  exact ⟨.ref _, _, I.lnew (t' := s.toks) (r.rep k.toNat) (by rw [len_rep, Nat.mul_comm]; exact hz), rfl, q _ I.fresh⟩

/-! ### del xs[i] -/
theorem del_list {pins : List (Addr × Obj)} {s : Shared} {σ : St} {H : Hp} {l : Addr} {xs : List V} {i : Int} {t : Tok} {k : Nat} {Q : Unit → Shared → Prop} (I : Inv X pins σ H s) (hH : H l = some (.lst xs))
    (h1 : -(2 ^ 63) ≤ i) (h2 : i < 2 ^ 63) (hk : seqIndex? i xs.length = some k) (h : ∀ s', Inv X pins σ (upd H l (.lst (xs.eraseIdx k))) s' → Q () s') :
    wpAny (model X.prog X.w) X.A (delItem (.ref l) (.int i t)) Q X.xe s := by
  obtain ⟨z, its, n, r, hl, e⟩ := I.lstM hH
  refine PySem.P.delItem_list (k := k) e (fitsIndex_both h1 h2) (by rw [List.size_toArray, ← hl]; exact hk) (h _ ?_) (by rw [List.size_toArray]; omega)
  refine I.lset (its' := its.eraseIdx k) (t' := s.toks) hH e ?_ (r.eraseIdx k) ?_
  · show its.toArray.eraseIdxIfInBounds k = (its.eraseIdx k).toArray
    rw [List.eraseIdxIfInBounds_toArray]
  · have := len_erase xs k
    omega
end

/-! ### xs[a:b] = ys -/
section
variable {prog : Program} {w : World} {A : Around} {E : Value → Shared → Prop} {s : Shared}
theorem splice_eq (its its2 : List Value) (a c : Nat) : its.toArray.extract 0 a ++ its2.toArray ++ its.toArray.extract c its.toArray.size = (its.take a ++ its2 ++ its.drop c).toArray := by
  apply Array.toList_inj.mp
  first
    | (simp
       exact List.take_of_length_le (by simp))
    | simp [List.take_of_length_le]
    | simp
theorem bounds_run {a c n : Nat} (hac : a ≤ c) (hc : c ≤ n) : sliceBounds (some (a : Int)) (some (c : Int)) none n = ((a : Int), (c : Int), 1) := by
  simp only [sliceBounds, Option.getD_none]
  have h1 : ¬ ((a : Int) < 0) := by omega
  have h2 : ¬ ((c : Int) < 0) := by omega
  simp only [h1, h2, if_false, show (1 : Int) > 0 by decide, if_true]
  congr 1
  · omega
  · congr 1; omega
set_option maxRecDepth 100000 in
/-- list.__setitem__ with a slice of step one and another list -/
theorem setItem_slice {l b sl : Addr} {items new : Array Value} {n n2 : Nat} {vl vu : Value} {a c : Nat} {Q : Unit → Shared → Prop}
    (e : s.heap.get? l = some { cls := .type "list", data := .seq items n }) (e2 : s.heap.get? b = some { cls := .type "list", data := .seq new n2 }) (hne : l ≠ b)
    (hs : s.heap.IsSliceOf sl vl vu .none) (pl : IsPart vl (some (a : Int))) (pu : IsPart vu (some (c : Int))) (hac : a ≤ c) (hc : c ≤ items.size)
    (hsz : items.size + new.size ≤ sizeLine) (h : Q () { s with heap := s.heap.update l (Obj.mapSeq fun xs => xs.extract 0 a ++ new ++ xs.extract c xs.size) }) :
    wpAny (model prog w) A (setItem (.ref l) (.ref sl) (.ref b)) Q E s := by
  have hl : s.heap.IsList l items := PySem.IsL.isList e
  have hb : s.heap.IsList b new := PySem.IsL.isList e2
  obtain ⟨os, hos, hcs, hds⟩ := id hs
  have hTs : s.TypeIs (.ref sl) "slice" := ⟨os, hos, hcs⟩
  have hstep : ¬ ((rawPart none == rawInt 0) = true) := Bool.false_ne_true
  have hsame : Builtin.List.listSameRef (.ref l) (.ref b) = false := by
    unfold Builtin.List.listSameRef
    exact beq_eq_false_iff_ne.mpr hne
  have hmax : (max (a : Int) (c : Int)).toNat = c := by omega
  have hz' : ((fun xs : Array Value => xs.extract 0 a ++ new ++ xs.extract c xs.size) items).size ≤ sizeLine + 1 := by
    simp only [Array.size_append, Array.size_extract]
    omega
  unfold setItem
  try with_reducible refine wpAny_holding ?_
  first | refine wpAny_bind (wpAny_pure ?_) | skip
  refine wpAny_bind (wpAny_sequenceKey hl.typeIs (by decide) ?_)
  refine wpAny_bind (wpAny_callSpecial?_slot (name := Str.ofString "__setitem__") hl.typeIs slot_list_setitem
    (wpAny_call_entry slot_list_setitem hl.typeIs entry_list_setitem ?_ (args_list_setitem _ _ _)))
  show wpAny _ _ (Builtin.List.listSubscript? (.ref sl) >>= _) _ _ s
  refine wpAny_bind ?_
  unfold Builtin.List.listSubscript?
  refine wpAny_bind (wpAny_specialOf hTs slice_no_index ?_)
  simp only [Option.isNone_none, if_true]
  refine wpAny_pure ?_
  show wpAny _ _ (typeOf (.ref sl) >>= _) _ _ s
  refine wpAny_bind (wpAny_typeOf hTs ?_)
  first
    | rw [if_neg (by decide)]
    | refine PySem.W.KFB.if_not (by decide) ?_
  rw [listSliceParts_eq]
  refine wpAny_bind (wpAny_bind (wpAny_field hos hds (x := .none) rfl (wpAny_bind (wpAny_listPart .none ?_))))
  rw [if_neg hstep]
  refine wpAny_bind (wpAny_field hos hds (x := vl) rfl (wpAny_bind (wpAny_listPart pl ?_)))
  refine wpAny_bind (wpAny_field hos hds (x := vu) rfl (wpAny_bind (wpAny_listPart pu (wpAny_pure ?_))))
  first
    | simp only [hsame, Bool.false_eq_true, if_false]
    | refine PySem.W.KFB.if_not hsame ?_
    | (dsimp only
       rw [if_neg (by rw [hsame]; exact Bool.false_ne_true)])
  refine wpAny_bind (m := Builtin.List.listAllItems (.ref b) "must assign iterable to extended slice") ?_
  unfold Builtin.List.listAllItems
  refine wpAny_bind (wpAny_typeOf hb.typeIs ?_)
  first
    | refine PySem.W.KFB.if_so (by decide) ?_
    | rw [if_pos (by decide)]
    | simp only [beq_self_eq_true, Bool.true_or, if_true]
  unfold Builtin.List.listItems
  refine wpAny_bind (wpAny_seqItems e2 rfl (wpAny_pure ?_))
  refine wpAny_bind (wpAny_bind (wpAny_seqItems e rfl (wpAny_pure ?_)))
  refine wpAny_bind (wpAny_of_eq ((sliceIndices_raw (some (a : Int)) (some (c : Int)) none items.size (by simp)).trans (congrArg (pure : Int × Int × Int → Sem (Int × Int × Int)) (bounds_run hac hc))) ?_)
  show wpAny _ _ (if ((1 : Int) == 1) = true then _ else _) _ _ s
  rw [if_pos (by decide)]
  refine wpAny_bind (wpAny_rule ?_)
  first
    | simp only [notLongL hsz, Bool.false_eq_true, if_false]
    | refine PySem.W.KFB.if_not (notLongL hsz) ?_
  first | refine wpAny_bind (wpAny_pure ?_) | skip
  show wpAny _ _ (updateSeq l (fun xs => xs.extract 0 ((a : Int)).toNat ++ new ++ xs.extract (max (a : Int) (c : Int)).toNat xs.size) >>= _) _ _ s
  rw [hmax, Int.toNat_natCast]
  refine wpAny_bind (wpAny_updateSeq (hz := Nat.le_trans (Nat.le_add_right _ _) hsz) (_hz' := hz') e rfl ?_)
  refine wpAny_bind (wpAny_letGo ?_)
  first
    | exact wpAny_bind (wpAny_pure (wpAny_pure ⟨.none, rfl, wpAny_pure h⟩))
    | exact wpAny_pure ⟨.none, rfl, wpAny_pure h⟩
end

section
variable {X : Cx}
/-- xs[a:c] = ys of another list, at the value level: sl is the slice object that was just made -/
theorem set_slice {pins : List (Addr × Obj)} {s : Shared} {σ : St} {H : Hp} {l b sl : Addr} {xs ys : List V} {a c : Int} {vl vu : Value} {Q : Unit → Shared → Prop} (I : Inv X pins σ H s)
    (hH : H l = some (.lst xs)) (hB : H b = some (.lst ys)) (hne : l ≠ b) (hs : s.heap.IsSliceOf sl vl vu .none) (ra : RelV (.int a) vl) (rc : RelV (.int c) vu) (h0 : 0 ≤ a) (hac : a ≤ c) (hc : c ≤ xs.length)
    (hz : xs.length + ys.length ≤ sizeLine) (h : ∀ s', Inv X pins σ (upd H l (.lst (xs.take a.toNat ++ ys ++ xs.drop c.toNat))) s' → Q () s') :
    wpAny (model X.prog X.w) X.A (setItem (.ref l) (.ref sl) (.ref b)) Q X.xe s := by
  obtain ⟨ta, rfl⟩ := ra
  obtain ⟨tc, rfl⟩ := rc
  obtain ⟨z, its, n, r, hl, e⟩ := I.lstM hH
  obtain ⟨z2, its2, n2, r2, hl2, e2⟩ := I.lstM hB
  obtain ⟨a', rfl⟩ := Int.eq_ofNat_of_zero_le h0
  obtain ⟨c', rfl⟩ := Int.eq_ofNat_of_zero_le (Int.le_trans h0 hac)
  simp only [Int.toNat_natCast] at h
  refine setItem_slice (a := a') (c := c') e e2 hne hs (.int _ _) (.int _ _) (by omega) (by rw [List.size_toArray]; omega) (by rw [List.size_toArray, List.size_toArray]; omega) (h _ ?_)
  refine I.lset (its' := its.take a' ++ its2 ++ its.drop c') (t' := s.toks) hH e ?_ (Vals.append (Vals.append (r.take _) r2) (r.drop _)) ?_
  · exact splice_eq its its2 a' c'
  · rw [List.length_append, List.length_append, List.length_take, List.length_drop]
    omega
end
end L2

namespace Att
open PySem PySem.W PySem.Calls PyProof.Rows

/-! ### the script -/
theorem ints_of_wellAll {P : Params} {h : Heap} : ∀ (ns : List Int) (vs : List Value), WellAll P h vs (ns.map WData.int) → IntsAre vs ns := by
  intro ns
  induction ns with
  | nil =>
    intro vs w
    rw [List.map_nil] at w
    cases w
    exact .nil
  | cons n ns ih =>
    intro vs w
    rw [List.map_cons] at w
    cases w with
    | cons a b =>
      cases a
      exact .cons _ _ (ih _ b)

theorem script_of {l : OpenLaw} {n : Nat} (hn : l.most = some n) {P : Params} {h : Heap} {args : List WData} {vals : List Value}
    (hpre : l.row.toRowW.claim.pre args = true) (hwl : WellAll P h vals args) :
    ∃ a vs ns, vals = [Value.ref a] ∧ args = [WData.list (ns.map WData.int)] ∧ h.get? a = some { cls := .type "list", data := .seq vs.toArray } ∧ IntsAre vs ns ∧ ns.length ≤ n := by
  have hsh : WShape.hasAll [] args [.list .int] = true := (pre_splitW hpre).1
  have hc : l.pre.holds [] { args := args } = true := (pre_splitW hpre).2
  obtain ⟨d, r, rfl, h1, h2⟩ := hasAllW_cons hsh
  obtain rfl := hasAllW_nil h2
  obtain ⟨xs, rfl, h3⟩ := hasW_list h1
  obtain ⟨ns, rfl⟩ := items_int h3
  have hlen : ns.length ≤ n := by
    unfold OpenLaw.pre at hc
    have h4 : (WTm.not (.lt (.lit (.int (n : Int))) (.len (.arg 0)))).holds [] { args := [.list (ns.map .int)] } = true := by
      have h4 := (holds_andW hc).1
      rw [hn] at h4
      exact h4
    have h5 := condW_of h4 (w_not (w_lt w_lit (w_len_list (w_arg rfl))))
    rw [List.length_map] at h5
    refine Nat.le_of_not_lt fun q => ?_
    have q' : (n : Int) < ((ns.length : Nat) : Int) := by omega
    first
      | (rw [decide_eq_true q'] at h5; exact absurd h5 (by decide))
      | (simp at h5; omega)
  cases hwl with
  | cons w1 w2 =>
    cases w2
    cases w1 with
    | list ho hall => exact ⟨_, _, ns, rfl, rfl, ho, ints_of_wellAll ns _ hall, hlen⟩

theorem post_true (l : OpenLaw) (args : List WData) : l.row.toRowW.claim.post args (.bool true) args = true :=
  postW_of (r := l.row.toRowW) (X := (true == true))
    (show WShape.has [] (.bool true) .bool = true by first | rfl | decide | simp [WShape.has, WShape.arms, WShape.armsAll])
    (show (WTm.eq .res (.lit (.bool true))).value [] { args := args, res := some (.bool true), after := args } = some (.bool (true == true)) from w_eq_bool (w_res rfl) w_lit) rfl

/-! ### the attachment: holds_open's last premise (the goal 'hc' behind k_head) from a wpAny of the law's body -/
theorem attach {l : OpenLaw} {n : Nat} {q : Program} {loose : List Str} {XP : (Str → Option Value) → Heap → Prop} {YP : World → Heap → Prop} {d : DefRec} {x : Str}
    (hn : l.most = some n) (hdf : d.params.defaults = [])
    (hbind : ∀ pm cd doc v : Value, bindArgs (docDef d.name d.params d.body d.scope pm cd doc) ⟨[v], []⟩ = pure [(x, v)])
    (hx : d.scope.names.lookup x = some .local ∨ d.scope.names.lookup x = some .cell)
    (hk : d.scope.kind = .function) (hco : d.scope.isCoroutine = false) (hgen : d.scope.isGenerator = false)
    (body : ∀ (w : World) (s₀ s₁ s : Shared) (mg mb : Str → Option Value) (fa : Addr) (o : Obj) (pm cd doc : Value) (a : Addr) (vs : List Value) (ns : List Int),
      Ground q loose [] XP w s₀ mg mb s₁.heap → YP w s₁.heap →
      s₁.heap.get? fa = some o → o.data = .func (docDef d.name d.params d.body d.scope pm cd doc) → s₁.heap.CodeRec cd d.name → mg d.name = some (.ref fa) →
      s₁.heap.get? a = some { cls := .type "list", data := .seq vs.toArray } → IntsAre vs ns → ns.length ≤ n →
      s.gens = #[] → s.os = s₁.os →
      Fr s₁.heap s₁.heap.objs.size s.heap (bindL (envOfC d.name d.scope s₁.heap.objs.size fa cd).kindOf [(x, .ref a)] fun _ => none) →
      Cl s₁.heap.objs.size (cellsFrom (s₁.heap.objs.size + 1) d.scope.names []) s.heap (bindC (envOfC d.name d.scope s₁.heap.objs.size fa cd).kindOf [(x, .ref a)] fun _ => none) →
      wpAny (model l.prog w) (callerA.deeper (envOfC d.name d.scope s₁.heap.objs.size fa cd)) (execs d.body (envOfC d.name d.scope s₁.heap.objs.size fa cd))
        (fun f s' => f = .ret (.bool true) ∧ OldK s₁.heap s'.heap ∧ s'.os = s₁.os ∧ AllBare s'.gens) (fun _ _ => False) s) :
    WalkO q loose XP YP l.row.toRowW d [] (fun f vs => PySem.call f vs) := by
  intro w s₀ s₁ mg mb G Y fa o pm cd doc dV kV ho hd hcd hD hmg hg args vals as hpre hlay hrd hwl hlo
  obtain rfl : dV = .none := Dflts.none hD hdf
  obtain rfl : kV = .none := Dflts.noKw hD
  obtain ⟨a, vs, ns, rfl, rfl, hobj, hints, hlen⟩ := script_of hn hpre hwl
  refine enter_call ?_
  refine call_cells_ret (o := o) (by rw [depth_caller]; decide) ho (fd_plain hd) G.T.nolimit hcd (hbind pm cd doc (.ref a)) (fun y hy => ?_) (fun h₁ tk F X => ?_) hco hgen hk
  · obtain rfl : y = (x, Value.ref a) := List.mem_singleton.mp hy
    rcases hx with e | e
    · exact .inl e
    · exact .inr ⟨e, cellsFrom_some _ _ _ (.inl e)⟩
  · refine wpAny_mono (body w s₀ s₁ { s₁ with heap := h₁, toks := tk } mg mb fa o pm cd doc a vs ns G Y ho (fd_plain hd) hcd hmg hobj hints hlen hg rfl F X) (fun f s' hq => ?_) (fun _ _ hq => hq)
    obtain ⟨rfl, h2, h3, h4⟩ := hq
    exact ⟨.inl ⟨.bool true, .bool true, [], rfl, fun _ => rfl, .bool true, post_true l _, fun _ => ⟨List.Pairwise.nil, fun _ hm => (nomatch hm)⟩⟩, h2, h3, h4⟩

/-- the same from a codeAny of the CALL (for a layer whose function contracts speak of calls) -/
theorem attach_call {l : OpenLaw} {n : Nat} {q : Program} {loose : List Str} {XP : (Str → Option Value) → Heap → Prop} {YP : World → Heap → Prop} {d : DefRec}
    (hn : l.most = some n) (hdf : d.params.defaults = [])
    (call : ∀ (w : World) (s₀ s₁ : Shared) (mg mb : Str → Option Value) (fa : Addr) (o : Obj) (pm cd doc : Value) (a : Addr) (vs : List Value) (ns : List Int),
      Ground q loose [] XP w s₀ mg mb s₁.heap → YP w s₁.heap →
      s₁.heap.get? fa = some o → o.data = .func (docDef d.name d.params d.body d.scope pm cd doc) → s₁.heap.CodeRec cd d.name → mg d.name = some (.ref fa) →
      s₁.heap.get? a = some { cls := .type "list", data := .seq vs.toArray } → IntsAre vs ns → ns.length ≤ n → s₁.gens = #[] →
      codeAny (model l.prog w) callerA (.call (.ref fa) ⟨[.ref a], []⟩) (fun r s' => r = .ok (.ret (.bool true)) ∧ OldK s₁.heap s'.heap ∧ s'.os = s₁.os ∧ AllBare s'.gens) s₁) :
    WalkO q loose XP YP l.row.toRowW d [] (fun f vs => PySem.call f vs) := by
  intro w s₀ s₁ mg mb G Y fa o pm cd doc dV kV ho hd hcd hD hmg hg args vals as hpre hlay hrd hwl hlo
  obtain rfl : dV = .none := Dflts.none hD hdf
  obtain rfl : kV = .none := Dflts.noKw hD
  obtain ⟨a, vs, ns, rfl, rfl, hobj, hints, hlen⟩ := script_of hn hpre hwl
  refine enter_call (codeAny_mono (call w s₀ s₁ mg mb fa o pm cd doc a vs ns G Y ho (fd_plain hd) hcd hmg hobj hints hlen hg) fun r s' hq => ?_)
  obtain ⟨rfl, h2, h3, h4⟩ := hq
  exact ⟨.inl ⟨.bool true, .bool true, [], rfl, fun _ => rfl, .bool true, post_true l _, fun _ => ⟨List.Pairwise.nil, fun _ hm => (nomatch hm)⟩⟩, h2, h3, h4⟩

/-- the same where the top left finished generators (o_head chose holds_openN): nothing may have changed at all and no generator may be left -/
theorem attachN {l : OpenLaw} {n : Nat} {q : Program} {loose : List Str} {XP : (Str → Option Value) → Heap → Prop} {YP : World → Heap → Prop} {d : DefRec} {x : Str}
    (hn : l.most = some n) (hdf : d.params.defaults = [])
    (hbind : ∀ pm cd doc v : Value, bindArgs (docDef d.name d.params d.body d.scope pm cd doc) ⟨[v], []⟩ = pure [(x, v)])
    (hx : d.scope.names.lookup x = some .local ∨ d.scope.names.lookup x = some .cell)
    (hk : d.scope.kind = .function) (hco : d.scope.isCoroutine = false) (hgen : d.scope.isGenerator = false)
    (body : ∀ (w : World) (s₀ s₁ s : Shared) (mg mb : Str → Option Value) (fa : Addr) (o : Obj) (pm cd doc : Value) (a : Addr) (vs : List Value) (ns : List Int),
      Ground q loose [] XP w s₀ mg mb s₁.heap → YP w s₁.heap →
      s₁.heap.get? fa = some o → o.data = .func (docDef d.name d.params d.body d.scope pm cd doc) → s₁.heap.CodeRec cd d.name → mg d.name = some (.ref fa) →
      s₁.heap.get? a = some { cls := .type "list", data := .seq vs.toArray } → IntsAre vs ns → ns.length ≤ n →
      s.gens = #[] → s.os = s₁.os →
      Fr s₁.heap s₁.heap.objs.size s.heap (bindL (envOfC d.name d.scope s₁.heap.objs.size fa cd).kindOf [(x, .ref a)] fun _ => none) →
      Cl s₁.heap.objs.size (cellsFrom (s₁.heap.objs.size + 1) d.scope.names []) s.heap (bindC (envOfC d.name d.scope s₁.heap.objs.size fa cd).kindOf [(x, .ref a)] fun _ => none) →
      wpAny (model l.prog w) (callerA.deeper (envOfC d.name d.scope s₁.heap.objs.size fa cd)) (execs d.body (envOfC d.name d.scope s₁.heap.objs.size fa cd))
        (fun f s' => f = .ret (.bool true) ∧ (∀ b o, s₁.heap.get? b = some o → s'.heap.get? b = some o) ∧ s'.os = s₁.os ∧ s'.gens = #[]) (fun _ _ => False) s) :
    WalkN q loose XP YP l.row.toRowW d [] (fun f vs => PySem.call f vs) := by
  intro w s₀ s₁ mg mb G Y fa o pm cd doc dV kV ho hd hcd hD hmg hg args vals as hpre hlay hrd hwl hlo
  obtain rfl : dV = .none := Dflts.none hD hdf
  obtain rfl : kV = .none := Dflts.noKw hD
  obtain ⟨a, vs, ns, rfl, rfl, hobj, hints, hlen⟩ := script_of hn hpre hwl
  refine enter_callW ?_
  refine call_cells_ret (o := o) (by rw [depth_caller]; decide) ho (fd_plain hd) G.T.nolimit hcd (hbind pm cd doc (.ref a)) (fun y hy => ?_) (fun h₁ tk F X => ?_) hco hgen hk
  · obtain rfl : y = (x, Value.ref a) := List.mem_singleton.mp hy
    rcases hx with e | e
    · exact .inl e
    · exact .inr ⟨e, cellsFrom_some _ _ _ (.inl e)⟩
  · refine wpAny_mono (body w s₀ s₁ { s₁ with heap := h₁, toks := tk } mg mb fa o pm cd doc a vs ns G Y ho (fd_plain hd) hcd hmg hobj hints hlen hg rfl F X) (fun f s' hq => ?_) (fun _ _ hq => hq)
    obtain ⟨rfl, h2, h3, h4⟩ := hq
    exact ⟨.inl ⟨.bool true, .bool true, [], rfl, fun _ => rfl, .bool true, post_true l _, fun _ => ⟨List.Pairwise.nil, fun _ hm => (nomatch hm)⟩⟩, h2, h3, h4⟩

/-! ### rules over ANY heap (no ledger) from facts about the written part K: the library's own take a ledger (News) for what they write -/
section
variable {prog : Program} {w : World} {A : Around} {E : Value → Shared → Prop} {s : Shared} {K : Frag}

/-- a def of the module, or a method (qual 'C.m'), entered: the frame is the next address; cells behind it -/
theorem call_fn {R : Result → Shared → Prop} {name qual : Str} {params : Arguments} {body : List Stmt} {scope : Scope} {dV kV doc pm cdv ct oc : Value} {an od : Option Addr} {osl : Array (Option Value)} {f : Addr} {args : Args} {binds : List (Str × Value)}
    (X : K.In s.heap) (hlim : s.heap.NoLimit) (ho : K.lookup f = some ⟨oc, od, .func (fnOf name qual params body scope dV kV doc pm an cdv ct), osl⟩) (hcd : codeIn K cdv qual = true) (hroom : A.depth < recursionLimit)
    (hbind : BindsTo s (fnOf name qual params body scope dV kV doc pm an cdv ct) args binds)
    (hkind : (binds.all fun y => scope.names.lookup y.1 == some .local || scope.names.lookup y.1 == some .cell) = true)
    (h : ∀ s₁, InCallC s s.heap.objs.size (bindL (envOfC qual scope s.heap.objs.size f cdv).kindOf binds fun _ => none) (cellsFrom (s.heap.objs.size + 1) scope.names [])
        (bindC (envOfC qual scope s.heap.objs.size f cdv).kindOf binds fun _ => none) s₁ →
      wpAny (model prog w) (A.deeper (envOfC qual scope s.heap.objs.size f cdv)) (execs body (envOfC qual scope s.heap.objs.size f cdv))
        (fun fl s' => R (.ok (.ret (match fl with | .ret v => v | _ => .none))) s')
        (fun e s' => wpAny (model prog w) (A.deeper (envOfC qual scope s.heap.objs.size f cdv)) (leaving (envOfC qual scope s.heap.objs.size f cdv) e) (fun _ s'' => R (.error e) s'') (fun e' s'' => R (.error e') s'') s') s₁)
    (hco : scope.isCoroutine = false) (hgen : scope.isGenerator = false) (hk : scope.kind = .function) : codeAny (model prog w) A (.call (.ref f) args) R s := by
  refine codeAny_call_function hroom (X _ _ ho) rfl hco hgen rfl (codeRec_of X hcd) (hbind _ _ _ _ ?_)
  refine wpAny_newFunctionEnv_cells hk (kindsX hkind _) fun env he s₁ x => ?_
  subst he
  exact ⟨hlim.keeps x.toInCall.keep, codeAny_func (h s₁ x)⟩

/-- C(..): dict at size, instance at size + 1, then __init__ -/
theorem make_obj {R : Result → Shared → Prop} {C fI : Addr} {rest : List Value} {kw : List (Str × Value)}
    (X : K.In s.heap) (hm : makesIn K C = true) (hi : findIn K (.ref C) "__init__" = some (some (.ref fI))) (hf : isFn K (.ref fI) = true)
    (h : codeAny (model prog w) (A.under (.builtin "type.__call__" ⟨.ref C :: rest, kw⟩)) (.call (.ref fI) ⟨.ref (s.heap.objs.size + 1) :: rest, kw⟩) (InitBack (s.heap.objs.size + 1) R)
      { s with heap := (s.heap.push emptyDict).push (instObj C s.heap.objs.size) }) : codeAny (model prog w) A (.call (.ref C) ⟨rest, kw⟩) R s := by
  obtain ⟨hh, g, d, t, os⟩ := s
  exact make_core (makes_of X hm) (looks_findIn X hi) (fun self => bind_fn X self (beq_iff_eq.mp hf)) (.inl rfl) h

/-- x.name where the instance's dict holds the name and the class does not -/
theorem get_field {x C : Addr} {ox : Obj} {es : List DictEntry} {n : Nat} {name : Str} {expr : Bool} {v : Value} {Q : Value → Shared → Prop}
    (X : K.In s.heap) (I : PySem.W.InstAt s.heap x ox C (some (dictOf es n))) (hg : plainGet K C name = true) (hh : hasDictIn K C = true) (ha : findIn K (.ref C) name = some none)
    (hl : getL name es = some (some v)) (hv : handedIn v = true) (h : Q v { s with toks := s.toks + 1 }) : wpAny (model prog w) A (getAttr (.ref x) name expr) Q E s :=
  get_value X I (plainGet_of hg).1 (findObj_own hh ha rfl hl) hv h

/-- x.m(..): the method found in the class -/
theorem get_method {x C f : Addr} {ox : Obj} {es : List DictEntry} {n : Nat} {name : Str} {pl : Sem Bool} {Q : Value × List Value → Shared → Prop}
    (X : K.In s.heap) (I : PySem.W.InstAt s.heap x ox C (some (dictOf es n))) (hg : plainGet K C name = true) (hf : findIn K (.ref C) name = some (some (.ref f))) (ht : isFn K (.ref f) = true)
    (hl : getL name es = some none) (h : Q (.ref f, [.ref x]) s) : wpAny (model prog w) A (getMethod (.ref x) name pl) Q E s :=
  method_fn X I (plainGet_of hg).1 (plainGet_of hg).2 hf (beq_iff_eq.mp ht) (by show (lookIn name (dictOf es n)).map _ = _; rw [lookIn_dict, hl]; rfl) h

/-! the whole heap as the ledger: makes every rule that writes through a ledger a rule over any heap -/
def noObjs (h : Heap) : Heap := { h with objs := #[] }
theorem noObjs_get (h : Heap) (b : Addr) : (noObjs h).get? b = none := by
  cases e : (noObjs h).get? b with
  | none => rfl
  | some o => exact absurd (Heap.lt_size e) (Nat.not_lt_zero _)
def ledger (h : Heap) (L d : Addr) : List (Addr × Obj) := (List.range h.objs.size).filterMap fun a => if a = L ∨ a = d then none else (h.get? a).map fun o => (a, o)
theorem mem_ledger {h : Heap} {L d a : Addr} {o : Obj} : (a, o) ∈ ledger h L d ↔ a ≠ L ∧ a ≠ d ∧ h.get? a = some o := by
  unfold ledger
  rw [List.mem_filterMap]
  constructor
  · rintro ⟨b, _, e⟩
    split at e
    · cases e
    · rename_i hb
      obtain ⟨o', ho, e'⟩ := Option.map_eq_some_iff.mp e
      cases e'
      exact ⟨fun q => hb (.inl q), fun q => hb (.inr q), ho⟩
  · rintro ⟨n1, n2, ho⟩
    refine ⟨a, List.mem_range.mpr (Heap.lt_size ho), ?_⟩
    rw [if_neg (show ¬ (a = L ∨ a = d) from fun q => q.elim n1 n2), ho] <;> rfl
theorem news_ledger {h : Heap} {L d : Addr} {od : Obj} (hne : d ≠ L) (ho : h.get? d = some od) : News (noObjs h) L h ([] ++ (d, od) :: ledger h L d) := by
  rintro ⟨a, o⟩ hp
  rcases List.mem_cons.mp hp with e | hp
  · cases e
    exact ⟨ho, hne, noObjs_get _ _⟩
  · obtain ⟨n1, n2, e⟩ := mem_ledger.mp hp
    exact ⟨e, n1, noObjs_get _ _⟩
theorem fr_all {h : Heap} {L : Addr} {m : Str → Option Value} (n : h.Ns L m) : Fr (noObjs h) L h m :=
  ⟨n, fun b o e => (by rw [noObjs_get] at e; cases e), Nat.zero_le _⟩
/-- Upd of the head entry (for append_K, setItem_K ..) -/
theorem upd_ledger {h : Heap} {L d : Addr} {o o' : Obj} : Upd d o o' ((d, o) :: ledger h L d) ((d, o') :: ledger h L d) :=
  .head fun ⟨_, _⟩ hp => (mem_ledger.mp hp).2.1

/-- x.name = v over any heap: L is any namespace of the heap (the frame's, say): its map stays, its object is not told; all else but the dict stays -/
theorem set_field {x C dx L : Addr} {ox : Obj} {m : Str → Option Value} {es es' : List DictEntry} {n n' : Nat} {name : Str} {v : Value} {Q : Unit → Shared → Prop}
    (X : K.In s.heap) (I : PySem.W.InstAt s.heap x ox C (some (dictOf es n))) (hd : ox.dict = some dx) (hL : s.heap.Ns L m) (hne : dx ≠ L)
    (hs : findIn K (.ref C) "__setattr__" = some (some (.builtin "object.__setattr__"))) (hp : plainOver K C = true) (ht : takerIn K C name = some none) (hh : hasDictIn K C = true) (hl : (getL name es).isSome = true)
    (e : (putL name (PyData.keyHash w.params name) (.str name (s.toks + 1)) v es, putN name es n) = (es', n')) (hz : es'.length ≤ 1000)
    (h : ∀ h' : Heap, h'.Ns L m → h'.get? dx = some (dictOf es' n') → (∀ b o, b ≠ dx → b ≠ L → s.heap.get? b = some o → h'.get? b = some o) → Q () { s with heap := h', toks := s.toks + 2 }) :
    wpAny (model prog w) A (setAttr (.ref x) name v) Q E s := by
  obtain ⟨e1, e2⟩ := Prod.mk.inj e
  have hdx : s.heap.get? dx = some (dictOf es n) := by
    have := I.dict
    rw [hd] at this
    exact this
  refine set_plain X I hs (osa_dict (s := { s with toks := s.toks + 1 }) (h₀ := noObjs s.heap) (L := L) (m := m) (od := dictOf es n) (od' := dictOf es' n') (es := es') (n := n') (pre := []) (post := ledger s.heap L dx)
    (fr_all hL) (news_ledger hne hdx) X I hd hp ht hh hl (fun _ q => nomatch q) (fun ⟨_, _⟩ q => (mem_ledger.mp q).2.1) (by rw [putName_dict, e1, e2]) rfl hz fun h' F' N' => ?_)
  exact h h' F'.ns (N'.get (List.Mem.head _)) fun b o n1 n2 ho => N'.get (List.Mem.tail _ (mem_ledger.mpr ⟨n2, n1, ho⟩))
end
end Att

namespace L2
open PySem PySem.Spec PyProof.Rows

theorem vals_ints : ∀ {vs : List Value} {ns : List Int}, IntsAre vs ns → Vals (ns.map V.int) vs
  | _, _, .nil => .nil
  | _, _, .cons n t h => .cons ⟨t, rfl⟩ (vals_ints h)

/-- nothing is tracked but the script, known to the object (or it is an object of the module) -/
def Only (H : Hp) : Prop := ∀ b, H b = none ∨ ∃ o xs, H b = some (.frz o (.lst xs))

/-- THE HEAD: the law's promise, at the heap behind the top. F, the promise of the law's def, may use that base is part of the heap (so K.In base, base.Ns mainGlobals mg stand in Mod) -/
theorem law_call {P : Program} {w : World} {K : PySem.W.Frag} {mg mb : Str → Option Value} {CX : CXT} {k : Nat} {fa a : Addr} {fd : FuncData} {x : Str} {sp : Sp} {s₁ : Shared} {vs : List Value} {ns : List Int}
    (KX : K.In s₁.heap) (hns : s₁.heap.Ns mainGlobals mg) (hb : s₁.heap.Ns builtinsNs mb) (hbb : ∀ x : Str, x ≠ "__name__" → mb x = bootBuiltins x) (hlim : s₁.heap.NoLimit) (hg : s₁.gens = #[])
    (ha : s₁.heap.get? a = some { cls := .type "list", data := .seq vs.toArray }) (hi : IntsAre vs ns) (hl : ns.length ≤ sizeLine) (hr : Room k callerA)
    (F : ∀ base : Heap, K.In base → base.Ns mainGlobals mg → FnOk P w K mg base CX k fa fd [x] sp) (hbind : ∀ (s : Shared) (u : Value), BindsTo s fd ⟨[u], []⟩ [(x, u)])
    (hsp : ∀ H : Hp, Only H → SqL K H a (ns.map V.int) → sp [.ref a] H (fun v _ => v = .bl true) fun _ _ _ => False)
    (hCX : ∀ H e s', CX [] H s₁ (fun _ _ _ => False) e s' → False) :
    codeAny (model P w) callerA (.call (.ref fa) ⟨[.ref a], []⟩) (fun r s' => r = .ok (.ret (.bool true)) ∧ OldK s₁.heap s'.heap ∧ s'.os = s₁.os ∧ AllBare s'.gens) s₁ := by
  have rv := vals_ints hi
  have lenV := hi.length
  -- from an abstract heap in which nothing but the script may be tracked
  have core : ∀ H : Hp, Only H → SqL K H a (ns.map V.int) → HOk P w H s₁.heap → (∀ b, H b ≠ none → b = a) → (H a ≠ none → K.lookup a = none) →
      codeAny (model P w) callerA (.call (.ref fa) ⟨[.ref a], []⟩) (fun r s' => r = .ok (.ret (.bool true)) ∧ OldK s₁.heap s'.heap ∧ s'.os = s₁.os ∧ AllBare s'.gens) s₁ := by
    intro H hO hS hok hA hK
    have base_of : ∀ {b : Addr} {o : Obj}, s₁.heap.get? b = some o → H b = none → (hidT s₁.heap H).get? b = some o := fun e n => hidT_get e n
    have noA : ∀ {b : Addr} {o : Obj} {es : Array DictEntry} {ep : Nat}, s₁.heap.get? b = some o → o.data = .dict es ep → H b = none := fun {b o es ep} e d => by
      cases q : H b with
      | none => rfl
      | some u =>
        have e' : b = a := hA b (by rw [q]; simp)
        subst e'
        rw [ha] at e; cases e
        have d' : Data.seq vs.toArray _ = Data.dict es ep := d
        cases d'
    have nsK : ∀ {b : Addr} {m : Str → Option Value}, s₁.heap.Ns b m → (hidT s₁.heap H).Ns b m := fun {b m} ⟨o, es, ep, e, d, r⟩ => ⟨o, es, ep, base_of e (noA e d), d, r⟩
    have hKb : K.In (hidT s₁.heap H) := fun b o e => base_of (KX b o e) (by
      cases q : H b with
      | none => rfl
      | some u =>
        have e' : b = a := hA b (by rw [q]; simp)
        subst e'
        rw [hK (by rw [q]; simp)] at e; cases e)
    have hM : Mod K mg (hidT s₁.heap H) := ⟨hKb, nsK hns, ⟨mb, nsK hb, hbb⟩, let ⟨mc, h1, h2⟩ := hlim; ⟨mc, nsK h1, h2⟩⟩
    have e0 : Env0 P w K mg (hidT s₁.heap H) callerA [] s₁ H := ⟨rfl, hM, fun b o e => of_hidT e, Nat.le_of_eq (hidT_size _ _), trivial, fun b hb => absurd (show b ∈ ([] : List Addr) from hb) (by simp), hok, .of_eq hg⟩
    refine codeAny_mono ((F _ hKb (nsK hns)).run callerA [] s₁ H ⟨[.ref a], []⟩ [.ref a] [.ref a] _ _ hr e0 (hbind s₁ (.ref a)) (.cons rfl .nil) (hsp H hO hS)) fun r s' h => ?_
    cases r with
    | error e => exact (hCX H e s' h).elim
    | ok fl =>
      cases fl with
      | next => exact False.elim h
      | brk => exact False.elim h
      | cont => exact False.elim h
      | ret u =>
        obtain ⟨v, H', os, bare, un, hok', r', q⟩ := h
        have q' : v = .bl true := q
        subst q'
        obtain rfl : u = Value.bool true := r'
        refine ⟨rfl, OldK.of_keep fun b o e => ?_, os, bare⟩
        cases q : H b with
        | none => exact un.keep b o e q (by intro z; exact absurd (show b ∈ ([] : List Addr) from z) (by simp)) (by simp)
        | some u =>
          rcases hO b with z | ⟨ob, xs, z⟩
          · rw [q] at z; cases z
          · have z2 := un.frzs b ob _ z
            obtain ⟨e1, _⟩ := hok b _ z
            obtain ⟨e2, _⟩ := hok' b _ z2
            rw [e] at e1; cases e1
            exact e2
  cases hk : K.lookup a with
  | some o =>
    -- the script is one of the module's own objects
    have e := KX a o hk
    rw [ha] at e
    cases e
    refine core (fun _ => none) (fun _ => .inl rfl) (.inr ⟨_, vs.toArray, _, hk, rfl, rfl, rfl, by rw [List.size_toArray, lenV]; exact hl, by simpa using rv⟩) (fun b u z => by have z' : (none : Option HO) = some u := z; cases z') (fun b z => absurd rfl z) fun z => absurd rfl z
  | none =>
    refine core (fun b => if b = a then some (.frz { cls := .type "list", data := .seq vs.toArray } (.lst (ns.map V.int))) else none) (fun b => ?_) (.inl (.inr ⟨{ cls := .type "list", data := .seq vs.toArray }, if_pos rfl⟩)) (fun b u z => ?_) (fun b z => ?_) fun _ => hk
    · by_cases hb : b = a
      · exact .inr ⟨_, _, if_pos hb⟩
      · exact .inl (if_neg hb)
    · by_cases hb : b = a
      · have z' := (if_pos hb).symm.trans z
        cases z'
        subst hb
        exact ⟨ha, by rw [List.length_map]; exact hl, vs, _, rv, ha⟩
      · have z' := (if_neg hb).symm.trans z
        cases z'
    · by_cases hb : b = a
      · exact hb
      · exact absurd (if_neg hb) z
end L2

namespace L2
open PySem PySem.Spec PyProof.Rows

abbrev KOf {K : PySem.W.Frag} {h : Heap} (_ : K.In h) : PySem.W.Frag := K

/-- the goal that k_head leaves (case hc), from the law's promise. F gives the function object fd (K's own) once, then the promise over every base -/
theorem walk_of {l : PySem.W.OpenLaw} {n k : Nat} {q : Program} {loose : List Str} {XP : (Str → Option Value) → Heap → Prop} {YP : World → Heap → Prop} {d : DefRec} {K : Params → PySem.W.Frag} {CX : World → CXT} {sp : World → Sp} {x : Str}
    (hn : l.most = some n) (hn2 : n ≤ sizeLine) (hdf : d.params.defaults = []) (hr : Room k callerA)
    (hY : ∀ (w : World) (h : Heap), YP w h → (K w.params).In h)
    (F : ∀ (w : World) (mg : Str → Option Value) (fa : Addr) (h : Heap), (K w.params).In h → h.Ns mainGlobals mg → mg d.name = some (.ref fa) →
      ∃ fd : FuncData, (∀ (s : Shared) (u : Value), BindsTo s fd ⟨[u], []⟩ [(x, u)]) ∧
        ∀ base : Heap, (K w.params).In base → base.Ns mainGlobals mg → FnOk l.prog w (K w.params) mg base (CX w) k fa fd [x] (sp w))
    (hsp : ∀ (w : World) (H : Hp) (a : Addr) (ns : List Int), ns.length ≤ n → Only H → SqL (K w.params) H a (ns.map V.int) → sp w [.ref a] H (fun v _ => v = .bl true) fun _ _ _ => False)
    (hCX : ∀ (w : World) (H : Hp) (s : Shared) (e : Value) (s' : Shared), CX w [] H s (fun _ _ _ => False) e s' → False) :
    PySem.W.WalkO q loose XP YP l.row.toRowW d [] (fun f vs => PySem.call f vs) := by
  refine Att.attach_call hn hdf fun w s₀ s₁ mg mb fa o pm cd doc a vs ns G Y ho hd hcd hmg hobj hints hlen hg => ?_
  have KX := hY w _ Y
  obtain ⟨fd, hb, hF⟩ := F w mg fa _ KX G.T.g hmg
  exact law_call KX G.T.g G.T.b G.T.builtins G.T.nolimit hg hobj hints (Nat.le_trans hlen hn2) hr hF hb (fun H hO hS => hsp w H a ns hlen hO hS) fun H e s' => hCX w H s₁ e s'
/-- the same where the promise hangs on the written part alone: (sp := My.sp_law), no hole under a binder -/
theorem walk_ofK {l : PySem.W.OpenLaw} {n k : Nat} {q : Program} {loose : List Str} {XP : (Str → Option Value) → Heap → Prop} {YP : World → Heap → Prop} {d : DefRec} {K : Params → PySem.W.Frag} {CX : CXT} {sp : PySem.W.Frag → Sp} {x : Str}
    (hn : l.most = some n) (hn2 : n ≤ sizeLine) (hdf : d.params.defaults = []) (hr : Room k callerA)
    (hY : ∀ (w : World) (h : Heap), YP w h → (K w.params).In h)
    (F : ∀ (w : World) (mg : Str → Option Value) (fa : Addr) (h : Heap), (K w.params).In h → h.Ns mainGlobals mg → mg d.name = some (.ref fa) →
      ∃ fd : FuncData, (∀ (s : Shared) (u : Value), BindsTo s fd ⟨[u], []⟩ [(x, u)]) ∧
        ∀ base : Heap, (K w.params).In base → base.Ns mainGlobals mg → FnOk l.prog w (K w.params) mg base CX k fa fd [x] (sp (K w.params)))
    (hsp : ∀ (K : PySem.W.Frag) (H : Hp) (a : Addr) (ns : List Int), ns.length ≤ n → Only H → SqL K H a (ns.map V.int) → sp K [.ref a] H (fun v _ => v = .bl true) fun _ _ _ => False)
    (hCX : ∀ (H : Hp) (s : Shared) (e : Value) (s' : Shared), CX [] H s (fun _ _ _ => False) e s' → False) :
    PySem.W.WalkO q loose XP YP l.row.toRowW d [] (fun f vs => PySem.call f vs) :=
  walk_of (K := K) (CX := fun _ => CX) (sp := fun w => sp (K w.params)) hn hn2 hdf hr hY F (fun w H a ns h1 h2 h3 => hsp (K w.params) H a ns h1 h2 h3) fun _ H s e s' => hCX H s e s'
end L2

/- THE LAST THEOREM (shape; LID, My.* are yours):
   My.Adr: a structure of the addresses that your layer names (classes, functions); My.Txt K t: a structure (Prop) of the equations over K;
   My.txt_mk : {K} {implicit addresses ..} (e1 : nsIn K mainGlobals "law" = some (some (.ref f))) (e2 : K.lookup f = some ⟨oc, od, .func (fnOf "law" "law" params body scope dV kV doc pm an cdv ct), sl⟩) (e3 : codeIn K cdv "law" = true) .. : ∃ t, My.Txt K t

set_option maxRecDepth 100000 in
set_option maxHeartbeats 0 in
theorem PySem.Challenge.cw_LID_holds : PySem.Challenge.rw_LID.Holds := by
  w_on; o_law; k_head; (case hw => w_witness2)
  k_fill
  refine L2.walk_of (l := PySem.Challenge.rw_LID) (n := 63) (k := 40) (x := "script") (CX := fun w => ..) (sp := fun _ => My.sp_law) rfl (by decide) rfl ⟨rfl, by decide, by decide⟩ (fun w h Y => PySem.W.kIn_of Y) ?F ?S ?C
  case F =>
    intro w mg fa h KX G hmg
    have T : ∃ t, My.Txt (L2.KOf KX) t := by
      dsimp only [L2.KOf]                          -- K must stand as «<heap const> w.params» for k_is
      refine' My.txt_mk ?e1 ?e2 ?e3 ..
      (case e1 => PySem.W.k_is)                    -- in the order: a name -> its address -> its object -> its parts
      (case e2 => PySem.W.k_is)
      ..
    obtain ⟨t, T⟩ := T
    have e0 := hmg.symm.trans (PySem.W.mg_of KX G T.law)
    cases e0                                       -- fa is the law's own address
    exact ⟨_, fun s u => .of_eq rfl, fun base kb nb => My.law_fn T kb nb⟩     -- if «.of_eq rfl» comes too early: refine' ⟨_, ?b, fun base kb nb => My.law_fn T kb nb⟩; exact fun s u => .of_eq rfl
  case S => exact fun w H a ns hl hO hS => ..
  case C => exact ..
(the tactic k_is has no namespace: write k_is) -/

/-! SHORT WORDS over the layer: a def of the text, its body, what a loop and a test want. -/
namespace L2
open PySem PySem.Spec PyProof.Rows

/-! ### the text by places -/
/-- the j-th statement of a class's body -/
def inClass (s : Stmt) (j : Nat) : Stmt := match s with
  | .ClassDef _ _ _ body _ _ _ _ _ _ _ => body.getD j (.Pass ⟨0, 0, 0, 0⟩)
  | _ => .Pass ⟨0, 0, 0, 0⟩
def defArgs (s : Stmt) : Arguments := match s with
  | .FunctionDef _ a _ _ _ _ _ _ _ _ => a
  | _ => { posonlyargs := [], args := [], vararg := none, kwonlyargs := [], kw_defaults := [], kwarg := none, defaults := [] }
def defBody (s : Stmt) : List Stmt := match s with
  | .FunctionDef _ _ b _ _ _ _ _ _ _ => b
  | _ => []
def defScope (s : Stmt) : Scope := match s with
  | .FunctionDef _ _ _ _ _ _ sc _ _ _ => sc
  | _ => { kind := .function, names := [], isGenerator := false, isCoroutine := false }

/-! ### no exception leaves a def -/
abbrev CX0 : CXT := fun _ _ _ _ _ _ => False
abbrev E0 : XK := fun _ _ _ => False
theorem pass0 {X : Cx} : Passes CX0 X E0 := fun _ _ _ _ _ _ _ h => h.elim

/-! ### a def (or method) of the text as it stands behind the top -/
structure Fun (K : PySem.W.Frag) (x qual : Str) (st : Stmt) (f : Addr) (fd : FuncData) : Prop where
  ex : ∃ (oc : Value) (od : Option Addr) (kV doc pm : Value) (an : Option Addr) (cdv ct : Value) (osl : Array (Option Value)),
    fd = PySem.W.fnOf x qual (defArgs st) (defBody st) (defScope st) .none kV doc pm an cdv ct ∧ K.lookup f = some ⟨oc, od, .func fd, osl⟩ ∧ PySem.W.codeIn K cdv qual = true
  kp : PySem.W.keepIn K (.ref f) = true
section
variable {P : Program} {w : World} {K : PySem.W.Frag} {mg : Str → Option Value} {base : Heap}
/-- THE RULE for a def: its body as a term of rules, and the reading of that term -/
theorem Fun.ok {x qual : Str} {st : Stmt} {f : Addr} {fd : FuncData} {N ps : List Str} {k : Nat} {sp : Sp} (F : Fun K x qual st f fd) (S : FnScope N ps (defScope st)) (len : ∀ vs H Q E, sp vs H Q E → vs.length = ps.length)
    (hbody : ∀ (cdv : Value) (A : Around) (outer : List Env) (s : Shared) (H : Hp) (vs : List V) (Q : VK) (E : XK), Room k (A.deeper (envOfC qual (defScope st) s.heap.objs.size f cdv)) → sp vs H Q E →
      ∃ t, PSs (cxOf CX0 P w K mg base N qual (defScope st) f cdv A outer s H E).nox (defBody st) t ∧ t { nx := fun _ H' => Q .non H', rt := Q } (start N vs) H) : FnOk P w K mg base CX0 (k + 1) f fd ps sp := by
  obtain ⟨oc, od, kV, doc, pm, an, cdv, ct, osl, rfl, lk, hcd⟩ := F.ex
  refine fn_of lk hcd S len fun A outer s H vs Q E hr hsp => ?_
  obtain ⟨t, h, q⟩ := hbody cdv A outer s H vs Q E hr hsp
  exact ⟨t, h.nox, q⟩
/-- how its arguments bind (no defaults): h is «fun _ _ _ _ _ _ us hl => match us, hl with | [_, _], _ => rfl», one _ a parameter -/
theorem Fun.binds {x qual : Str} {st : Stmt} {f : Addr} {fd : FuncData} {ps : List Str} (F : Fun K x qual st f fd)
    (h : ∀ (kV doc pm : Value) (an : Option Addr) (cdv ct : Value) (us : List Value), us.length = ps.length → bindArgs (PySem.W.fnOf x qual (defArgs st) (defBody st) (defScope st) .none kV doc pm an cdv ct) ⟨us, []⟩ = pure (ps.zip us)) : Binds K fd ps [] := by
  obtain ⟨oc, od, kV, doc, pm, an, cdv, ct, osl, rfl, lk, hcd⟩ := F.ex
  exact .all (h kV doc pm an cdv ct)
theorem fun_mk {x qual : Str} {st : Stmt} {f : Addr} {oc : Value} {od an : Option Addr} {osl : Array (Option Value)} {kV doc pm cdv ct : Value} (l : K.lookup f = some ⟨oc, od, .func (PySem.W.fnOf x qual (defArgs st) (defBody st) (defScope st) .none kV doc pm an cdv ct), osl⟩)
    (c : PySem.W.codeIn K cdv qual = true) (k : PySem.W.keepIn K (.ref f) = true) : Fun K x qual st f (PySem.W.fnOf x qual (defArgs st) (defBody st) (defScope st) .none kV doc pm an cdv ct) := ⟨⟨oc, od, kV, doc, pm, an, cdv, ct, osl, rfl, l, c⟩, k⟩
end
theorem hu_of {A : Around} {k : Nat} (hr : Room k A) : A.units + 1 < cLine := Nat.lt_of_le_of_lt (Nat.add_le_add_left (by decide : 1 ≤ 64) _) hr.units
theorem small1000 {n : Nat} (h : n ≤ 1000) : n < sizeLine := Nat.lt_of_le_of_lt h (by decide)

/-! ### expressions in short: the name that stands in the i-th slot -/
section
variable {X : Cx}
theorem pv (i : Nat) {x : Str} {pos : Pos} (hN : X.N[i]? = some x := by rfl) (hv : Vis X.env.scope x := by first | exact Or.inl rfl | exact Or.inr (Or.inl rfl) | exact Or.inr (Or.inr rfl)) (hd : (x == ("__debug__" : Str)) = false := by decide)
    (hcd : (x == ("__classdict__" : Str)) = false := by decide) : PE X (.Name x pos) (tVar i) := pe_var hN hv hd hcd
end

/-! ### tests -/
theorem iteF {A B : Prop} (h : B) : if false = true then A else B := by
  rw [if_neg Bool.false_ne_true]
  exact h
theorem iteT {A B : Prop} (h : A) : if true = true then A else B := by
  rw [if_pos rfl]
  exact h
theorem ite2 {c A B : Prop} [Decidable c] (h1 : c → A) (h2 : ¬ c → B) : if c then A else B := by
  by_cases h : c
  · rw [if_pos h]
    exact h1 h
  · rw [if_neg h]
    exact h2 h
theorem iteNS {c A B : Prop} [Decidable c] (hc : c) (h : B) : if (!decide c) = true then A else B := by
  rw [decide_eq_true hc]
  exact iteF h

/-! ### heaps -/
/-- all that was tracked is as it was -/
def Same (H H' : Hp) : Prop := ∀ b o, H b = some o → H' b = some o
theorem Same.refl (H : Hp) : Same H H := fun _ _ h => h
theorem Same.trans {H H1 H2 : Hp} (a : Same H H1) (b : Same H1 H2) : Same H H2 := fun c o h => b c o (a c o h)
theorem Same.free {H H' : Hp} (e : Same H H') {l : Addr} (h : H' l = Option.none) : H l = Option.none := by
  cases q : H l with
  | none => rfl
  | some o =>
    rw [e l o q] at h
    cases h
theorem Same.seq {K : PySem.W.Frag} {H H' : Hp} {a : Addr} {xs : List V} (e : Same H H') (h : SqL K H a xs) : SqL K H' a xs := by
  rcases h with (h | ⟨o, h⟩) | h
  · exact .inl (.inl (e _ _ h))
  · exact .inl (.inr ⟨o, e _ _ h⟩)
  · exact .inr h

end L2

set_option Elab.async false
set_option linter.all false
set_option maxRecDepth 100000
set_option maxHeartbeats 4000000
/-! comprehensions over the hand layer (own work) -/
namespace L2
open PySem PySem.Spec PyProof.Rows

theorem gap_no {a b : Nat} (z : a = b + 1) (h : a < b) : False := by omega
/-- what a comprehension's block needs of its names: N the def's, N' the block's, ixs where a block's name is one of the def's -/
structure CompSc (N N' : List Str) (ixs : List (Option Nat)) (S sc : Scope) : Prop where
  kind : sc.kind = .function
  nocell : ∀ y ∈ sc.names, y.2 ≠ .cell
  loc : ∀ y ∈ sc.names, y.2 = .local → sc.names.lookup y.1 = some .local
  free : ∀ y ∈ sc.names, y.2 = .free → S.names.lookup y.1 = some .cell ∨ S.names.lookup y.1 = some .free
  nd : N'.Nodup
  len : ixs.length = N'.length
  cap : ((ixs.zip N').all fun p => match p.1 with
    | none => true
    | some i => decide (N[i]? = some p.2) && decide (sc.names.lookup p.2 = some NameKind.free)) = true

def pick (ixs : List (Option Nat)) (σ : St) : St := ixs.map fun o => o.bind fun i => (σ[i]?).bind id

theorem CompSc.at {N N' : List Str} {ixs : List (Option Nat)} {S sc : Scope} (h : CompSc N N' ixs S sc) {j i : Nat} {x : Str} (e1 : N'[j]? = some x) (e2 : ixs[j]? = some (some i)) :
    N[i]? = some x ∧ sc.names.lookup x = some .free := by
  have hm : (some i, x) ∈ ixs.zip N' := by
    refine List.mem_of_getElem? (i := j) ?_
    rw [List.getElem?_zip_eq_some]
    exact ⟨e2, e1⟩
  have q := List.all_eq_true.mp h.cap _ hm
  simp only [Bool.and_eq_true, decide_eq_true_eq] at q
  exact q

theorem pick_at {ixs : List (Option Nat)} {σ : St} {j : Nat} {v : V} (e : (pick ixs σ)[j]? = some (some v)) : ∃ i, ixs[j]? = some (some i) ∧ σ[i]? = some (some v) := by
  unfold pick at e
  rw [List.getElem?_map] at e
  cases h : ixs[j]? with
  | none => rw [h] at e; cases e
  | some o =>
    rw [h] at e
    cases o with
    | none => cases e
    | some i =>
      refine ⟨i, rfl, ?_⟩
      have e' : (σ[i]?).bind id = some v := Option.some.inj e
      cases q : σ[i]? with
      | none => rw [q] at e'; cases e'
      | some w => rw [q] at e'; exact congrArg some e'

/-- the cells that a block is given -/
theorem closure_all {env : Env} : ∀ (names : List (Str × NameKind)) (acc : List (Str × Addr)), (∀ y ∈ names, y.2 = .free → ∃ c, env.cells.lookup y.1 = some c) →
    (∀ x c, acc.lookup x = some c → env.cells.lookup x = some c) →
    ∃ cl, (∀ x c, cl.lookup x = some c → env.cells.lookup x = some c) ∧ (∀ y ∈ names, y.2 = .free → ∃ c, cl.lookup y.1 = some c) ∧ (∀ x c, acc.lookup x = some c → ∃ d, cl.lookup x = some d) ∧
      (forIn names acc fun (x : Str × NameKind) (r : List (Str × Addr)) => (if (x.2 == NameKind.free) = true then (do let a ← cellOf env x.1; pure (ForInStep.yield ((x.1, a) :: r))) else pure (ForInStep.yield r) : Sem (ForInStep (List (Str × Addr))))) = (pure cl : Sem (List (Str × Addr)))
  | [], acc, _, ha => ⟨acc, ha, fun _ h => (nomatch h), fun x c h => ⟨c, h⟩, rfl⟩
  | (n, k) :: r, acc, h, ha => by
    by_cases hk : k = .free
    · subst hk
      obtain ⟨c, hc⟩ := h (n, .free) List.mem_cons_self rfl
      obtain ⟨cl, h1, h2, h3, h4⟩ := closure_all r ((n, c) :: acc) (fun y hy => h y (List.mem_cons_of_mem _ hy)) (fun x d hd => by
        rw [List.lookup_cons] at hd
        cases q : x == n with
        | true =>
          rw [q] at hd
          have e1 : x = n := by simpa using q
          have e2 : c = d := Option.some.inj hd
          rw [e1, ← e2]; exact hc
        | false => rw [q] at hd; exact ha x d hd)
      refine ⟨cl, h1, fun y hy hf => ?_, fun x d hd => ?_, ?_⟩
      · rcases List.mem_cons.mp hy with e | hy
        · subst e
          exact h3 n c (by simp [List.lookup_cons])
        · exact h2 y hy hf
      · cases q : x == n with
        | true =>
          have e1 : x = n := by simpa using q
          subst e1
          exact h3 x c (by simp [List.lookup_cons])
        | false => exact h3 x d (by rw [List.lookup_cons, q]; exact hd)
      · rw [← h4, List.forIn_cons]
        have e : cellOf env n = pure c := by unfold cellOf; rw [hc]
        show ((if (NameKind.free == NameKind.free) = true then (do let a ← cellOf env n; pure (ForInStep.yield ((n, a) :: acc))) else pure (ForInStep.yield acc) : Sem _) >>= _) = _
        rw [if_pos (by decide), e]
        rfl
    · obtain ⟨cl, h1, h2, h3, h4⟩ := closure_all r acc (fun y hy => h y (List.mem_cons_of_mem _ hy)) ha
      refine ⟨cl, h1, fun y hy hf => ?_, h3, ?_⟩
      · rcases List.mem_cons.mp hy with e | hy
        · subst e; exact absurd hf hk
        · exact h2 y hy hf
      · rw [← h4, List.forIn_cons]
        have e : (k == NameKind.free) = false := by simpa using hk
        show ((if (k == NameKind.free) = true then (do let a ← cellOf env n; pure (ForInStep.yield ((n, a) :: acc))) else pure (ForInStep.yield acc) : Sem _) >>= _) = _
        rw [if_neg (by rw [e]; exact Bool.false_ne_true)]
        rfl
theorem closure_ok {sc : Scope} {env : Env} (h : ∀ y ∈ sc.names, y.2 = .free → ∃ c, env.cells.lookup y.1 = some c) :
    ∃ cl, closureFor sc env = pure cl ∧ (∀ x c, cl.lookup x = some c → env.cells.lookup x = some c) ∧ (∀ y ∈ sc.names, y.2 = .free → ∃ c, cl.lookup y.1 = some c) := by
  obtain ⟨cl, h1, h2, _, h4⟩ := closure_all (env := env) sc.names [] h (fun x c e => by simp at e)
  refine ⟨cl, ?_, h1, h2⟩
  unfold closureFor
  exact (congrArg (fun m : Sem (List (Str × Addr)) => m >>= fun r => pure r) h4).trans rfl

theorem relabel_lookup {env : Env} {x : Str} : ∀ {names : List (Str × NameKind)} {k : NameKind}, names.lookup x = some k →
    (names.map fun (n, k) => if (k == NameKind.free && env.scope.kind == .function && env.kindOf n == some .cell) then (n, NameKind.cell) else (n, k)).lookup x
      = some (if (k == NameKind.free && env.scope.kind == .function && env.kindOf x == some .cell) then NameKind.cell else k)
  | [], _, h => by simp at h
  | (n, k0) :: r, k, h => by
    rw [List.lookup_cons] at h
    rw [List.map_cons]
    cases q : x == n with
    | true =>
      have e1 : x = n := by simpa using q
      subst e1
      rw [q] at h
      have e2 : k0 = k := Option.some.inj h
      subst e2
      dsimp only
      by_cases hc : (k0 == NameKind.free && env.scope.kind == .function && env.kindOf x == some .cell) = true
      · rw [if_pos hc, if_pos hc, List.lookup_cons, q]
      · rw [if_neg hc, if_neg hc, List.lookup_cons, q]
    | false =>
      rw [q] at h
      have ih := relabel_lookup (env := env) h
      dsimp only
      by_cases hc : (k0 == NameKind.free && env.scope.kind == .function && env.kindOf n == some .cell) = true
      · rw [if_pos hc, List.lookup_cons, q]; exact ih
      · rw [if_neg hc, List.lookup_cons, q]; exact ih
theorem relabel_none {env : Env} {x : Str} : ∀ {names : List (Str × NameKind)}, names.lookup x = none →
    (names.map fun (n, k) => if (k == NameKind.free && env.scope.kind == .function && env.kindOf n == some .cell) then (n, NameKind.cell) else (n, k)).lookup x = none
  | [], _ => rfl
  | (n, k0) :: r, h => by
    rw [List.lookup_cons] at h
    rw [List.map_cons]
    cases q : x == n with
    | true => rw [q] at h; cases h
    | false =>
      rw [q] at h
      have ih := relabel_none (env := env) h
      dsimp only
      by_cases hc : (k0 == NameKind.free && env.scope.kind == .function && env.kindOf n == some .cell) = true
      · rw [if_pos hc, List.lookup_cons, q]; exact ih
      · rw [if_neg hc, List.lookup_cons, q]; exact ih

/-- a comprehension's block as a context -/
def blk (X : Cx) (N' : List Str) (sc : Scope) (cl : List (Str × Addr)) (C : Addr) (s2 : Shared) (H2 : Hp) (fp : List Addr) : Cx :=
  { X with N := N', s₀ := s2, H₀ := H2, env := compEnvC sc cl C X.env, outer := X.stack, ex := fp, fn := fun _ => false, pn := [] }

theorem blk_start {X : Cx} {pins : List (Addr × Obj)} {σ : St} {H2 : Hp} {s2 : Shared} {N' : List Str} {ixs : List (Option Nat)} {S sc : Scope} {cl : List (Str × Addr)} {fp : List Addr} {h1 : Heap} {tk n0 : Nat}
    (I : Inv X pins σ H2 s2) (hS : X.env.scope = S) (SC : CompSc X.N N' ixs S sc) (hcl1 : ∀ x c, cl.lookup x = some c → X.env.cells.lookup x = some c) (hcl2 : ∀ y ∈ sc.names, y.2 = .free → ∃ c, cl.lookup y.1 = some c)
    (hf : ∀ b ∈ fp, FpOk X pins H2 b) (hfl : ∀ b ∈ fp, b < s2.heap.objs.size) (hns : h1.Ns (s2.heap.objs.size + 1) fun _ => none)
    (keep : ∀ b o, s2.heap.get? b = some o → h1.get? b = some o) (ha : h1.get? s2.heap.objs.size = some { cls := .type "list", data := .seq ([] : List Value).toArray n0 }) :
    Inv (blk X N' sc cl (s2.heap.objs.size + 1) s2 H2 fp) [] (pick ixs σ) (upd H2 s2.heap.objs.size (.lst [])) { s2 with heap := h1, toks := tk } := by
  have kfree : ∀ {x : Str} {k : NameKind}, (relabel sc X.env).names.lookup x = some k → k = .cell ∨ k = .free → (x, NameKind.free) ∈ sc.names := fun {x k} e hk => by
    cases q : sc.names.lookup x with
    | none =>
      have z := relabel_none (env := X.env) q
      have z' : (relabel sc X.env).names.lookup x = none := z
      rw [e] at z'; cases z'
    | some k0 =>
      have z := relabel_lookup (env := X.env) q
      have z' : (relabel sc X.env).names.lookup x = _ := z
      rw [e] at z'
      have m := PySem.mem_of_lookup q
      have hz := Option.some.inj z'
      by_cases hc : (k0 == NameKind.free && X.env.scope.kind == .function && X.env.kindOf x == some .cell) = true
      · have h0 : k0 = .free := by
          simp only [Bool.and_eq_true, beq_iff_eq] at hc
          exact hc.1.1
        rw [← h0]; exact m
      · rw [if_neg hc] at hz
        subst hz
        rcases hk with hk | hk
        · exact absurd hk (SC.nocell _ m)
        · rw [← hk]; exact m
  have fr : H2 s2.heap.objs.size = none := I.hok.fresh (Nat.le_refl _)
  have frC : H2 (s2.heap.objs.size + 1) = none := I.hok.fresh (Nat.le_succ _)
  have cl_lt : ∀ x c, X.env.cells.lookup x = some c → c < s2.heap.objs.size := fun x c e => by
    obtain ⟨v, q⟩ := I.cell x c e
    exact q.lt
  have ok : (blk X N' sc cl (s2.heap.objs.size + 1) s2 H2 fp).Ok := {
    mod := I.ok.mod
    kind := SC.kind
    glob := I.ok.glob
    blt := I.ok.blt
    above := Nat.le_succ _
    inj := fun x y c e1 e2 => I.ok.inj x y c (hcl1 x c e1) (hcl1 y c e2)
    has := fun x hx => by
      rcases hx with hx | hx
      · exact hcl2 _ (kfree hx (.inl rfl)) rfl
      · exact hcl2 _ (kfree hx (.inr rfl)) rfl
    cab := fun x c h => absurd (show false = true from h) Bool.false_ne_true
    hd := I.ok.hd
    frames := I.ok.frames
    stk := .inl rfl
    exf := fun b hb => ⟨Nat.ne_of_lt (Nat.lt_succ_of_lt (hfl b hb)), fun x c e => (hf b hb).2.2.2.2.1 x c (hcl1 x c e)⟩
    bs := I.bs
    bsz := Nat.le_trans I.ok.bsz I.sz
    noex := fun b o e hb => by
      rcases (hf b hb).2.2.2.1 with z | z
      · exact I.ok.noex b o e z
      · exact absurd (Nat.lt_of_lt_of_le (Heap.lt_size e) (Nat.le_trans I.ok.bsz z)) (Nat.lt_irrefl _)
    exfs := fun b hb hz => by
      rcases List.mem_cons.mp (I.stkSub b hz) with z | z
      · exact (hf b hb).2.1 z
      · exact (hf b hb).2.2.1 z
    funs := I.stack
    frf := I.stkFree }
  refine ⟨ok, rfl, I.bare, Un.laid keep (Nat.le_refl _) fr, ⟨_, hns, fun j x v e1 e2 e3 => ?_⟩, fun x c e => ?_, ?_, fun x c e => ?_, fun p hp => absurd (show p ∈ ([] : List (Addr × Obj)) from hp) (by simp), ?_, ?_⟩
  · obtain ⟨i, ei, ev⟩ := pick_at e2
    obtain ⟨eN, ef⟩ := SC.at e1 ei
    have hm := PySem.mem_of_lookup ef
    have hvis : X.env.scope.names.lookup x = some .cell ∨ X.env.scope.names.lookup x = some .free := by rw [hS]; exact SC.free _ hm rfl
    obtain ⟨m, hn, hl⟩ := I.loc
    obtain ⟨u, r, l⟩ := hl i x v eN ev (.inr hvis)
    refine ⟨u, r, ?_⟩
    rcases l with ⟨hk, _⟩ | ⟨_, c, ec, o, ho, hd⟩
    · have hk' : X.env.scope.names.lookup x = some .local := hk
      rcases hvis with z | z
      · rw [hk'] at z; cases z
      · rw [hk'] at z; cases z
    · obtain ⟨c', ec'⟩ := hcl2 _ hm rfl
      have e5 := hcl1 _ _ ec'
      rw [ec] at e5
      have e6 : c = c' := Option.some.inj e5
      subst e6
      refine .inr ⟨?_, c, ec', o, keep _ _ ho, hd⟩
      have z := relabel_lookup (env := X.env) ef
      have z' : (relabel sc X.env).names.lookup x = _ := z
      by_cases hc : (NameKind.free == NameKind.free && X.env.scope.kind == .function && X.env.kindOf x == some .cell) = true
      · rw [if_pos hc] at z'; exact .inl z'
      · rw [if_neg hc] at z'; exact .inr z'
  · obtain ⟨v, o, ho, hd⟩ := I.cell x c (hcl1 x c e)
    exact ⟨v, o, keep _ _ ho, hd⟩
  · show upd H2 s2.heap.objs.size _ (s2.heap.objs.size + 1) = none
    rw [upd_ne (Nat.ne_of_gt (Nat.lt_succ_self _))]
    exact frC
  · show upd H2 s2.heap.objs.size _ c = none
    rw [upd_ne (Nat.ne_of_lt (cl_lt x c (hcl1 x c e)))]
    exact I.freeC x c (hcl1 x c e)
  · exact I.hok.laid keep (Nat.le_refl _) ⟨Nat.zero_le _, [], n0, .nil, ha⟩
  · show (pick ixs σ).length = N'.length
    unfold pick
    rw [List.length_map]
    exact SC.len

/-- behind the block -/
theorem blk_end {X : Cx} {pins : List (Addr × Obj)} {σ σ' : St} {H2 H' : Hp} {s2 s' : Shared} {N' : List Str} {sc : Scope} {cl : List (Str × Addr)} {fp : List Addr} {C : Addr}
    (I : Inv X pins σ H2 s2) (hf : ∀ b ∈ fp, FpOk X pins H2 b) (J : Inv (blk X N' sc cl C s2 H2 fp) [] σ' H' s') : Inv X pins σ H' s' :=
  I.call' (ch := fp) J.os J.base J.hok J.bare fun b hb => ⟨(hf b hb).2.2.2.1, (hf b hb).2.1, (hf b hb).2.2.2.2.1, (hf b hb).2.2.2.2.2⟩

/-- the loop of a list's comprehension, its step ahead of the store in it -/
theorem comp_loop {prog : Program} {w : World} {A : Around} {R : Result → Shared → Prop} {s : Shared} {elt target iter : Expr} {ifs : List Expr} {scope : Scope} {pos : Pos} {it acc : Value} {env : Env} (I : Nat → Shared → Prop)
    (turn : ∀ n s, I n s → wpAny (model prog w) A (pyNext it) (fun r s₁ => match r with
      | none => R (.ok .next) s₁
      | some v => wpAny (model prog w) A (letOwnedTupleGo target it v) (fun _ t₁ => wpAny (model prog w) A (assign target env v) (fun _ s₂ =>
          wpAny (model prog w) A (forIn ifs true fun c r => if r = true then do let ok ← isTrue c env (eval c env); pure (ForInStep.yield ok) else pure (ForInStep.yield r)) (fun ok s₃ =>
            if ok = true then wpAny (model prog w) A (eval elt env) (fun x s₄ =>
              wpAny (model prog w) A (call (.builtin "list.append") [acc, x]) (fun _ s₅ => ∃ m, m < n ∧ I m s₅) (fun _ _ => False) s₄) (fun _ _ => False) s₃
            else ∃ m, m < n ∧ I m s₃) (fun _ _ => False) s₂) (fun _ _ => False) t₁) (fun _ _ => False) s₁) (fun _ _ => False) s)
    (n : Nat) (h : I n s) : codeAny (model prog w) A (.compLoop (.ListComp elt [⟨target, iter, ifs, 0⟩] scope pos) 0 it acc env) R s := by
  refine codeAny_loop rfl I (fun n s hI => ?_) n h
  show wpAny _ A ((compTurn (.ListComp elt [⟨target, iter, ifs, 0⟩] scope pos) 0 it acc env).onRaise (fun x => do noteFrame x env; theTreesLotGoes x)) _ _ s
  refine wpAny_noted (wpAny_noRaise ?_)
  rw [compTurn_list]
  refine wpAny_bind (wpAny_standAt (wpAny_bind (thn (turn n s hI) fun r s₁ h₁ => ?_)))
  cases r with
  | none => exact wpAny_pure h₁
  | some v =>
    refine wpAny_bind (thn h₁ fun _ t₁ h₂ => wpAny_bind (thn h₂ fun _ s₂ h₃ => wpAny_bind (thn h₃ fun ok s₃ h₄ => ?_)))
    cases ok with
    | false => exact wpAny_pure ⟨rfl, h₄⟩
    | true => exact wpAny_bind (wpAny_bind (thn h₄ fun x s₄ h₅ => wpAny_bind (thn h₅ fun _ s₅ h₆ => wpAny_pure (wpAny_pure ⟨rfl, h₆⟩))))

/-- the tests of a comprehension: none or one -/
def PIf (X : Cx) (ifs : List Expr) (t : TT) : Prop :=
  ∀ (pins : List (Addr × Obj)) (s : Shared) (σ : St) (H : Hp) (Q : Bool → Hp → Prop), Inv X pins σ H s → t σ H Q →
    wpAny (model X.prog X.w) X.A (forIn ifs true fun c r => if r = true then do let ok ← isTrue c X.env (eval c X.env); pure (ForInStep.yield ok) else pure (ForInStep.yield r)) (TP X pins σ Q) X.xe s
def tYes : TT := fun _ H Q => Q true H
theorem pif_nil {X : Cx} : PIf X [] tYes := fun _ _ _ H _ I h => wpAny_tests_nil ⟨H, I, h⟩
theorem pif_one {X : Cx} {c : Expr} {t : TT} (h : PT X c t) : PIf X [c] t := fun pins s σ H Q I hw => wpAny_tests_one (h pins s σ H Q I hw)

/-- a list's comprehension: W the invariant by the turn, a measure, what is gathered -/
def CompW (J : It) (g : TG) (tt : TT) (te : TE) (acc : Addr) (Fin : Hp → Prop) (W : Nat → Nat → List V → St → Hp → Prop) : Prop :=
  ∀ i m ys σ H, W i m ys σ H → (J.stop i H ∧ H acc = some (.lst ys) ∧ Fin H) ∨
    (J.go i H ∧ ∀ x H', J.yld i H x H' → g x σ H' fun σ2 H3 => tt σ2 H3 fun b H4 =>
      if b = true then te σ2 H4 fun y H5 => H5 acc = some (.lst ys) ∧ ys.length < sizeLine ∧ ∃ m', m' < m ∧ W (i + 1) m' (ys ++ [y]) σ2 (upd H5 acc (.lst (ys ++ [y])))
      else ∃ m', m' < m ∧ W (i + 1) m' ys σ2 H4)
def tComp (ixs : List (Option Nat)) (wi : TI) (g : TG) (tt : TT) (te : TE) : TE := fun σ H Q => wi σ H fun J H2 => ∀ acc, H2 acc = none →
  ∃ W : Nat → Nat → List V → St → Hp → Prop, (∃ m, W 0 m [] (pick ixs σ) (upd H2 acc (.lst []))) ∧ CompW J g tt te acc (Q (.ref acc)) W

section
variable {X : Cx} {tg iter elt : Expr} {ifs : List Expr} {sc S : Scope} {N' : List Str} {ixs : List (Option Nat)} {pos : Pos} {wi : TI} {g : TG} {tt : TT} {te : TE}

/-- the block runs: R is what is wanted behind the loop -/
theorem comp_run {pins : List (Addr × Obj)} {σ : St} {H2 : Hp} {s2 : Shared} {it : Addr} {fp : List Addr} {tn : Nat → Heap → Prop} {J : It} {cl : List (Str × Addr)} {R : Value → Addr → Result → Shared → Prop} {Fin : Hp → Prop} {W : Nat → Nat → List V → St → Hp → Prop} {m0 : Nat}
    (hxe : X.xe = fun _ _ => False) (hc : X.calm = true) (hS : X.env.scope = S) (SC : CompSc X.N N' ixs S sc) (hcl1 : ∀ x c, cl.lookup x = some c → X.env.cells.lookup x = some c) (hcl2 : ∀ y ∈ sc.names, y.2 = .free → ∃ c, cl.lookup y.1 = some c)
    (hg : ∀ cl C s H fp, PG (blk X N' sc cl C s H fp) tg g) (ht : ∀ cl C s H fp, PIf (blk X N' sc cl C s H fp) ifs tt) (he : ∀ cl C s H fp, PE (blk X N' sc cl C s H fp) elt te)
    (I : Inv X pins σ H2 s2) (T : Turn X.prog X.w X.K tg J fp it tn) (st : tn 0 s2.heap) (hf : ∀ b ∈ fp, FpOk X pins H2 b)
    (w0 : W 0 m0 [] (pick ixs σ) (upd H2 s2.heap.objs.size (.lst []))) (hW : CompW J g tt te s2.heap.objs.size Fin W)
    (hR : ∀ H' s' m, Inv X pins σ H' s' → s'.heap.Ns (s2.heap.objs.size + 1) m → H' (s2.heap.objs.size + 1) = none → Fin H' → R (.ref s2.heap.objs.size) (s2.heap.objs.size + 1) (.ok .next) s') :
    wpAny (model X.prog X.w) X.A (newList []) (fun acc s₃ => wpAny (model X.prog X.w) X.A (newFunctionEnv sc X.env.globals cl [] X.env.qual none .none (some X.env)) (fun cenv s₄ =>
      codeAny (model X.prog X.w) X.A (.compStart (.ListComp elt [⟨tg, iter, ifs, 0⟩] sc pos) 0 (.ref it) acc { cenv with scope := relabel sc X.env }) (R acc cenv.locals) s₄) X.xe s₃) X.xe s2 := by
  refine wpAny_newObj_type (wpAny_newFunctionEnv SC.nocell (by intro y hy; simp at hy) (fun h₁ hns₁ hsb₁ => ?_) SC.kind)
  dsimp only at hns₁ hsb₁ ⊢
  have eC : (s2.heap.push { cls := .type "list", dict := none, data := .seq ([] : List Value).toArray }).objs.size = s2.heap.objs.size + 1 := by rw [Heap.size_push]
  rw [eC] at hns₁ hsb₁ ⊢
  have old : ∀ b o, s2.heap.get? b = some o → h₁.get? b = some o := fun b o e => hsb₁.extBut b o (Nat.ne_of_lt (Nat.lt_succ_of_lt (Heap.lt_size e))) (Heap.get?_push_of_some _ (Heap.get?_push_of_some _ e))
  have hacc : h₁.get? s2.heap.objs.size = some { cls := .type "list", data := .seq ([] : List Value).toArray } := hsb₁.extBut _ _ (Nat.ne_of_lt (Nat.lt_succ_self _)) (Heap.get?_push_of_some _ (Heap.get?_push_size _ rfl))
  have hfl : ∀ b ∈ fp, b < s2.heap.objs.size := fun b hb => by
    obtain ⟨o, e, _⟩ := T.obj _ _ st b hb
    exact Heap.lt_size e
  have I1 := blk_start (tk := s2.toks + ([] : List (Str × Value)).length) I hS SC hcl1 hcl2 hf hfl hns₁ old hacc
  have st1 : tn 0 h₁ := T.keep _ _ _ st fun b _ o e => old b o e
  generalize hY : blk X N' sc cl (s2.heap.objs.size + 1) s2 H2 fp = Y at I1
  have hfY : ∀ {H' : Hp}, (∀ b ∈ fp, H' b = none) → ∀ b ∈ fp, FpOk Y [] H' b := fun {H'} hn b hb => by
    subst hY
    refine ⟨hn b hb, Nat.ne_of_lt (Nat.lt_succ_of_lt (hfl b hb)), fun hz => ?_, .inl hb, fun x c e => (hf b hb).2.2.2.2.1 x c (hcl1 x c e), fun p hp => absurd (show p ∈ ([] : List (Addr × Obj)) from hp) (by simp)⟩
    rcases List.mem_cons.mp (I.stkSub b hz) with z | z
    · exact (hf b hb).2.1 z
    · exact (hf b hb).2.2.1 z
  have hg' : PG Y tg g := by subst hY; exact hg _ _ _ _ _
  have ht' : PIf Y ifs tt := by subst hY; exact ht _ _ _ _ _
  have he' : PE Y elt te := by subst hY; exact he _ _ _ _ _
  have hxY : Y.xe = fun _ _ => False := by subst hY; exact hxe
  have hcY : Y.calm = true := by subst hY; exact hc
  have hp0 : ∀ b ∈ fp, upd H2 s2.heap.objs.size (.lst []) b = none := fun b hb => by
    rw [upd_ne (Nat.ne_of_lt (hfl b hb))]
    exact (hf b hb).1
  have loop : ∀ s₃ : Shared, s₃ = { s2 with heap := h₁, toks := s2.toks + ([] : List (Str × Value)).length } →
      codeAny (model X.prog X.w) X.A (.compLoop (.ListComp elt [⟨tg, iter, ifs, 0⟩] sc pos) 0 (.ref it) (.ref s2.heap.objs.size) Y.env) (R (.ref s2.heap.objs.size) (s2.heap.objs.size + 1)) s₃ := by
    rintro s₃ rfl
    have eP : X.prog = Y.prog := by subst hY; rfl
    have eW : X.w = Y.w := by subst hY; rfl
    have eA : X.A = Y.A := by subst hY; rfl
    have eK : X.K = Y.K := by subst hY; rfl
    have eM : model X.prog X.w = model Y.prog Y.w := by rw [eP, eW]
    have back : ∀ {σ' H' s'}, Inv Y [] σ' H' s' → Inv X pins σ H' s' ∧ (∃ m, s'.heap.Ns (s2.heap.objs.size + 1) m) ∧ H' (s2.heap.objs.size + 1) = none := fun {σ' H' s'} K => by
      subst hY
      obtain ⟨m, hn, _⟩ := K.loc
      exact ⟨blk_end I hf K, ⟨m, hn⟩, K.free⟩
    clear hY
    refine comp_loop (fun n s' => ∃ i ys σ' H', Inv Y [] σ' H' s' ∧ tn i s'.heap ∧ (∀ b ∈ fp, H' b = none) ∧ W i n ys σ' H') ?_ m0 ⟨0, [], _, _, I1, st1, hp0, w0⟩
    rintro n s3 ⟨i, ys, σ3, H3, I3, st3, fr3, w3⟩
    rcases hW i n ys σ3 H3 w3 with ⟨stop, ha3, fin⟩ | ⟨go, step⟩
    · have td := T.done Y eP.symm eW.symm eK.symm hcY i [] s3 σ3 H3 (fun _ _ => False) I3 (hfY fr3) st3 stop
      rw [← eA] at td
      refine thn td fun r s4 ⟨hr, I4⟩ => ?_
      subst hr
      obtain ⟨J4, ⟨m, hn⟩, hC⟩ := back I4
      exact hR H3 s4 m J4 hn hC fin
    · have td := T.item Y eP.symm eW.symm eK.symm hcY i [] s3 σ3 H3 (fun _ _ => False) I3 (hfY fr3) st3 go
      rw [← eA] at td
      refine thn td fun r s4 ⟨u, hr, h4⟩ => ?_
      subst hr
      refine thn h4 fun _ s5 ⟨x, H5, I5, r5, y5, st5, fr5⟩ => ?_
      have I5' := I5.pinned (hfY fr5) (T.obj _ _ st5)
      have unx : ∀ {α : Type} {t : Sem α} {Q : α → Shared → Prop} {s : Shared}, wpAny (model Y.prog Y.w) Y.A t Q Y.xe s → wpAny (model X.prog X.w) X.A t Q (fun _ _ => False) s := fun h => by rw [eM, eA, ← hxY]; exact h
      refine thn (unx (hg' _ s5 σ3 H5 x u _ I5' r5 (step x H5 y5))) fun _ s6 ⟨σ6, H6, I6, q6⟩ => ?_
      refine thn (unx (ht' _ s6 σ6 H6 _ I6 q6)) fun b s7 ⟨H7, I7, q7⟩ => ?_
      have keepIt : ∀ {σ' H' s'}, Inv Y ([] ++ pinsAt fp s5.heap) σ' H' s' → tn (i + 1) s'.heap ∧ ∀ b ∈ fp, H' b = none := fun {σ' H' s'} K =>
        ⟨T.keep _ _ _ st5 fun b hb o e => (K.pin (b, o) (List.mem_append_right _ (List.mem_append_right _ (mem_pinsAt hb e)))).1, fun b hb => by
          obtain ⟨o, e, d⟩ := T.obj _ _ st5 b hb
          exact (K.pin (b, o) (List.mem_append_right _ (List.mem_append_right _ (mem_pinsAt hb e)))).2.1⟩
      cases b with
      | false =>
        obtain ⟨m', hm, w7⟩ := q7
        exact ⟨m', hm, i + 1, ys, σ6, H7, I7.unpinned, (keepIt I7).1, (keepIt I7).2, w7⟩
      | true =>
        refine thn (unx (he' _ s7 σ6 H7 _ I7 q7)) fun v s8 ⟨y, H8, I8, r8, q8⟩ => ?_
        obtain ⟨ha8, hz8, m', hm, w8⟩ := q8
        refine thn (unx (mt_append (X := Y) _ s8 σ6 H8 (.ref s2.heap.objs.size) [y] (.ref s2.heap.objs.size) [v] (fun v9 H9 => v9 = .non ∧ H9 = upd H8 s2.heap.objs.size (.lst (ys ++ [y]))) I8 rfl (.cons r8 .nil) ⟨_, ys, y, rfl, rfl, ha8, hz8, rfl, rfl⟩)) fun v9 s9 ⟨z9, H9, I9, _, _, e9⟩ => ?_
        subst e9
        exact ⟨m', hm, i + 1, ys ++ [y], σ6, _, I9.unpinned, (keepIt I9).1, (keepIt I9).2, w8⟩
  have eEnv : Y.env = { (newEnv sc (s2.heap.objs.size + 1) X.env.globals cl X.env.qual none .none (some X.env) builtinsNs) with scope := relabel sc X.env } := by subst hY; rfl
  rw [eEnv] at loop
  exact codeAny_compStart_list (loop _ rfl) (T.self X.A 0 _ _ _ st1 (loop _ rfl))

theorem pe_comp (hxe : X.xe = fun _ _ => False) (hc : X.calm = true) (hS : X.env.scope = S) (SC : CompSc X.N N' ixs S sc) (hi : PI X tg iter wi)
    (hg : ∀ cl C s H fp, PG (blk X N' sc cl C s H fp) tg g) (ht : ∀ cl C s H fp, PIf (blk X N' sc cl C s H fp) ifs tt) (he : ∀ cl C s H fp, PE (blk X N' sc cl C s H fp) elt te)
    (hs : ∀ x, foldedSetIterable iter X.env x = pure x := by intro _; rfl) : PE X (.ListComp elt [⟨tg, iter, ifs, 0⟩] sc pos) (tComp ixs wi g tt te) := by
  intro pins s σ H Q I h
  obtain ⟨cl, ecl, hcl1, hcl2⟩ := closure_ok (sc := sc) (env := X.env) fun y hy hf => I.ok.has y.1 (by
    have z := SC.free y hy hf
    rw [← hS] at z
    exact z)
  rw [eval_ListComp]
  refine wpAny_comprehension_free (use := none) rfl hs ecl SC.kind SC.loc ?_
  refine thn (hi pins s σ H _ I h) fun v s1 h1 => thn h1 fun itv s2 h2 => ?_
  obtain ⟨it, fp, tn, J, H2, e, I2, T, st2, f2, hw⟩ := h2
  subst e
  obtain ⟨W, ⟨m0, w0⟩, hW⟩ := hw _ (I2.hok.fresh (Nat.le_refl _))
  refine comp_run (R := fun acc C => compPost (model X.prog X.w) X.A X.xe none (EP X pins σ Q) acc C) hxe hc hS SC hcl1 hcl2 hg ht he I2 T st2 f2 w0 hW fun H' s' m J' hn hC fin => ?_
  refine ⟨m, hn, fun h' hs' => ?_⟩
  have hlt := J'.lt
  refine ⟨.ref s2.heap.objs.size, H', J'.turned (it := s2.heap.objs.size + 1) (t' := s'.toks) (fun b o hb e => hs'.extBut b o hb e) hC (Nat.ne_of_gt (Nat.lt_succ_of_lt I2.lt)) (.inr (Nat.le_succ_of_le I2.sz)) (fun x c e z => ?_) (fun p hp z => ?_), rfl, fin⟩
  · obtain ⟨v', q⟩ := I2.cell x c e
    exact gap_no z q.lt
  · exact gap_no z (Heap.lt_size (I2.pin p hp).1)

/-- name = [.. for ..] where the store comes ahead of the block's end -/
theorem ps_setComp {y : Str} {i : Nat} {py spos : Pos} (hxe : X.xe = fun _ _ => False) (hc : X.calm = true) (hS : X.env.scope = S) (SC : CompSc X.N N' ixs S sc) (hi : PI X tg iter wi)
    (hg : ∀ cl C s H fp, PG (blk X N' sc cl C s H fp) tg g) (ht : ∀ cl C s H fp, PIf (blk X N' sc cl C s H fp) ifs tt) (he : ∀ cl C s H fp, PE (blk X N' sc cl C s H fp) elt te)
    (hN : X.N.Nodup) (hiN : X.N[i]? = some y) (hy : X.env.scope.names.lookup y = some .local) (hsw : swapsWith (.ListComp elt [⟨tg, iter, ifs, 0⟩] sc pos) (some (.Name y py)) spos.line X.env = pure true)
    (hs : ∀ x, foldedSetIterable iter X.env x = pure x := by intro _; rfl) : PS X (.Assign [.Name y py] (.ListComp elt [⟨tg, iter, ifs, 0⟩] sc pos) spos) (tAsg (tComp ixs wi g tt te) (gName i)) := by
  intro pins s σ H D I h
  obtain ⟨cl, ecl, hcl1, hcl2⟩ := closure_ok (sc := sc) (env := X.env) fun y hy hf => I.ok.has y.1 (by
    have z := SC.free y hy hf
    rw [← hS] at z
    exact z)
  rw [exec_Assign_Name_used _ _ _ _ hsw]
  refine wpAny_bind (wpAny_standAt (wpAny_bind ?_))
  show wpAny _ _ (do let _ ← comprehension (.ListComp elt [⟨tg, iter, ifs, 0⟩] sc pos) sc X.env _ (newList []) false (eval iter X.env) (some (assign (.Name y py) X.env))) _ _ s
  refine wpAny_bind (thn (wpAny_comprehension_free (use := some (assign (.Name y py) X.env)) (Q := fun _ s' => SP X pins D .next s') rfl hs ecl SC.kind SC.loc ?_) fun _ s' hq => wpAny_pure (wpAny_pure hq))
  refine thn (hi pins s σ H _ I h) fun v s1 h1 => thn h1 fun itv s2 h2 => ?_
  obtain ⟨it, fp, tn, J, H2, e, I2, T, st2, f2, hw⟩ := h2
  subst e
  obtain ⟨W, ⟨m0, w0⟩, hW⟩ := hw _ (I2.hok.fresh (Nat.le_refl _))
  refine comp_run (R := fun acc C => compPost (model X.prog X.w) X.A X.xe (some (assign (.Name y py) X.env)) (fun _ s' => SP X pins D .next s') acc C) hxe hc hS SC hcl1 hcl2 hg ht he I2 T st2 f2 w0 hW fun H' s' m J' hn hC fin => ?_
  show wpAny _ _ (assign (.Name y py) X.env (.ref s2.heap.objs.size)) _ _ s'
  refine wpAny_assign_Name (store_ok2 (v := .ref s2.heap.objs.size) J' hN hiN (.inl hy) rfl (fun s'' J2 hch => ?_) (.inr hy))
  obtain ⟨a, hsb, ha⟩ := hch
  have clt : ∀ x c, X.env.cells.lookup x = some c → c < s2.heap.objs.size := fun x c e => by
    obtain ⟨v', q⟩ := I2.cell x c e
    exact q.lt
  have hlt := I2.lt
  have hne : s2.heap.objs.size + 1 ≠ a := by
    rcases ha with z | z
    · rw [z]; exact Nat.ne_of_gt (Nat.lt_succ_of_lt hlt)
    · exact Nat.ne_of_gt (Nat.lt_succ_of_lt (clt _ _ z))
  refine ⟨m, hn.sameBut hsb hne, fun h' hs' => ⟨_, H', J2.turned (it := s2.heap.objs.size + 1) (t' := s''.toks) (fun b o hb e => hs'.extBut b o hb e) hC (Nat.ne_of_gt (Nat.lt_succ_of_lt hlt)) (.inr (Nat.le_succ_of_le I2.sz)) (fun x c e z => ?_) (fun p hp z => ?_), fin⟩⟩
  · exact gap_no z (clt x c e)
  · exact gap_no z (Heap.lt_size (I2.pin p hp).1)
end
end L2

set_option Elab.async false
set_option linter.all false
set_option autoImplicit false
set_option maxRecDepth 100000
set_option maxHeartbeats 4000000
/-! values as plain data over the hand layer (own work): data are trees, mutable lists are numbered cells -/
namespace DL
open PySem PySem.Spec PyProof.Rows L2

inductive Cell where
  | l (xs : List PyData)
abbrev Cells := List Cell
/-- a value: plain data, or a cell -/
inductive W where
  | d (x : PyData)
  | c (i : Nat)
  | v (u : V)
abbrev DSt := List (Option W)
abbrev DK := W → Cells → Prop
abbrev DTE := DSt → Cells → DK → Prop
abbrev DTT := DSt → Cells → (Bool → Cells → Prop) → Prop
abbrev DTA := DSt → Cells → (List W → Cells → Prop) → Prop
/-- a fresh list -/
abbrev DTF := DSt → Cells → (List PyData → Cells → Prop) → Prop

/-! ### data as it lies in the abstract heap -/
def KT (K : PySem.W.Frag) (a : Addr) (xs : List V) : Prop :=
  ∃ (o : Obj) (its : Array Value) (n : Nat), K.lookup a = some o ∧ o.cls = .type "tuple" ∧ o.data = .seq its n ∧ its.size ≤ sizeLine ∧ Vals xs its.toList
def KL (K : PySem.W.Frag) (a : Addr) (xs : List V) : Prop :=
  ∃ (o : Obj) (its : Array Value) (n : Nat), K.lookup a = some o ∧ o.cls = .type "list" ∧ o.dict = none ∧ o.data = .seq its n ∧ its.size ≤ sizeLine ∧ Vals xs its.toList
/-- A: the addresses that may change -/
def TupAt (K : PySem.W.Frag) (A : List Addr) (H : Hp) (a : Addr) (xs : List V) : Prop := (a ∉ A ∧ Rd H a (.tup xs)) ∨ KT K a xs
def LstAt (K : PySem.W.Frag) (A : List Addr) (H : Hp) (a : Addr) (xs : List V) : Prop := (a ∉ A ∧ Rd H a (.lst xs)) ∨ KL K a xs
theorem TupAt.sq {K : PySem.W.Frag} {A : List Addr} {H : Hp} {a : Addr} {xs : List V} (h : TupAt K A H a xs) : SqT K H a xs := h.elim (fun z => .inl z.2) .inr
theorem LstAt.sq {K : PySem.W.Frag} {A : List Addr} {H : Hp} {a : Addr} {xs : List V} (h : LstAt K A H a xs) : SqL K H a xs := h.elim (fun z => .inl z.2) .inr
mutual
def Rep (K : PySem.W.Frag) (A : List Addr) (H : Hp) : PyData → V → Prop
  | .none, v => v = .non
  | .bool b, v => v = .bl b
  | .int i, v => v = .int i
  | .str x, v => v = .str x ∧ PyData.strOk x = true
  | .list xs, v => ∃ a vs, v = .ref a ∧ LstAt K A H a vs ∧ Reps K A H xs vs
  | .tuple xs, v => ∃ a vs, v = .ref a ∧ TupAt K A H a vs ∧ Reps K A H xs vs
  | .dict _, v => ∃ a kvs, v = .ref a ∧ a ∉ A ∧ H a = some (.dK kvs)
def Reps (K : PySem.W.Frag) (A : List Addr) (H : Hp) : List PyData → List V → Prop
  | [], vs => vs = []
  | x :: xs, vs => ∃ v r, vs = v :: r ∧ Rep K A H x v ∧ Reps K A H xs r
end

theorem Reps.length {K : PySem.W.Frag} {A : List Addr} {H : Hp} : ∀ {xs : List PyData} {vs : List V}, Reps K A H xs vs → vs.length = xs.length
  | [], _, h => by rw [Reps] at h; subst h; rfl
  | _ :: xs, _, h => by
    rw [Reps] at h
    obtain ⟨v, r, rfl, _, h⟩ := h
    rw [List.length_cons, List.length_cons, Reps.length h]
theorem Reps.get {K : PySem.W.Frag} {A : List Addr} {H : Hp} : ∀ {xs : List PyData} {vs : List V} {i : Nat} {x : PyData}, Reps K A H xs vs → xs[i]? = some x → ∃ v, vs[i]? = some v ∧ Rep K A H x v
  | [], _, _, _, _, e => by simp at e
  | y :: xs, _, 0, x, h, e => by
    rw [Reps] at h
    obtain ⟨v, r, rfl, hv, _⟩ := h
    simp at e; subst e
    exact ⟨v, rfl, hv⟩
  | y :: xs, _, i + 1, x, h, e => by
    rw [Reps] at h
    obtain ⟨v, r, rfl, _, h⟩ := h
    obtain ⟨w, e1, e2⟩ := Reps.get (i := i) h (by simpa using e)
    exact ⟨w, by simpa using e1, e2⟩
theorem Reps.get' {K : PySem.W.Frag} {A : List Addr} {H : Hp} {xs : List PyData} {vs : List V} {i : Nat} {v : V} (h : Reps K A H xs vs) (e : vs[i]? = some v) : ∃ x, xs[i]? = some x ∧ Rep K A H x v := by
  have hl := h.length
  have hi : i < xs.length := by
    have := (List.getElem?_eq_some_iff.mp e).1
    omega
  have ex : xs[i]? = some xs[i] := List.getElem?_eq_getElem hi
  obtain ⟨w, e1, e2⟩ := h.get ex
  rw [e] at e1; cases e1
  exact ⟨_, ex, e2⟩
theorem Reps.append {K : PySem.W.Frag} {A : List Addr} {H : Hp} {ys : List PyData} {ws : List V} (h2 : Reps K A H ys ws) : ∀ {xs : List PyData} {vs : List V}, Reps K A H xs vs → Reps K A H (xs ++ ys) (vs ++ ws)
  | [], _, h => by rw [Reps] at h; subst h; exact h2
  | x :: xs, _, h => by
    rw [Reps] at h
    obtain ⟨v, r, rfl, hv, h⟩ := h
    rw [List.cons_append, Reps]
    exact ⟨v, r ++ ws, rfl, hv, Reps.append h2 h⟩
theorem Reps.one {K : PySem.W.Frag} {A : List Addr} {H : Hp} {x : PyData} {v : V} (h : Rep K A H x v) : Reps K A H [x] [v] := by
  rw [Reps]; exact ⟨v, [], rfl, h, by rw [Reps]⟩
theorem Reps.nil {K : PySem.W.Frag} {A : List Addr} {H : Hp} : Reps K A H [] [] := by rw [Reps]
theorem Reps.cons {K : PySem.W.Frag} {A : List Addr} {H : Hp} {x : PyData} {xs : List PyData} {v : V} {vs : List V} (h : Rep K A H x v) (hs : Reps K A H xs vs) : Reps K A H (x :: xs) (v :: vs) := by
  rw [Reps]; exact ⟨v, vs, rfl, h, hs⟩
theorem Reps.drop {K : PySem.W.Frag} {A : List Addr} {H : Hp} : ∀ {xs : List PyData} {vs : List V} (n : Nat), Reps K A H xs vs → Reps K A H (xs.drop n) (vs.drop n)
  | _, _, 0, h => h
  | [], _, n + 1, h => by rw [Reps] at h; subst h; rw [List.drop_nil, List.drop_nil]; exact .nil
  | x :: xs, _, n + 1, h => by
    rw [Reps] at h
    obtain ⟨v, r, rfl, _, h⟩ := h
    exact Reps.drop n h
theorem Reps.take {K : PySem.W.Frag} {A : List Addr} {H : Hp} : ∀ {xs : List PyData} {vs : List V} (n : Nat), Reps K A H xs vs → Reps K A H (xs.take n) (vs.take n)
  | _, _, 0, h => .nil
  | [], _, n + 1, h => by rw [Reps] at h; subst h; rw [List.take_nil, List.take_nil]; exact .nil
  | x :: xs, _, n + 1, h => by
    rw [Reps] at h
    obtain ⟨v, r, rfl, hv, h⟩ := h
    rw [List.take_succ_cons, List.take_succ_cons]
    exact .cons hv (Reps.take n h)
theorem Reps.set {K : PySem.W.Frag} {A : List Addr} {H : Hp} {x : PyData} {v : V} (hx : Rep K A H x v) : ∀ {xs : List PyData} {vs : List V} (i : Nat), Reps K A H xs vs → Reps K A H (xs.set i x) (vs.set i v)
  | [], _, i, h => by rw [Reps] at h; subst h; exact .nil
  | y :: xs, _, 0, h => by
    rw [Reps] at h
    obtain ⟨w, r, rfl, _, h⟩ := h
    exact .cons hx h
  | y :: xs, _, i + 1, h => by
    rw [Reps] at h
    obtain ⟨w, r, rfl, hw, h⟩ := h
    exact .cons hw (Reps.set hx i h)

mutual
theorem Rep.anti {K : PySem.W.Frag} {A B : List Addr} {H : Hp} (hs : ∀ a ∈ B, a ∈ A) : ∀ {d : PyData} {v : V}, Rep K A H d v → Rep K B H d v
  | .none, _, h => by rw [Rep] at h ⊢; exact h
  | .bool _, _, h => by rw [Rep] at h ⊢; exact h
  | .int _, _, h => by rw [Rep] at h ⊢; exact h
  | .str _, _, h => by rw [Rep] at h ⊢; exact h
  | .list xs, _, h => by
    rw [Rep] at h ⊢
    obtain ⟨a, vs, e, h1, h2⟩ := h
    exact ⟨a, vs, e, h1.elim (fun z => .inl ⟨fun w => z.1 (hs _ w), z.2⟩) .inr, Reps.anti hs h2⟩
  | .tuple xs, _, h => by
    rw [Rep] at h ⊢
    obtain ⟨a, vs, e, h1, h2⟩ := h
    exact ⟨a, vs, e, h1.elim (fun z => .inl ⟨fun w => z.1 (hs _ w), z.2⟩) .inr, Reps.anti hs h2⟩
  | .dict _, _, h => by
    rw [Rep] at h ⊢
    obtain ⟨a, kvs, e, h1, h2⟩ := h
    exact ⟨a, kvs, e, fun w => h1 (hs _ w), h2⟩
theorem Reps.anti {K : PySem.W.Frag} {A B : List Addr} {H : Hp} (hs : ∀ a ∈ B, a ∈ A) : ∀ {ds : List PyData} {vs : List V}, Reps K A H ds vs → Reps K B H ds vs
  | [], _, h => by rw [Reps] at h ⊢; exact h
  | x :: xs, _, h => by
    rw [Reps] at h ⊢
    obtain ⟨v, r, e, h1, h2⟩ := h
    exact ⟨v, r, e, Rep.anti hs h1, Reps.anti hs h2⟩
end
mutual
theorem Rep.go {K : PySem.W.Frag} {A B : List Addr} {H H' : Hp} (hs : ∀ a o, a ∉ A → H a = some o → a ∉ B ∧ H' a = some o) : ∀ {d : PyData} {v : V}, Rep K A H d v → Rep K B H' d v
  | .none, _, h => by rw [Rep] at h ⊢; exact h
  | .bool _, _, h => by rw [Rep] at h ⊢; exact h
  | .int _, _, h => by rw [Rep] at h ⊢; exact h
  | .str _, _, h => by rw [Rep] at h ⊢; exact h
  | .list xs, _, h => by
    rw [Rep] at h ⊢
    obtain ⟨a, vs, e, h1, h2⟩ := h
    refine ⟨a, vs, e, ?_, Reps.go hs h2⟩
    rcases h1 with ⟨ha, h1 | ⟨o, h1⟩⟩ | h1
    · exact .inl ⟨(hs a _ ha h1).1, .inl (hs a _ ha h1).2⟩
    · exact .inl ⟨(hs a _ ha h1).1, .inr ⟨o, (hs a _ ha h1).2⟩⟩
    · exact .inr h1
  | .tuple xs, _, h => by
    rw [Rep] at h ⊢
    obtain ⟨a, vs, e, h1, h2⟩ := h
    refine ⟨a, vs, e, ?_, Reps.go hs h2⟩
    rcases h1 with ⟨ha, h1 | ⟨o, h1⟩⟩ | h1
    · exact .inl ⟨(hs a _ ha h1).1, .inl (hs a _ ha h1).2⟩
    · exact .inl ⟨(hs a _ ha h1).1, .inr ⟨o, (hs a _ ha h1).2⟩⟩
    · exact .inr h1
  | .dict _, _, h => by
    rw [Rep] at h ⊢
    obtain ⟨a, kvs, e, h1, h2⟩ := h
    exact ⟨a, kvs, e, (hs a _ h1 h2).1, (hs a _ h1 h2).2⟩
theorem Reps.go {K : PySem.W.Frag} {A B : List Addr} {H H' : Hp} (hs : ∀ a o, a ∉ A → H a = some o → a ∉ B ∧ H' a = some o) : ∀ {ds : List PyData} {vs : List V}, Reps K A H ds vs → Reps K B H' ds vs
  | [], _, h => by rw [Reps] at h ⊢; exact h
  | x :: xs, _, h => by
    rw [Reps] at h ⊢
    obtain ⟨v, r, e, h1, h2⟩ := h
    exact ⟨v, r, e, Rep.go hs h1, Reps.go hs h2⟩
end

/-! ### cells, values, names -/
structure HeapRep (K : PySem.W.Frag) (A μ : List Addr) (h : Cells) (H : Hp) : Prop where
  len : μ.length = h.length
  nd : μ.Nodup
  sub : ∀ a ∈ μ, a ∈ A
  trk : ∀ a ∈ A, ∃ o, H a = some o
  val : ∀ (i : Nat) (a : Addr) (xs : List PyData), μ[i]? = some a → h[i]? = some (Cell.l xs) → ∃ vs, H a = some (.lst vs) ∧ Reps K A H xs vs
def RepW (K : PySem.W.Frag) (A μ : List Addr) (H : Hp) : W → V → Prop
  | .d x, v => Rep K A H x v
  | .c i, v => ∃ a, μ[i]? = some a ∧ v = .ref a
  | .v u, v => v = u
structure EnvRep (K : PySem.W.Frag) (A μ : List Addr) (H : Hp) (δ : DSt) (σ : L2.St) : Prop where
  len : δ.length = σ.length
  val : ∀ (i : Nat) (w : W), δ[i]? = some (some w) → ∃ v, σ[i]? = some (some v) ∧ RepW K A μ H w v
structure Ext (A A' μ μ' : List Addr) (H H' : Hp) : Prop where
  sub : ∀ a ∈ A, a ∈ A'
  new : ∀ a ∈ A', a ∈ A ∨ H a = none
  pre : ∃ ν, μ' = μ ++ ν ∧ ∀ a ∈ ν, H a = none
  keep : ∀ a o, a ∉ μ → H a = some o → H' a = some o
  trk : ∀ a o, H a = some o → ∃ o', H' a = some o'
section
variable {K : PySem.W.Frag} {A A' A1 A2 μ μ' μ1 μ2 : List Addr} {H H' H1 H2 : Hp} {h h' : Cells}
theorem Ext.refl : Ext A A μ μ H H := ⟨fun _ z => z, fun _ z => .inl z, ⟨[], by simp, fun _ z => (nomatch z)⟩, fun _ _ _ z => z, fun _ o z => ⟨o, z⟩⟩
theorem Ext.back (x : Ext A A' μ μ' H H') {a : Addr} (e : H' a = none) : H a = none := by
  cases q : H a with
  | none => rfl
  | some o => obtain ⟨o', z⟩ := x.trk a o q; rw [e] at z; cases z
theorem Ext.trans (x : Ext A A1 μ μ1 H H1) (y : Ext A1 A2 μ1 μ2 H1 H2) : Ext A A2 μ μ2 H H2 := by
  obtain ⟨ν, e1, n1⟩ := x.pre
  obtain ⟨ν', e2, n2⟩ := y.pre
  refine ⟨fun a z => y.sub a (x.sub a z), fun a z => ?_, ⟨ν ++ ν', by rw [e2, e1, List.append_assoc], fun a z => ?_⟩, fun a o ha q => y.keep a o (fun z => ?_) (x.keep a o ha q), fun a o q => ?_⟩
  · rcases y.new a z with z | z
    · exact x.new a z
    · exact .inr (x.back z)
  · rcases List.mem_append.mp z with z | z
    · exact n1 a z
    · exact x.back (n2 a z)
  · rw [e1] at z
    rcases List.mem_append.mp z with z | z
    · exact ha z
    · rw [n1 a z] at q; cases q
  · obtain ⟨o1, q1⟩ := x.trk a o q
    exact y.trk a o1 q1
theorem Ext.go (x : Ext A A' μ μ' H H') (hs : ∀ a ∈ μ, a ∈ A) : ∀ a o, a ∉ A → H a = some o → a ∉ A' ∧ H' a = some o := fun a o ha q => by
  refine ⟨fun z => ?_, x.keep a o (fun z => ha (hs a z)) q⟩
  rcases x.new a z with z | z
  · exact ha z
  · rw [z] at q; cases q
theorem Rep.ext (x : Ext A A' μ μ' H H') (hs : ∀ a ∈ μ, a ∈ A) {d : PyData} {v : V} (r : Rep K A H d v) : Rep K A' H' d v := r.go (x.go hs)
theorem Reps.ext (x : Ext A A' μ μ' H H') (hs : ∀ a ∈ μ, a ∈ A) {d : List PyData} {v : List V} (r : Reps K A H d v) : Reps K A' H' d v := r.go (x.go hs)
theorem RepW.ext (x : Ext A A' μ μ' H H') (hs : ∀ a ∈ μ, a ∈ A) {w : W} {v : V} (r : RepW K A μ H w v) : RepW K A' μ' H' w v := by
  cases w with
  | d y => exact Rep.ext x hs r
  | v u => exact r
  | c i =>
    obtain ⟨a, e, z⟩ := r
    obtain ⟨ν, e1, _⟩ := x.pre
    refine ⟨a, ?_, z⟩
    rw [e1, List.getElem?_append_left (List.getElem?_eq_some_iff.mp e).1]
    exact e
theorem EnvRep.ext (x : Ext A A' μ μ' H H') (hs : ∀ a ∈ μ, a ∈ A) {δ : DSt} {σ : L2.St} (r : EnvRep K A μ H δ σ) : EnvRep K A' μ' H' δ σ :=
  ⟨r.len, fun i w e => by
    obtain ⟨v, e1, r1⟩ := r.val i w e
    exact ⟨v, e1, r1.ext x hs⟩⟩
theorem EnvRep.set {δ : DSt} {σ : L2.St} {w : W} {v : V} (r : EnvRep K A μ H δ σ) (i : Nat) (rw' : RepW K A μ H w v) : EnvRep K A μ H (δ.set i (some w)) (σ.set i (some v)) := by
  refine ⟨by rw [List.length_set, List.length_set]; exact r.len, fun j u e => ?_⟩
  by_cases hj : i = j
  · subst hj
    have hi : i < δ.length := by
      have := (List.getElem?_eq_some_iff.mp e).1
      rwa [List.length_set] at this
    rw [List.getElem?_set_self hi] at e
    cases e
    exact ⟨v, List.getElem?_set_self (by rw [← r.len]; exact hi), rw'⟩
  · rw [List.getElem?_set_ne hj] at e ⊢
    exact r.val j u e
/-- a fresh tracked object beside the cells -/
theorem ext_fresh {p : Addr} {o : HO} (hp : H p = none) : Ext A A μ μ H (upd H p o) :=
  ⟨fun _ z => z, fun _ z => .inl z, ⟨[], by simp, fun _ z => (nomatch z)⟩, fun a o' _ q => by rw [upd_ne (ne_of_none q hp)]; exact q, fun a o' q => ⟨o', by rw [upd_ne (ne_of_none q hp)]; exact q⟩⟩
theorem HeapRep.fresh {p : Addr} {o : HO} (R : HeapRep K A μ h H) (hp : H p = none) : HeapRep K A μ h (upd H p o) :=
  ⟨R.len, R.nd, R.sub, fun a z => by
    obtain ⟨o', q⟩ := R.trk a z
    exact ⟨o', by rw [upd_ne (ne_of_none q hp)]; exact q⟩, fun i a xs e1 e2 => by
    obtain ⟨vs, q, r⟩ := R.val i a xs e1 e2
    exact ⟨vs, by rw [upd_ne (ne_of_none q hp)]; exact q, r.ext (ext_fresh (μ := μ) hp) R.sub⟩⟩
theorem HeapRep.notA {p : Addr} (R : HeapRep K A μ h H) (hp : H p = none) : p ∉ A := fun z => by
  obtain ⟨o, q⟩ := R.trk p z
  rw [hp] at q; cases q
theorem rep_tuple {p : Addr} {xs : List PyData} {vs : List V} (R : HeapRep K A μ h H) (hp : H p = none) (r : Reps K A H xs vs) : Rep K A (upd H p (.tup vs)) (.tuple xs) (.ref p) := by
  rw [Rep]
  exact ⟨p, vs, rfl, .inl ⟨R.notA hp, .inl upd_same⟩, r.ext (ext_fresh (μ := μ) hp) R.sub⟩
/-- a fresh list becomes a cell -/
theorem ext_cell {p : Addr} {o : HO} (hp : H p = none) : Ext A (p :: A) μ (μ ++ [p]) H (upd H p o) :=
  ⟨fun _ z => List.mem_cons_of_mem _ z, fun a z => (List.mem_cons.mp z).elim (fun e => .inr (by rw [e]; exact hp)) .inl, ⟨[p], rfl, fun a z => by rw [List.mem_singleton.mp z]; exact hp⟩,
    fun a o' _ q => by rw [upd_ne (ne_of_none q hp)]; exact q, fun a o' q => ⟨o', by rw [upd_ne (ne_of_none q hp)]; exact q⟩⟩
theorem heap_cell {p : Addr} {xs : List PyData} {vs : List V} (R : HeapRep K A μ h H) (hp : H p = none) (r : Reps K A H xs vs) : HeapRep K (p :: A) (μ ++ [p]) (h ++ [(Cell.l xs)]) (upd H p (.lst vs)) := by
  have nA := R.notA hp
  have X : Ext A (p :: A) μ (μ ++ [p]) H (upd H p (.lst vs)) := ext_cell hp
  refine ⟨by rw [List.length_append, List.length_append, R.len]; rfl, ?_, fun a z => ?_, fun a z => ?_, fun i a ys e1 e2 => ?_⟩
  · rw [List.nodup_append]
    refine ⟨R.nd, (by simp), fun a ha b hb => ?_⟩
    rw [List.mem_singleton.mp hb]
    rintro rfl
    exact nA (R.sub _ ha)
  · rcases List.mem_append.mp z with z | z
    · exact List.mem_cons_of_mem _ (R.sub a z)
    · rw [List.mem_singleton.mp z]; exact List.mem_cons_self
  · rcases List.mem_cons.mp z with e | z
    · subst e; exact ⟨_, upd_same⟩
    · obtain ⟨o', q⟩ := R.trk a z
      exact ⟨o', by rw [upd_ne (ne_of_none q hp)]; exact q⟩
  · by_cases hi : i < μ.length
    · rw [List.getElem?_append_left hi] at e1
      rw [List.getElem?_append_left (by rw [← R.len]; exact hi)] at e2
      obtain ⟨ws, q, r1⟩ := R.val i a ys e1 e2
      exact ⟨ws, by rw [upd_ne (ne_of_none q hp)]; exact q, r1.ext X R.sub⟩
    · have hle : μ.length ≤ i := Nat.le_of_not_lt hi
      rw [List.getElem?_append_right hle] at e1
      rw [List.getElem?_append_right (by rw [← R.len]; exact hle), ← R.len] at e2
      have hz : i - μ.length = 0 := by
        have := (List.getElem?_eq_some_iff.mp e1).1
        simp at this
        omega
      rw [hz] at e1 e2
      simp at e1 e2
      subst e1 e2
      exact ⟨vs, upd_same, r.ext X R.sub⟩
/-- a cell is written -/
theorem Rep.upd {p : Addr} {o : HO} (hp : p ∈ A) {d : PyData} {v : V} (r : Rep K A H d v) : Rep K A (L2.upd H p o) d v := r.go fun a o' ha q => ⟨ha, by rw [upd_ne (fun e => ha (by rw [e]; exact hp))]; exact q⟩
theorem Reps.upd {p : Addr} {o : HO} (hp : p ∈ A) {d : List PyData} {v : List V} (r : Reps K A H d v) : Reps K A (L2.upd H p o) d v := r.go fun a o' ha q => ⟨ha, by rw [upd_ne (fun e => ha (by rw [e]; exact hp))]; exact q⟩
theorem ext_write {p : Addr} {o o0 : HO} (hp : p ∈ μ) (h0 : H p = some o0) : Ext A A μ μ H (upd H p o) :=
  ⟨fun _ z => z, fun _ z => .inl z, ⟨[], by simp, fun _ z => (nomatch z)⟩, fun a o' ha q => by rw [upd_ne (fun e => ha (by rw [e]; exact hp))]; exact q, fun a o' q => by
    by_cases e : a = p
    · subst e; exact ⟨_, upd_same⟩
    · exact ⟨o', by rw [upd_ne e]; exact q⟩⟩
theorem heap_write {p : Addr} {i : Nat} {xs : List PyData} {vs : List V} (R : HeapRep K A μ h H) (hp : μ[i]? = some p) (r : Reps K A H xs vs) : HeapRep K A μ (h.set i (Cell.l xs)) (upd H p (.lst vs)) := by
  have hm : p ∈ μ := List.mem_of_getElem? hp
  have hA := R.sub p hm
  refine ⟨by rw [List.length_set]; exact R.len, R.nd, R.sub, fun a z => ?_, fun j a ys e1 e2 => ?_⟩
  · by_cases e : a = p
    · subst e; exact ⟨_, upd_same⟩
    · obtain ⟨o, q⟩ := R.trk a z
      exact ⟨o, by rw [upd_ne e]; exact q⟩
  · by_cases hj : i = j
    · subst hj
      rw [hp] at e1; cases e1
      have hi : i < h.length := by rw [← R.len]; exact (List.getElem?_eq_some_iff.mp hp).1
      rw [List.getElem?_set_self hi] at e2
      cases e2
      exact ⟨vs, upd_same, r.upd hA⟩
    · rw [List.getElem?_set_ne hj] at e2
      have ne : a ≠ p := fun e => by
        subst e
        have h1 := List.getElem?_eq_some_iff.mp e1
        have h2 := List.getElem?_eq_some_iff.mp hp
        exact hj ((List.getElem_inj R.nd).mp (h2.2.trans h1.2.symm))
      obtain ⟨ws, q, r1⟩ := R.val j a ys e1 e2
      exact ⟨ws, by rw [upd_ne ne]; exact q, r1.upd hA⟩
/-- a frozen list is written that is none of the cells (a comprehension's own) -/
theorem heap_aside {p : Addr} {o : HO} (R : HeapRep K A μ h H) (hA : p ∈ A) (hn : p ∉ μ) : HeapRep K A μ h (upd H p o) := by
  refine ⟨R.len, R.nd, R.sub, fun a z => ?_, fun j a ys e1 e2 => ?_⟩
  · by_cases e : a = p
    · subst e; exact ⟨_, upd_same⟩
    · obtain ⟨o', q⟩ := R.trk a z
      exact ⟨o', by rw [upd_ne e]; exact q⟩
  · have ne : a ≠ p := fun e => hn (by rw [← e]; exact List.mem_of_getElem? e1)
    obtain ⟨ws, q, r1⟩ := R.val j a ys e1 e2
    exact ⟨ws, by rw [upd_ne ne]; exact q, r1.upd hA⟩
/-- the last cell becomes plain data -/
theorem heap_freeze {p : Addr} {xs : List PyData} (R : HeapRep K A (μ ++ [p]) (h ++ [(Cell.l xs)]) H) : HeapRep K (A.filter fun a => decide (a ≠ p)) μ h H ∧ Rep K (A.filter fun a => decide (a ≠ p)) H (.list xs) (.ref p) := by
  have hl : μ.length = h.length := by
    have := R.len
    simpa using this
  have an : ∀ a ∈ A.filter (fun a => decide (a ≠ p)), a ∈ A := fun a z => (List.mem_filter.mp z).1
  refine ⟨⟨hl, (List.nodup_append.mp R.nd).1, fun a z => ?_, fun a z => R.trk a (an a z), fun i a ys e1 e2 => ?_⟩, ?_⟩
  · refine List.mem_filter.mpr ⟨R.sub a (List.mem_append_left _ z), ?_⟩
    have := (List.nodup_append.mp R.nd).2.2 a z p List.mem_cons_self
    simpa using this
  · obtain ⟨vs, q, r⟩ := R.val i a ys (by rw [List.getElem?_append_left (List.getElem?_eq_some_iff.mp e1).1]; exact e1) (by rw [List.getElem?_append_left (List.getElem?_eq_some_iff.mp e2).1]; exact e2)
    exact ⟨vs, q, r.anti an⟩
  · obtain ⟨vs, q, r⟩ := R.val μ.length p xs (by simp) (by rw [hl]; simp)
    rw [Rep]
    exact ⟨p, vs, rfl, .inl ⟨fun z => by simpa using (List.mem_filter.mp z).2, .inl q⟩, r.anti an⟩
theorem ext_freeze {p : Addr} (R : HeapRep K A μ h H) (hp : H p = none) (x : Ext A A' μ (μ' ++ [p]) H H') (hm : ∃ ν, μ' = μ ++ ν) : Ext A (A'.filter fun a => decide (a ≠ p)) μ μ' H H' := by
  obtain ⟨ν, e, n⟩ := x.pre
  obtain ⟨ν', e'⟩ := hm
  refine ⟨fun a z => List.mem_filter.mpr ⟨x.sub a z, ?_⟩, fun a z => x.new a (List.mem_filter.mp z).1, ⟨ν', e', fun a z => n a ?_⟩, x.keep, x.trk⟩
  · have : a ≠ p := fun q => R.notA hp (by rw [← q]; exact z)
    simpa using this
  · rw [e', List.append_assoc] at e
    rw [← List.append_cancel_left e]
    exact List.mem_append_left _ z
end

/-! ### the judgements -/
def Ab (K : PySem.W.Frag) (A μ : List Addr) (δ : DSt) (h : Cells) (σ : L2.St) (H : Hp) : Prop := HeapRep K A μ h H ∧ EnvRep K A μ H δ σ
def up (K : PySem.W.Frag) (t : DTE) : TE := fun σ H Q => ∃ (δ : DSt) (h : Cells) (A μ : List Addr) (k : DK), Ab K A μ δ h σ H ∧ t δ h k ∧
  ∀ w h' v H' A' μ', k w h' → Ext A A' μ μ' H H' → HeapRep K A' μ' h' H' → RepW K A' μ' H' w v → Q v H'
def upT (K : PySem.W.Frag) (t : DTT) : TT := fun σ H Q => ∃ (δ : DSt) (h : Cells) (A μ : List Addr) (k : Bool → Cells → Prop), Ab K A μ δ h σ H ∧ t δ h k ∧
  ∀ b h' H' A' μ', k b h' → Ext A A' μ μ' H H' → HeapRep K A' μ' h' H' → Q b H'
def RepWs (K : PySem.W.Frag) (A μ : List Addr) (H : Hp) : List W → List V → Prop
  | [], vs => vs = []
  | w :: ws, vs => ∃ v r, vs = v :: r ∧ RepW K A μ H w v ∧ RepWs K A μ H ws r
def upA (K : PySem.W.Frag) (t : DTA) : TA := fun σ H Q => ∃ (δ : DSt) (h : Cells) (A μ : List Addr) (k : List W → Cells → Prop), Ab K A μ δ h σ H ∧ t δ h k ∧
  ∀ ws h' vs H' A' μ', k ws h' → Ext A A' μ μ' H H' → HeapRep K A' μ' h' H' → RepWs K A' μ' H' ws vs → Q vs H'
/-- a fresh list: its address is the last cell's -/
def upF (K : PySem.W.Frag) (t : DTF) : TE := fun σ H Q => ∃ (δ : DSt) (h : Cells) (A μ : List Addr) (k : List PyData → Cells → Prop), Ab K A μ δ h σ H ∧ t δ h k ∧
  ∀ xs h' a H' A' μ', k xs h' → Ext A A' μ (μ' ++ [a]) H H' → (∃ ν, μ' = μ ++ ν) → H a = none → HeapRep K A' (μ' ++ [a]) (h' ++ [(Cell.l xs)]) H' → Q (.ref a) H'
def DE (X : Cx) (e : Expr) (t : DTE) : Prop := PE X e (up X.K t)
def DT (X : Cx) (e : Expr) (t : DTT) : Prop := PT X e (upT X.K t)
def DW (X : Cx) (e : Expr) (t : DTT) : Prop := PW X e (upT X.K t)
def DA (X : Cx) (es : List Expr) (t : DTA) : Prop := PA X es (upA X.K t)
def DF (X : Cx) (e : Expr) (t : DTF) : Prop := PE X e (upF X.K t)
theorem pe_mono {X : Cx} {e : Expr} {t t' : TE} (h : PE X e t) (m : ∀ σ H Q, t' σ H Q → t σ H Q) : PE X e t' := fun pins s σ H Q I q => h pins s σ H Q I (m σ H Q q)
theorem pt_mono {X : Cx} {e : Expr} {t t' : TT} (h : PT X e t) (m : ∀ σ H Q, t' σ H Q → t σ H Q) : PT X e t' := fun pins s σ H Q I q => h pins s σ H Q I (m σ H Q q)
theorem pw_mono {X : Cx} {e : Expr} {t t' : TT} (h : PW X e t) (m : ∀ σ H Q, t' σ H Q → t σ H Q) : PW X e t' := fun wh pins s σ H Q I q => h wh pins s σ H Q I (m σ H Q q)
theorem pa_mono {X : Cx} {e : List Expr} {t t' : TA} (h : PA X e t) (m : ∀ σ H Q, t' σ H Q → t σ H Q) : PA X e t' := fun pos pins s σ H Q I q => h pos pins s σ H Q I (m σ H Q q)
theorem ps_mono {X : Cx} {e : Stmt} {t t' : TS} (h : PS X e t) (m : ∀ D σ H, t' D σ H → t D σ H) : PS X e t' := fun pins s σ H D I q => h pins s σ H D I (m D σ H q)
theorem pss_mono {X : Cx} {e : List Stmt} {t t' : TS} (h : PSs X e t) (m : ∀ D σ H, t' D σ H → t D σ H) : PSs X e t' := fun pins s σ H D I q => h pins s σ H D I (m D σ H q)

section
variable {X : Cx} {a b e : Expr} {es : List Expr} {pos : Pos} {ta tb te : DTE} {tc tA tB : DTT} {t : DTA} {tf tg : DTF}
/-! names, constants -/
def dVar (i : Nat) : DTE := fun δ h Q => match δ[i]? with
  | some (some w) => Q w h
  | _ => False
theorem dv (i : Nat) {x : Str} (hN : X.N[i]? = some x := by rfl) (hv : Vis X.env.scope x := by first | exact Or.inl rfl | exact Or.inr (Or.inl rfl) | exact Or.inr (Or.inr rfl)) (hd : (x == ("__debug__" : Str)) = false := by decide)
    (hcd : (x == ("__classdict__" : Str)) = false := by decide) : DE X (.Name x pos) (dVar i) := pe_mono (pe_var hN hv hd hcd) fun σ H Q h => by
  obtain ⟨δ, h, A, μ, k, ⟨R, E⟩, q, c⟩ := h
  unfold dVar at q
  cases e1 : δ[i]? with
  | none => rw [e1] at q; exact q.elim
  | some o =>
    rw [e1] at q
    cases o with
    | none => exact q.elim
    | some w =>
      obtain ⟨v, e2, r⟩ := E.val i w e1
      exact ⟨v, e2, c w h v H A μ q .refl R r⟩
def dC (x : PyData) : DTE := fun _ h Q => Q (.d x) h
theorem up_const {x : PyData} {v : V} (r : ∀ A H, Rep X.K A H x v) (he : PE X e (tC v)) : DE X e (dC x) := pe_mono he fun σ H Q h => by
  obtain ⟨δ, h, A, μ, k, ⟨R, E⟩, q, c⟩ := h
  exact c _ h v H A μ q .refl R (r A H)
theorem de_int {i : Int} {j} : DE X (.Constant (.int i) j pos) (dC (.int i)) := up_const (fun _ _ => by rw [Rep]) pe_int
theorem de_bl {b : Bool} {j} : DE X (.Constant (.bool b) j pos) (dC (.bool b)) := up_const (fun _ _ => by rw [Rep]) pe_bl
theorem de_non {j} : DE X (.Constant .none j pos) (dC .none) := up_const (fun _ _ => by rw [Rep]) pe_non
theorem de_str {x : Str} {j} (hx : PyData.strOk x = true := by decide +kernel) : DE X (.Constant (.str x) j pos) (dC (.str x)) := up_const (fun _ _ => by rw [Rep]; exact ⟨rfl, hx⟩) pe_str
theorem de_glob {x : Str} {v : V} {u : Value} {d : PyData} (hm : X.mg x = some u) (rv : RelV v u) (r : ∀ A H, Rep X.K A H d v) (hg : Gl X x := by rfl) (hd : (x == ("__debug__" : Str)) = false := by decide) : DE X (.Name x pos) (dC d) :=
  up_const r (pe_glob hg hm rv hd)
/-! fresh lists: as data, as a cell -/
def dFrz (t : DTF) : DTE := fun δ h Q => t δ h fun xs h1 => Q (.d (.list xs)) h1
def dCel (t : DTF) : DTE := fun δ h Q => t δ h fun xs h1 => Q (.c h1.length) (h1 ++ [(Cell.l xs)])
theorem de_frz (h : DF X e tf) : DE X e (dFrz tf) := pe_mono h fun σ H Q q => by
  obtain ⟨δ, h, A, μ, k, R, q, c⟩ := q
  refine ⟨δ, h, A, μ, _, R, q, fun xs h' p H' A' μ' kk x hm hp R' => ?_⟩
  obtain ⟨R1, r1⟩ := heap_freeze R'
  exact c _ h' _ H' _ μ' kk (ext_freeze R.1 hp x hm) R1 r1
theorem de_cel (h : DF X e tf) : DE X e (dCel tf) := pe_mono h fun σ H Q q => by
  obtain ⟨δ, h, A, μ, k, R, q, c⟩ := q
  refine ⟨δ, h, A, μ, _, R, q, fun xs h' p H' A' μ' kk x hm hp R' => ?_⟩
  have hl : μ'.length = h'.length := by simpa using R'.len
  exact c _ _ _ H' A' (μ' ++ [p]) kk x R' ⟨p, by rw [← hl]; simp, rfl⟩
/-! argument lists -/
def dNil : DTA := fun _ h Q => Q [] h
def dCons (te : DTE) (t : DTA) : DTA := fun δ h Q => te δ h fun w h1 => t δ h1 fun ws h2 => Q (w :: ws) h2
theorem RepWs.ext {K : PySem.W.Frag} {A A' μ μ' : List Addr} {H H' : Hp} (x : Ext A A' μ μ' H H') (hs : ∀ a ∈ μ, a ∈ A) : ∀ {ws : List W} {vs : List V}, RepWs K A μ H ws vs → RepWs K A' μ' H' ws vs
  | [], _, h => h
  | w :: ws, _, h => by
    obtain ⟨v, r, e, h1, h2⟩ := h
    exact ⟨v, r, e, h1.ext x hs, RepWs.ext x hs h2⟩
theorem da_nil : DA X [] dNil := pa_mono pa_nil fun σ H Q q => by
  obtain ⟨δ, h, A, μ, k, R, q, c⟩ := q
  exact c [] h [] H A μ q .refl R.1 rfl
theorem da_cons (ha : DE X e te) (hr : DA X es t) (hs : starEach (e :: es) X.env = (false, eval e X.env) :: starEach es X.env := by rfl) : DA X (e :: es) (dCons te t) := pa_mono (pa_cons ha hr hs) fun σ H Q q => by
  obtain ⟨δ, h, A, μ, k, R, q, c⟩ := q
  refine ⟨δ, h, A, μ, _, R, q, fun w h1 v H1 A1 μ1 q1 x1 R1 r1 => ?_⟩
  refine ⟨δ, h1, A1, μ1, _, ⟨R1, R.2.ext x1 R.1.sub⟩, q1, fun ws h2 vs H2 A2 μ2 q2 x2 R2 r2 => ?_⟩
  exact c _ h2 _ H2 A2 μ2 q2 (x1.trans x2) R2 ⟨v, vs, rfl, r1.ext x2 R1.sub, r2⟩
/-- all plain data -/
def plains : List W → Option (List PyData)
  | [] => some []
  | .d x :: r => (plains r).map (x :: ·)
  | .c _ :: _ => none
  | .v _ :: _ => none
theorem plains_reps {K : PySem.W.Frag} {A μ : List Addr} {H : Hp} : ∀ {ws : List W} {xs : List PyData} {vs : List V}, plains ws = some xs → RepWs K A μ H ws vs → Reps K A H xs vs
  | [], _, _, e, h => by cases e; subst h; exact .nil
  | .c _ :: _, _, _, e, _ => by cases e
  | .v _ :: _, _, _, e, _ => by cases e
  | .d x :: r, xs, _, e, h => by
    obtain ⟨v, vs, rfl, h1, h2⟩ := h
    unfold plains at e
    cases q : plains r with
    | none => rw [q] at e; cases e
    | some ys =>
      rw [q] at e
      have e' : x :: ys = xs := Option.some.inj e
      subst e'
      exact .cons h1 (plains_reps q h2)
def dTup (t : DTA) : DTE := fun δ h Q => t δ h fun ws h1 => match plains ws with
  | some xs => xs.length ≤ sizeLine ∧ Q (.d (.tuple xs)) h1
  | none => False
def dLst (t : DTA) : DTF := fun δ h Q => t δ h fun ws h1 => match plains ws with
  | some xs => xs.length ≤ sizeLine ∧ Q xs h1
  | none => False
theorem de_tup {k} (h : DA X es t) : DE X (.Tuple es k pos) (dTup t) := pe_mono (pe_tup h) fun σ H Q q => by
  obtain ⟨δ, h, A, μ, k, R, q, c⟩ := q
  refine ⟨δ, h, A, μ, _, R, q, fun ws h1 vs H1 A1 μ1 q1 x1 R1 r1 => ?_⟩
  cases e : plains ws with
  | none => rw [e] at q1; exact q1.elim
  | some xs =>
    rw [e] at q1
    have rr := plains_reps e r1
    refine ⟨by rw [rr.length]; exact q1.1, fun p hp => ?_⟩
    exact c _ h1 _ _ A1 μ1 q1.2 (x1.trans (ext_fresh hp)) (R1.fresh hp) (rep_tuple R1 hp rr)
theorem df_lst (h : DA X es t) : DF X (.List es pos) (dLst t) := pe_mono (pe_lst h) fun σ H Q q => by
  obtain ⟨δ, h, A, μ, k, R, q, c⟩ := q
  refine ⟨δ, h, A, μ, _, R, q, fun ws h1 vs H1 A1 μ1 q1 x1 R1 r1 => ?_⟩
  cases e : plains ws with
  | none => rw [e] at q1; exact q1.elim
  | some xs =>
    rw [e] at q1
    have rr := plains_reps e r1
    refine ⟨by rw [rr.length]; exact q1.1, fun p hp => ?_⟩
    obtain ⟨ν, e1, _⟩ := x1.pre
    exact c xs h1 p _ (p :: A1) μ1 q1.2 (x1.trans (ext_cell hp)) ⟨ν, e1⟩ (x1.back hp) (heap_cell R1 hp rr)

/-! two values -/
abbrev D2 := W → W → Cells → DK → Prop
def upR (K : PySem.W.Frag) (r : D2) : R2 := fun x y H Q => ∃ (u w : W) (h : Cells) (A μ : List Addr) (k : DK), HeapRep K A μ h H ∧ RepW K A μ H u x ∧ RepW K A μ H w y ∧ r u w h k ∧
  ∀ w h' v H' A' μ', k w h' → Ext A A' μ μ' H H' → HeapRep K A' μ' h' H' → RepW K A' μ' H' w v → Q v H'
def dOp (r : D2) (ta tb : DTE) : DTE := fun δ h Q => ta δ h fun x h1 => tb δ h1 fun y h2 => r x y h2 Q
theorem up_op {K : PySem.W.Frag} {r : D2} {σ : L2.St} {H : Hp} {Q : VK} (q : up K (dOp r ta tb) σ H Q) : tOp (upR K r) (up K ta) (up K tb) σ H Q := by
  obtain ⟨δ, h, A, μ, k, R, q, c⟩ := q
  refine ⟨δ, h, A, μ, _, R, q, fun u h1 v H1 A1 μ1 q1 x1 R1 r1 => ?_⟩
  refine ⟨δ, h1, A1, μ1, _, ⟨R1, R.2.ext x1 R.1.sub⟩, q1, fun w h2 v2 H2 A2 μ2 q2 x2 R2 r2 => ?_⟩
  exact ⟨u, w, h2, A2, μ2, k, R2, r1.ext x2 R1.sub, r2, q2, fun z h3 v3 H3 A3 μ3 q3 x3 R3 r3 => c z h3 v3 H3 A3 μ3 q3 ((x1.trans x2).trans x3) R3 r3⟩
theorem de_op {op : Operator} {r : D2} (ho : OpR X (binaryOp op) (upR X.K r)) (ha : DE X a ta) (hb : DE X b tb) : DE X (.BinOp a op b pos) (dOp r ta tb) := pe_mono (pe_op ho ha hb) fun _ _ _ q => up_op q
theorem de_cmp {op : CmpOp} {r : D2} (ho : OpR X (compareOp op) (upR X.K r)) (ha : DE X a ta) (hb : DE X b tb) (hm : behindInMarks op b = false := by first | exact nobehind _ (by decide) (by decide) | rfl) : DE X (.Compare a [op] [b] pos) (dOp r ta tb) :=
  pe_mono (pe_cmpR ho ha hb hm) fun _ _ _ q => up_op q
/-- a bool's truth -/
def dB (t : DTE) : DTT := fun δ h Q => t δ h fun w h1 => match w with
  | .d (.bool b) => Q b h1
  | _ => False
theorem up_bool {K : PySem.W.Frag} {σ : L2.St} {H : Hp} {Q : Bool → Hp → Prop} {t : DTE} (q : upT K (dB t) σ H Q) : up K t σ H fun x H' => ∃ c, x = .bl c ∧ Q c H' := by
  obtain ⟨δ, h, A, μ, k, R, q, c⟩ := q
  refine ⟨δ, h, A, μ, _, R, q, fun w h1 v H1 A1 μ1 q1 x1 R1 r1 => ?_⟩
  cases w with
  | c i => exact q1.elim
  | v u => exact q1.elim
  | d x =>
    cases x with
    | bool b =>
      have e : v = .bl b := by
        have z : Rep K A1 H1 (.bool b) v := r1
        rw [Rep] at z; exact z
      exact ⟨b, e, c b h1 H1 A1 μ1 q1 x1 R1⟩
    | _ => exact q1.elim
theorem dt_val (h : DE X e te) (he : ∀ whole, isTrue e X.env whole = (do let v ← whole; standAt e.pos; holding [v] (truthy v)) := by intro _; rfl) : DT X e (dB te) := pt_mono (pt_val h he) fun _ _ _ q => up_bool q
theorem dt_cmp {op : CmpOp} {r : D2} (ho : OpR X (compareOp op) (upR X.K r)) (ha : DE X a ta) (hb : DE X b tb) (hm : behindInMarks op b = false := by first | exact nobehind _ (by decide) (by decide) | rfl) : DT X (.Compare a [op] [b] pos) (dB (dOp r ta tb)) :=
  pt_mono (pt_cmpR ho ha hb hm) fun σ H Q q => by
    obtain ⟨δ, h, A, μ, k, R, q1, c⟩ := up_bool q
    exact up_op ⟨δ, h, A, μ, k, R, q1, c⟩
/-! and, or, not, if else -/
def dNot (t : DTT) : DTT := fun δ h Q => t δ h fun b h1 => Q (!b) h1
def dAnd (t u : DTT) : DTT := fun δ h Q => t δ h fun b h1 => if b = true then u δ h1 Q else Q false h1
def dOr (t u : DTT) : DTT := fun δ h Q => t δ h fun b h1 => if b = true then Q true h1 else u δ h1 Q
theorem dt_not (h : DT X e tc) : DT X (.UnaryOp .Not e pos) (dNot tc) := pt_mono (pt_not h) fun σ H Q q => by
  obtain ⟨δ, h, A, μ, k, R, q, c⟩ := q
  exact ⟨δ, h, A, μ, _, R, q, fun b h' H' A' μ' k' => c (!b) h' H' A' μ' k'⟩
theorem DW.dt (h : DW X e tc) : DT X e tc := h _
theorem dw_and1 (h : DT X a tc) : DW X (.BoolOp .And [a] pos) tc := pw_and1 h
theorem dw_or1 (h : DT X a tc) : DW X (.BoolOp .Or [a] pos) tc := pw_or1 h
theorem dw_and (ha : DT X a tA) (hb : DW X (.BoolOp .And (b :: es) pos) tB) : DW X (.BoolOp .And (a :: b :: es) pos) (dAnd tA tB) := pw_mono (pw_and ha hb) fun σ H Q q => by
  obtain ⟨δ, h, A, μ, k, R, q, c⟩ := q
  refine ⟨δ, h, A, μ, _, R, q, fun b h1 H1 A1 μ1 q1 x1 R1 => ?_⟩
  cases b with
  | true =>
    rw [if_pos rfl] at q1
    rw [if_pos rfl]
    exact ⟨δ, h1, A1, μ1, k, ⟨R1, R.2.ext x1 R.1.sub⟩, q1, fun b h2 H2 A2 μ2 q2 x2 R2 => c b h2 H2 A2 μ2 q2 (x1.trans x2) R2⟩
  | false =>
    rw [if_neg Bool.false_ne_true] at q1
    rw [if_neg Bool.false_ne_true]
    exact c false h1 H1 A1 μ1 q1 x1 R1
theorem dw_or (ha : DT X a tA) (hb : DW X (.BoolOp .Or (b :: es) pos) tB) : DW X (.BoolOp .Or (a :: b :: es) pos) (dOr tA tB) := pw_mono (pw_or ha hb) fun σ H Q q => by
  obtain ⟨δ, h, A, μ, k, R, q, c⟩ := q
  refine ⟨δ, h, A, μ, _, R, q, fun b h1 H1 A1 μ1 q1 x1 R1 => ?_⟩
  cases b with
  | false =>
    rw [if_neg Bool.false_ne_true] at q1
    rw [if_neg Bool.false_ne_true]
    exact ⟨δ, h1, A1, μ1, k, ⟨R1, R.2.ext x1 R.1.sub⟩, q1, fun b h2 H2 A2 μ2 q2 x2 R2 => c b h2 H2 A2 μ2 q2 (x1.trans x2) R2⟩
  | true =>
    rw [if_pos rfl] at q1
    rw [if_pos rfl]
    exact c true h1 H1 A1 μ1 q1 x1 R1
/-- .. as values (bools) -/
def dAndV (ta tb : DTE) : DTE := fun δ h Q => ta δ h fun w h1 => match w with
  | .d (.bool b) => if b = true then tb δ h1 Q else Q (.d (.bool false)) h1
  | _ => False
def dOrV (ta tb : DTE) : DTE := fun δ h Q => ta δ h fun w h1 => match w with
  | .d (.bool b) => if b = true then Q (.d (.bool true)) h1 else tb δ h1 Q
  | _ => False
def dNotV (ta : DTE) : DTE := fun δ h Q => ta δ h fun w h1 => match w with
  | .d (.bool b) => Q (.d (.bool (!b))) h1
  | _ => False
theorem repW_bool {K : PySem.W.Frag} {A μ : List Addr} {H : Hp} {b : Bool} {v : V} (r : RepW K A μ H (.d (.bool b)) v) : v = .bl b := by
  have z : Rep K A H (.bool b) v := r
  rw [Rep] at z; exact z
theorem repW_bl {K : PySem.W.Frag} {A μ : List Addr} {H : Hp} {b : Bool} : RepW K A μ H (.d (.bool b)) (.bl b) := by
  show Rep K A H (.bool b) (.bl b)
  rw [Rep]
theorem repW_int {K : PySem.W.Frag} {A μ : List Addr} {H : Hp} {b : Int} {v : V} (r : RepW K A μ H (.d (.int b)) v) : v = .int b := by
  have z : Rep K A H (.int b) v := r
  rw [Rep] at z; exact z
theorem repW_i {K : PySem.W.Frag} {A μ : List Addr} {H : Hp} {b : Int} : RepW K A μ H (.d (.int b)) (.int b) := by
  show Rep K A H (.int b) (.int b)
  rw [Rep]
theorem de_one {op} (h : DE X a te) : DE X (.BoolOp op [a] pos) te := pe_one h
theorem de_and (ha : DE X a ta) (hb : DE X (.BoolOp .And (b :: es) pos) tb) : DE X (.BoolOp .And (a :: b :: es) pos) (dAndV ta tb) := pe_mono (pe_and ha hb) fun σ H Q q => by
  obtain ⟨δ, h, A, μ, k, R, q, c⟩ := q
  refine ⟨δ, h, A, μ, _, R, q, fun w h1 v H1 A1 μ1 q1 x1 R1 r1 => ?_⟩
  cases w with
  | c i => exact q1.elim
  | v u => exact q1.elim
  | d x =>
    cases x with
    | bool b =>
      refine ⟨b, repW_bool r1, ?_⟩
      cases b with
      | true => exact ⟨δ, h1, A1, μ1, k, ⟨R1, R.2.ext x1 R.1.sub⟩, q1, fun w h2 v H2 A2 μ2 q2 x2 R2 r2 => c w h2 v H2 A2 μ2 q2 (x1.trans x2) R2 r2⟩
      | false => exact c _ h1 _ H1 A1 μ1 q1 x1 R1 repW_bl
    | _ => exact q1.elim
theorem de_or (ha : DE X a ta) (hb : DE X (.BoolOp .Or (b :: es) pos) tb) : DE X (.BoolOp .Or (a :: b :: es) pos) (dOrV ta tb) := pe_mono (pe_or ha hb) fun σ H Q q => by
  obtain ⟨δ, h, A, μ, k, R, q, c⟩ := q
  refine ⟨δ, h, A, μ, _, R, q, fun w h1 v H1 A1 μ1 q1 x1 R1 r1 => ?_⟩
  cases w with
  | c i => exact q1.elim
  | v u => exact q1.elim
  | d x =>
    cases x with
    | bool b =>
      refine ⟨b, repW_bool r1, ?_⟩
      cases b with
      | false => exact ⟨δ, h1, A1, μ1, k, ⟨R1, R.2.ext x1 R.1.sub⟩, q1, fun w h2 v H2 A2 μ2 q2 x2 R2 r2 => c w h2 v H2 A2 μ2 q2 (x1.trans x2) R2 r2⟩
      | true => exact c _ h1 _ H1 A1 μ1 q1 x1 R1 repW_bl
    | _ => exact q1.elim
theorem de_not (ha : DE X a ta) : DE X (.UnaryOp .Not a pos) (dNotV ta) := pe_mono (pe_not ha) fun σ H Q q => by
  obtain ⟨δ, h, A, μ, k, R, q, c⟩ := q
  refine ⟨δ, h, A, μ, _, R, q, fun w h1 v H1 A1 μ1 q1 x1 R1 r1 => ?_⟩
  cases w with
  | c i => exact q1.elim
  | v u => exact q1.elim
  | d x =>
    cases x with
    | bool b => exact ⟨b, repW_bool r1, c _ h1 _ H1 A1 μ1 q1 x1 R1 repW_bl⟩
    | _ => exact q1.elim
def dIf (t : DTT) (ta tb : DTE) : DTE := fun δ h Q => t δ h fun b h1 => if b = true then ta δ h1 Q else tb δ h1 Q
theorem de_ifExp {c : Expr} (hc : DT X c tc) (ha : DE X a ta) (hb : DE X b tb) : DE X (.IfExp c a b pos) (dIf tc ta tb) := pe_mono (pe_ifExp hc ha hb) fun σ H Q q => by
  obtain ⟨δ, h, A, μ, k, R, q, c⟩ := q
  refine ⟨δ, h, A, μ, _, R, q, fun b h1 H1 A1 μ1 q1 x1 R1 => ?_⟩
  cases b with
  | true => exact ⟨δ, h1, A1, μ1, k, ⟨R1, R.2.ext x1 R.1.sub⟩, q1, fun w h2 v H2 A2 μ2 q2 x2 R2 r2 => c w h2 v H2 A2 μ2 q2 (x1.trans x2) R2 r2⟩
  | false => exact ⟨δ, h1, A1, μ1, k, ⟨R1, R.2.ext x1 R.1.sub⟩, q1, fun w h2 v H2 A2 μ2 q2 x2 R2 r2 => c w h2 v H2 A2 μ2 q2 (x1.trans x2) R2 r2⟩
end
end DL

set_option Elab.async false
set_option linter.all false
set_option autoImplicit false
set_option maxRecDepth 100000
set_option maxHeartbeats 4000000
namespace DL
open PySem PySem.Spec PyProof.Rows L2

/-! ### reading a value -/
def ref (h : Cells) : W → Option PyData
  | .d x => some x
  | .c i => match h[i]? with
    | some (.l xs) => some (.list xs)
    | none => none
  | .v _ => none
mutual
def See (K : PySem.W.Frag) (H : Hp) : PyData → V → Prop
  | .none, v => v = .non
  | .bool b, v => v = .bl b
  | .int i, v => v = .int i
  | .str x, v => v = .str x
  | .list xs, v => ∃ a vs, v = .ref a ∧ SqL K H a vs ∧ Sees K H xs vs
  | .tuple xs, v => ∃ a vs, v = .ref a ∧ SqT K H a vs ∧ Sees K H xs vs
  | .dict _, _ => True
def Sees (K : PySem.W.Frag) (H : Hp) : List PyData → List V → Prop
  | [], vs => vs = []
  | x :: xs, vs => ∃ v r, vs = v :: r ∧ See K H x v ∧ Sees K H xs r
end
mutual
theorem Rep.see {K : PySem.W.Frag} {A : List Addr} {H : Hp} : ∀ {d : PyData} {v : V}, Rep K A H d v → See K H d v
  | .none, _, h => by rw [Rep] at h; rw [See]; exact h
  | .bool _, _, h => by rw [Rep] at h; rw [See]; exact h
  | .int _, _, h => by rw [Rep] at h; rw [See]; exact h
  | .str _, _, h => by rw [Rep] at h; rw [See]; exact h.1
  | .list xs, _, h => by
    rw [Rep] at h; rw [See]
    obtain ⟨a, vs, e, h1, h2⟩ := h
    exact ⟨a, vs, e, h1.sq, Reps.sees h2⟩
  | .tuple xs, _, h => by
    rw [Rep] at h; rw [See]
    obtain ⟨a, vs, e, h1, h2⟩ := h
    exact ⟨a, vs, e, h1.sq, Reps.sees h2⟩
  | .dict _, _, _ => by rw [See]; trivial
theorem Reps.sees {K : PySem.W.Frag} {A : List Addr} {H : Hp} : ∀ {d : List PyData} {v : List V}, Reps K A H d v → Sees K H d v
  | [], _, h => by rw [Reps] at h; rw [Sees]; exact h
  | x :: xs, _, h => by
    rw [Reps] at h; rw [Sees]
    obtain ⟨v, r, e, h1, h2⟩ := h
    exact ⟨v, r, e, Rep.see h1, Reps.sees h2⟩
end
mutual
theorem See.reads {X : Cx} {pins : List (Addr × Obj)} {σ : L2.St} {H : Hp} {s : Shared} (I : Inv X pins σ H s) : ∀ {d : PyData} {v : V} {u : Value}, See X.K H d v → d.canLay0 = true → RelV v u → ∃ as, Reads s.heap u d as
  | .none, _, _, h, _, r => by rw [See] at h; subst h; cases r; exact ⟨_, Reads.none⟩
  | .bool _, _, _, h, _, r => by rw [See] at h; subst h; cases r; exact ⟨_, Reads.bool _⟩
  | .int _, _, _, h, _, r => by rw [See] at h; subst h; obtain ⟨t, rfl⟩ := r; exact ⟨_, Reads.int _ _⟩
  | .str _, _, _, h, _, r => by rw [See] at h; subst h; obtain ⟨t, rfl⟩ := r; exact ⟨_, Reads.str _ _⟩
  | .list xs, _, _, h, c, r => by
    rw [See] at h
    obtain ⟨a, vs, rfl, h1, h2⟩ := h
    cases r
    obtain ⟨its, rv, ⟨o, n, ho, hc, _, hd⟩, _⟩ := I.list h1
    rw [PyData.canLay0] at c
    obtain ⟨as, z⟩ := Sees.reads I h2 c rv
    exact ⟨_, Reads.list ho hc hd (by simpa using z)⟩
  | .tuple xs, _, _, h, c, r => by
    rw [See] at h
    obtain ⟨a, vs, rfl, h1, h2⟩ := h
    cases r
    obtain ⟨its, rv, ⟨o, ho, hc, n, hd⟩, _⟩ := I.tuple h1
    rw [PyData.canLay0] at c
    obtain ⟨as, z⟩ := Sees.reads I h2 c rv
    exact ⟨_, Reads.tuple ho hc hd (by simpa using z)⟩
  | .dict _, _, _, _, c, _ => by rw [PyData.canLay0] at c; cases c
theorem Sees.reads {X : Cx} {pins : List (Addr × Obj)} {σ : L2.St} {H : Hp} {s : Shared} (I : Inv X pins σ H s) : ∀ {d : List PyData} {v : List V} {u : List Value}, Sees X.K H d v → PyData.canLayAll0 d = true → Vals v u → ∃ as, ReadsAll s.heap u d as
  | [], _, _, h, _, r => by rw [Sees] at h; subst h; cases r; exact ⟨_, ReadsAll.nil⟩
  | x :: xs, _, _, h, c, r => by
    rw [Sees] at h
    obtain ⟨v, rr, rfl, h1, h2⟩ := h
    rw [PyData.canLayAll0, Bool.and_eq_true] at c
    cases r with
    | cons r1 r2 =>
      obtain ⟨as, z1⟩ := See.reads I h1 c.1 r1
      obtain ⟨bs, z2⟩ := Sees.reads I h2 c.2 r2
      exact ⟨_, ReadsAll.cons z1 z2⟩
end
theorem ref_see {K : PySem.W.Frag} {A μ : List Addr} {H : Hp} {h : Cells} {w : W} {v : V} {d : PyData} (R : HeapRep K A μ h H) (r : RepW K A μ H w v) (e : ref h w = some d) : See K H d v := by
  cases w with
  | d x => cases e; exact Rep.see r
  | v u => cases e
  | c i =>
    obtain ⟨a, e1, rfl⟩ := r
    dsimp only [DL.ref] at e
    cases q : h[i]? with
    | none => rw [q] at e; cases e
    | some cc =>
      cases cc with
      | l xs =>
        rw [q] at e
        cases e
        obtain ⟨vs, z1, z2⟩ := R.val i a xs e1 q
        rw [See]
        exact ⟨a, vs, rfl, .inl (.inl z1), z2.sees⟩
/-- a list that is read: its items -/
theorem ref_list {K : PySem.W.Frag} {A μ : List Addr} {H : Hp} {h : Cells} {w : W} {v : V} {xs : List PyData} (R : HeapRep K A μ h H) (r : RepW K A μ H w v) (e : ref h w = some (.list xs)) : ∃ a vs, v = .ref a ∧ SqL K H a vs ∧ Reps K A H xs vs := by
  cases w with
  | d x =>
    cases e
    have z : Rep K A H (.list xs) v := r
    rw [Rep] at z
    obtain ⟨a, vs, e, h1, h2⟩ := z
    exact ⟨a, vs, e, h1.sq, h2⟩
  | v u => cases e
  | c i =>
    obtain ⟨a, e1, rfl⟩ := r
    dsimp only [DL.ref] at e
    cases q : h[i]? with
    | none => rw [q] at e; cases e
    | some cc =>
      cases cc with
      | l ys =>
        rw [q] at e
        cases e
        obtain ⟨vs, z1, z2⟩ := R.val i a xs e1 q
        exact ⟨a, vs, rfl, .inl (.inl z1), z2⟩
theorem ref_tuple {K : PySem.W.Frag} {A μ : List Addr} {H : Hp} {h : Cells} {w : W} {v : V} {xs : List PyData} (r : RepW K A μ H w v) (e : ref h w = some (.tuple xs)) : ∃ a vs, v = .ref a ∧ TupAt K A H a vs ∧ Reps K A H xs vs := by
  cases w with
  | d x =>
    cases e
    have z : Rep K A H (.tuple xs) v := r
    rw [Rep] at z
    exact z
  | v u => cases e
  | c i =>
    dsimp only [DL.ref] at e
    cases q : h[i]? with
    | none => rw [q] at e; cases e
    | some cc =>
      cases cc with
      | l ys => rw [q] at e; cases e

/-! ### operators -/
def dAdd : D2
  | .d (.int i), .d (.int j), h, Q => Q (.d (.int (i + j))) h
  | .d (.tuple xs), .d (.tuple ys), h, Q => xs.length + ys.length ≤ sizeLine ∧ Q (.d (.tuple (xs ++ ys))) h
  | _, _, _, _ => False
def dSub : D2
  | .d (.int i), .d (.int j), h, Q => Q (.d (.int (i - j))) h
  | _, _, _, _ => False
def dMul : D2
  | .d (.int i), .d (.int j), h, Q => CMul i j ∧ Q (.d (.int (i * j))) h
  | _, _, _, _ => False
def dDiv : D2
  | .d (.int i), .d (.int j), h, Q => CDiv i j ∧ Q (.d (.int (i / j))) h
  | _, _, _, _ => False
def dMod : D2
  | .d (.int i), .d (.int j), h, Q => 0 < j ∧ Q (.d (.int (i % j))) h
  | _, _, _, _ => False
def dPow : D2
  | .d (.int i), .d (.int j), h, Q => CPow i j ∧ Q (.d (.int (i ^ j.toNat))) h
  | _, _, _, _ => False
def dCmpI (p : Int → Int → Bool) : D2
  | .d (.int i), .d (.int j), h, Q => Q (.d (.bool (p i j))) h
  | _, _, _, _ => False
def dEq : D2 := fun x y h Q => match ref h x, ref h y with
  | some a, some b => SeqAt.shaped a = true ∧ SeqAt.shaped b = true ∧ Q (.d (.bool (PyData.eqv a b))) h
  | _, _ => False
def dNe : D2 := fun x y h Q => match ref h x, ref h y with
  | some a, some b => SeqAt.shaped a = true ∧ SeqAt.shaped b = true ∧ Q (.d (.bool (!PyData.eqv a b))) h
  | _, _ => False
section
variable {X : Cx}
theorem int_op {op : Value → Value → Sem Value} {f : Int → Int → PyData} {g : Int → Int → V} {C : Int → Int → Prop} {r : D2} (ho : OpR X op (rI C g)) (hf : ∀ i j A H, Rep X.K A H (f i j) (g i j))
    (hr : ∀ u w h k, r u w h k → ∃ i j, u = .d (.int i) ∧ w = .d (.int j) ∧ C i j ∧ k (.d (f i j)) h) : OpR X op (upR X.K r) := by
  intro pins s σ H x y v u Q I rx ry h
  obtain ⟨a, b, h, A, μ, k, R, ra, rb, q, c⟩ := h
  obtain ⟨i, j, rfl, rfl, hc, q⟩ := hr _ _ _ _ q
  have ea := repW_int ra
  have eb := repW_int rb
  subst ea eb
  exact ho pins s σ H _ _ v u Q I rx ry ⟨i, j, rfl, rfl, hc, c _ _ _ _ _ _ q .refl R (hf i j A H)⟩
theorem OpR.i0 {op : Value → Value → Sem Value} {g : Int → Int → V} (ho : OpR X op (rI0 g)) : OpR X op (rI (fun _ _ => True) g) := fun pins s σ H x y v u Q I rx ry ⟨i, j, e1, e2, _, q⟩ => ho pins s σ H x y v u Q I rx ry ⟨i, j, e1, e2, q⟩
theorem repI {K : PySem.W.Frag} {A : List Addr} {H : Hp} {i : Int} : Rep K A H (.int i) (.int i) := by rw [Rep]
theorem repB {K : PySem.W.Frag} {A : List Addr} {H : Hp} {i : Bool} : Rep K A H (.bool i) (.bl i) := by rw [Rep]
/-- () + t -/
theorem op_catT0 : OpR X (binaryOp .Add) (fun x y H Q => ∃ a b ys, x = .ref a ∧ y = .ref b ∧ SqT X.K H a [] ∧ SqT X.K H b ys ∧ Q (.ref b) H) := by
  intro pins s σ H x y v u Q I rx ry h
  obtain ⟨a, b, ys, rfl, rfl, ha, hb, q⟩ := h
  cases rx
  cases ry
  obtain ⟨its, r1, p1, _⟩ := I.tuple ha
  obtain ⟨its2, r2, p2, _⟩ := I.tuple hb
  have e0 : its = [] := by cases r1; rfl
  subst e0
  obtain ⟨⟨cls, dd, data, sl⟩, ho, hc, n, hd⟩ := id p1
  obtain ⟨⟨cls2, dd2, data2, sl2⟩, ho2, hc2, n2, hd2⟩ := id p2
  simp only at hc hd hc2 hd2
  subst hc hd hc2 hd2
  exact concat_meets ⟨_, ho, rfl⟩ ⟨_, ho2, rfl⟩ noFill_tuple_add seq_tuple_add PySem.F.slot_tuple_add PySem.F.entry_tuple_add (PySem.F.args_tuple_add_2 _ _) (tuple_addW0 a b _ _ n n2 dd dd2 sl sl2 rfl) ⟨ho, ho2, ⟨.ref b, H, I, rfl, q⟩⟩
theorem op_dAdd : OpR X (binaryOp .Add) (upR X.K dAdd) := by
  intro pins s σ H x y v u Q I rx ry h
  obtain ⟨a, b, h, A, μ, k, R, ra, rb, q, c⟩ := h
  unfold dAdd at q
  split at q
  · have ea := repW_int ra
    have eb := repW_int rb
    subst ea eb
    exact op_add pins s σ H _ _ v u Q I rx ry ⟨_, _, rfl, rfl, c _ _ _ _ _ _ q .refl R repW_i⟩
  · rename_i xs ys
    obtain ⟨pa, va, rfl, ta, sa⟩ := ref_tuple (h := h) ra rfl
    obtain ⟨pb, vb, rfl, tb, sb⟩ := ref_tuple (h := h) rb rfl
    have la := sa.length
    have lb := sb.length
    have all : Reps X.K A H (xs ++ ys) (va ++ vb) := sb.append sa
    by_cases e1 : va = []
    · subst e1
      have ex : xs = [] := List.eq_nil_of_length_eq_zero la.symm
      subst ex
      refine op_catT0 pins s σ H _ _ v u Q I rx ry ⟨pa, pb, vb, rfl, rfl, ta.sq, tb.sq, c _ _ _ _ _ _ q.2 .refl R rb⟩
    · refine op_catT pins s σ H _ _ v u Q I rx ry ⟨pa, pb, va, vb, rfl, rfl, ta.sq, tb.sq, e1, by rw [la, lb]; exact q.1, fun z => ?_, fun _ p hp => ?_⟩
      · subst z
        have ey : ys = [] := List.eq_nil_of_length_eq_zero lb.symm
        subst ey
        have q2 := q.2
        rw [List.append_nil] at q2
        exact c _ _ _ _ _ _ q2 .refl R ra
      · exact c _ _ _ _ _ _ q.2 (ext_fresh hp) (R.fresh hp) (rep_tuple R hp all)
  · exact q.elim
theorem op_dSub : OpR X (binaryOp .Sub) (upR X.K dSub) := int_op (f := fun i j => .int (i - j)) (OpR.i0 op_sub) (fun _ _ _ _ => repI) fun u w h k q => by
  unfold dSub at q
  split at q
  · exact ⟨_, _, rfl, rfl, trivial, q⟩
  · exact q.elim
theorem op_dMul : OpR X (binaryOp .Mult) (upR X.K dMul) := int_op (f := fun i j => .int (i * j)) op_mul (fun _ _ _ _ => repI) fun u w h k q => by
  unfold dMul at q
  split at q
  · exact ⟨_, _, rfl, rfl, q.1, q.2⟩
  · exact q.elim
theorem op_dDiv : OpR X (binaryOp .FloorDiv) (upR X.K dDiv) := int_op (f := fun i j => .int (i / j)) op_fdiv (fun _ _ _ _ => repI) fun u w h k q => by
  unfold dDiv at q
  split at q
  · exact ⟨_, _, rfl, rfl, q.1, q.2⟩
  · exact q.elim
theorem op_dMod : OpR X (binaryOp .Mod) (upR X.K dMod) := int_op (f := fun i j => .int (i % j)) op_mod (fun _ _ _ _ => repI) fun u w h k q => by
  unfold dMod at q
  split at q
  · exact ⟨_, _, rfl, rfl, q.1, q.2⟩
  · exact q.elim
theorem op_dPow : OpR X (binaryOp .Pow) (upR X.K dPow) := int_op (f := fun i j => .int (i ^ j.toNat)) op_pow (fun _ _ _ _ => repI) fun u w h k q => by
  unfold dPow at q
  split at q
  · exact ⟨_, _, rfl, rfl, q.1, q.2⟩
  · exact q.elim
theorem cmpI_of {p : Int → Int → Bool} (u w : W) (h : Cells) (k : DK) (q : dCmpI p u w h k) : ∃ i j, u = .d (.int i) ∧ w = .d (.int j) ∧ True ∧ k (.d (.bool (p i j))) h := by
  unfold dCmpI at q
  split at q
  · exact ⟨_, _, rfl, rfl, trivial, q⟩
  · exact q.elim
abbrev dLt := dCmpI fun i j => decide (i < j)
abbrev dLe := dCmpI fun i j => decide (i ≤ j)
abbrev dGt := dCmpI fun i j => decide (j < i)
abbrev dGe := dCmpI fun i j => decide (j ≤ i)
theorem op_dLt : OpR X (compareOp .Lt) (upR X.K dLt) := int_op (f := fun i j => .bool (decide (i < j))) (OpR.i0 op_lt) (fun _ _ _ _ => repB) cmpI_of
theorem op_dLe : OpR X (compareOp .LtE) (upR X.K dLe) := int_op (f := fun i j => .bool (decide (i ≤ j))) (OpR.i0 op_le) (fun _ _ _ _ => repB) cmpI_of
theorem op_dGt : OpR X (compareOp .Gt) (upR X.K dGt) := int_op (f := fun i j => .bool (decide (j < i))) (OpR.i0 op_gt) (fun _ _ _ _ => repB) cmpI_of
theorem op_dGe : OpR X (compareOp .GtE) (upR X.K dGe) := int_op (f := fun i j => .bool (decide (j ≤ i))) (OpR.i0 op_ge) (fun _ _ _ _ => repB) cmpI_of
theorem op_dEq {n : Nat} (hr : Room n X.A) : OpR X (compareOp .Eq) (upR X.K dEq) := by
  intro pins s σ H x y v u Q I rx ry h
  obtain ⟨a, b, h, A, μ, k, R, ra, rb, q, c⟩ := h
  unfold dEq at q
  split at q
  · rename_i da db ea eb
    obtain ⟨as, z1⟩ := (ref_see R ra ea).reads I (SeqAt.canLay_of_shaped q.1) rx
    obtain ⟨bs, z2⟩ := (ref_see R rb eb).reads I (SeqAt.canLay_of_shaped q.2.1) ry
    exact eq_dataH z1 z2 q.1 q.2.1 hr.units ⟨.bl _, H, I, rfl, c _ _ _ _ _ _ q.2.2 .refl R repW_bl⟩
  · exact q.elim
theorem op_dNe {n : Nat} (hr : Room n X.A) : OpR X (compareOp .NotEq) (upR X.K dNe) := by
  intro pins s σ H x y v u Q I rx ry h
  obtain ⟨a, b, h, A, μ, k, R, ra, rb, q, c⟩ := h
  unfold dNe at q
  split at q
  · rename_i da db ea eb
    obtain ⟨as, z1⟩ := (ref_see R ra ea).reads I (SeqAt.canLay_of_shaped q.1) rx
    obtain ⟨bs, z2⟩ := (ref_see R rb eb).reads I (SeqAt.canLay_of_shaped q.2.1) ry
    exact ne_dataH z1 z2 q.1 q.2.1 hr.units ⟨.bl _, H, I, rfl, c _ _ _ _ _ _ q.2.2 .refl R repW_bl⟩
  · exact q.elim
/-! is, is not with None, True, False -/
def isSame : PyData → PyData → Option Bool
  | .none, .none => some true
  | .bool a, .bool b => some (a == b)
  | .none, .bool _ => some false
  | .bool _, .none => some false
  | .int _, .none => some false
  | .int _, .bool _ => some false
  | .str _, .none => some false
  | .str _, .bool _ => some false
  | .list _, .none => some false
  | .list _, .bool _ => some false
  | .tuple _, .none => some false
  | .tuple _, .bool _ => some false
  | _, _ => none
def dIs (neg : Bool) : D2
  | .d a, .d b, h, Q => match isSame a b with
    | some k => Q (.d (.bool (if neg then !k else k))) h
    | none => False
  | _, _, _, _ => False
theorem isSame_val {K : PySem.W.Frag} {A : List Addr} {H : Hp} {a b : PyData} {x y : V} {v u : Value} {k : Bool} (ra : Rep K A H a x) (rb : Rep K A H b y) (rx : RelV x v) (ry : RelV y u) (e : isSame a b = some k) : plainIs v u = true ∧ (v == u) = k := by
  cases b with
  | none =>
    rw [Rep] at rb
    subst rb
    cases ry
    cases a with
    | none => rw [Rep] at ra; subst ra; cases rx; cases e; exact ⟨rfl, rfl⟩
    | bool c => rw [Rep] at ra; subst ra; cases rx; cases e; exact ⟨rfl, rfl⟩
    | int c => rw [Rep] at ra; subst ra; obtain ⟨t, rfl⟩ := rx; cases e; exact ⟨rfl, rfl⟩
    | str c => rw [Rep] at ra; obtain ⟨ra, _⟩ := ra; subst ra; obtain ⟨t, rfl⟩ := rx; cases e; exact ⟨rfl, rfl⟩
    | list c => rw [Rep] at ra; obtain ⟨p, vs, rfl, _⟩ := ra; cases rx; cases e; exact ⟨rfl, rfl⟩
    | tuple c => rw [Rep] at ra; obtain ⟨p, vs, rfl, _⟩ := ra; cases rx; cases e; exact ⟨rfl, rfl⟩
    | dict c => cases e
  | bool b =>
    rw [Rep] at rb
    subst rb
    cases ry
    cases a with
    | none => rw [Rep] at ra; subst ra; cases rx; cases e; exact ⟨rfl, rfl⟩
    | bool c => rw [Rep] at ra; subst ra; cases rx; cases e; cases b <;> cases c <;> exact ⟨rfl, rfl⟩
    | int c => rw [Rep] at ra; subst ra; obtain ⟨t, rfl⟩ := rx; cases e; exact ⟨rfl, rfl⟩
    | str c => rw [Rep] at ra; obtain ⟨ra, _⟩ := ra; subst ra; obtain ⟨t, rfl⟩ := rx; cases e; exact ⟨rfl, rfl⟩
    | list c => rw [Rep] at ra; obtain ⟨p, vs, rfl, _⟩ := ra; cases rx; cases e; exact ⟨rfl, rfl⟩
    | tuple c => rw [Rep] at ra; obtain ⟨p, vs, rfl, _⟩ := ra; cases rx; cases e; exact ⟨rfl, rfl⟩
    | dict c => cases e
  | _ => cases a <;> cases e
theorem op_dIs : OpR X (compareOp .Is) (upR X.K (dIs false)) := by
  intro pins s σ H x y v u Q I rx ry h
  obtain ⟨a, b, h, A, μ, k, R, ra, rb, q, c⟩ := h
  unfold dIs at q
  split at q
  · split at q
    · rename_i e
      obtain ⟨h1, h2⟩ := isSame_val ra rb rx ry e
      exact wpAny_is_plain h1 ⟨.bl _, H, I, by rw [h2]; rfl, c _ _ _ _ _ _ q .refl R repW_bl⟩
    · exact q.elim
  · exact q.elim
theorem op_dIsNot : OpR X (compareOp .IsNot) (upR X.K (dIs true)) := by
  intro pins s σ H x y v u Q I rx ry h
  obtain ⟨a, b, h, A, μ, k, R, ra, rb, q, c⟩ := h
  unfold dIs at q
  split at q
  · split at q
    · rename_i e
      obtain ⟨h1, h2⟩ := isSame_val ra rb rx ry e
      exact wpAny_isNot_plain h1 ⟨.bl _, H, I, by rw [h2]; rfl, c _ _ _ _ _ _ q .refl R repW_bl⟩
    · exact q.elim
  · exact q.elim

/-! ### a[i] -/
def dIx : D2 := fun x y h Q => match ref h x, y with
  | some (.list xs), .d (.int i) => match atI xs i with
    | some v => Q (.d v) h
    | none => False
  | some (.tuple xs), .d (.int i) => match atI xs i with
    | some v => Q (.d v) h
    | none => False
  | _, _ => False
theorem atI_reps {K : PySem.W.Frag} {A : List Addr} {H : Hp} {xs : List PyData} {vs : List V} {i : Int} {x : PyData} (r : Reps K A H xs vs) (e : atI xs i = some x) : ∃ v, atI vs i = some v ∧ Rep K A H x v := by
  unfold atI at e ⊢
  rw [r.length]
  cases q : ixN xs.length i with
  | none => rw [q] at e; cases e
  | some j =>
    rw [q] at e
    obtain ⟨v, e1, e2⟩ := r.get (i := j) e
    exact ⟨v, e1, e2⟩
theorem ix_d : IxR X (upR X.K dIx) := by
  intro value slice pins s σ H x y v u Q I rx ry h hs
  obtain ⟨a, b, h, A, μ, k, R, ra, rb, q, c⟩ := h
  unfold dIx at q
  split at q
  · rename_i xs i ea
    obtain ⟨p, vs, rfl, sq, rr⟩ := ref_list R ra ea
    have eb := repW_int rb
    subst eb
    split at q
    · rename_i z ez
      obtain ⟨z', e1, e2⟩ := atI_reps rr ez
      exact ix_list value slice pins s σ H _ _ v u Q I rx ry ⟨p, vs, i, z', rfl, rfl, sq, e1, c _ _ _ _ _ _ q .refl R e2⟩ hs
    · exact q.elim
  · rename_i xs i ea
    obtain ⟨p, vs, rfl, sq, rr⟩ := ref_tuple ra ea
    have eb := repW_int rb
    subst eb
    split at q
    · rename_i z ez
      obtain ⟨z', e1, e2⟩ := atI_reps rr ez
      exact ix_tup value slice pins s σ H _ _ v u Q I rx ry ⟨p, vs, i, z', rfl, rfl, sq.sq, e1, c _ _ _ _ _ _ q .refl R e2⟩ hs
    · exact q.elim
  · exact q.elim
theorem de_ix {a b : Expr} {pos : Pos} {ta tb : DTE} (ha : DE X a ta) (hb : DE X b tb) (hs : PlainIx b := by intro _ _; rfl) : DE X (.Subscript a b pos) (dOp dIx ta tb) := pe_mono (pe_ix ix_d ha hb hs) fun _ _ _ q => up_op q

/-! ### slices -/
abbrev DTO := DSt → Cells → (Option Int → Cells → Prop) → Prop
def upO (K : PySem.W.Frag) (t : DTO) : TO := fun σ H Q => ∃ (δ : DSt) (h : Cells) (A μ : List Addr) (k : Option Int → Cells → Prop), Ab K A μ δ h σ H ∧ t δ h k ∧
  ∀ b h' H' A' μ', k b h' → Ext A A' μ μ' H H' → HeapRep K A' μ' h' H' → Q b H'
def DO (X : Cx) (e : Option Expr) (t : DTO) : Prop := PO X e (upO X.K t)
theorem po_mono {X : Cx} {e : Option Expr} {t t' : TO} (h : PO X e t) (m : ∀ σ H Q, t' σ H Q → t σ H Q) : PO X e t' := fun pins s σ H Q I q => h pins s σ H Q I (m σ H Q q)
def dNoPart : DTO := fun _ h Q => Q none h
def dPart (t : DTE) : DTO := fun δ h Q => t δ h fun w h1 => match w with
  | .d (.int i) => Q (some i) h1
  | _ => False
theorem do_none : DO X none dNoPart := po_mono po_none fun σ H Q q => by
  obtain ⟨δ, h, A, μ, k, R, q, c⟩ := q
  exact c none h H A μ q .refl R.1
theorem do_some {e : Expr} {te : DTE} (he : DE X e te) : DO X (some e) (dPart te) := po_mono (po_some he) fun σ H Q q => by
  obtain ⟨δ, h, A, μ, k, R, q, c⟩ := q
  refine ⟨δ, h, A, μ, _, R, q, fun w h1 v H1 A1 μ1 q1 x1 R1 r1 => ?_⟩
  cases w with
  | c i => exact q1.elim
  | v u => exact q1.elim
  | d x =>
    cases x with
    | int i => exact ⟨i, repW_int r1, c _ h1 H1 A1 μ1 q1 x1 R1⟩
    | _ => exact q1.elim
def cut (xs : List PyData) (lo hi : Option Int) : List PyData := (xs.drop (HT.sIx xs.length 0 lo)).take (HT.sIx xs.length xs.length hi - HT.sIx xs.length 0 lo)
def dSl3 (te : DTE) (tl th : DTO) (r : W → Option Int → Option Int → Cells → Prop) : DSt → Cells → Prop := fun δ h => te δ h fun x h1 => tl δ h1 fun lo h2 => th δ h2 fun hi h3 => r x lo hi h3
/-- t[lo:hi] -/
def dSlT (te : DTE) (tl th : DTO) : DTE := fun δ h Q => dSl3 te tl th (fun x lo hi h3 => match x with
  | .d (.tuple xs) => Q (.d (.tuple (cut xs lo hi))) h3
  | _ => False) δ h
def dSlL (te : DTE) (tl th : DTO) : DTF := fun δ h Q => dSl3 te tl th (fun x lo hi h3 => match ref h3 x with
  | some (.list xs) => Q (cut xs lo hi) h3
  | _ => False) δ h
theorem cut_reps {K : PySem.W.Frag} {A : List Addr} {H : Hp} {xs : List PyData} {vs : List V} (r : Reps K A H xs vs) (lo hi : Option Int) : Reps K A H (cut xs lo hi) (cutV vs lo hi) := by
  unfold cut cutV
  rw [r.length]
  exact (r.drop _).take _
theorem whole_get {prog : Program} {w : World} {A : Around} {E : Value → Shared → Prop} {s : Shared} {t sl : Addr} {items : Array Value} {vl vu : Value} {lo hi : Option Int} {Q : Value → Shared → Prop} (ht : IsTup s.heap t items) (hs : s.heap.IsSliceOf sl vl vu .none) (pl : IsPart vl lo) (pu : IsPart vu hi)
    (hw : HT.sIx items.size 0 lo = 0 ∧ HT.sIx items.size items.size hi = items.size) (h : Q (.ref t) s) : wpAny (model prog w) A (getItem (.ref t) (.ref sl)) Q E s := by
  obtain ⟨os, hos, hcs, hds⟩ := id hs
  have hTs : s.TypeIs (.ref sl) "slice" := ⟨os, hos, hcs⟩
  unfold getItem
  try with_reducible refine wpAny_holding ?_
  first | refine wpAny_bind (wpAny_pure ?_) | skip
  refine wpAny_bind (wpAny_sequenceKey ht.typeIs (by decide) ?_)
  refine wpAny_bind (wpAny_callSpecial?_slot (name := Str.ofString "__getitem__") ht.typeIs PyProof.Rows.slot_tuple_getitem
    (wpAny_call_entry PyProof.Rows.slot_tuple_getitem ht.typeIs entry_tuple_getitem ?_ (args_tuple_getitem _ _)))
  show wpAny _ _ (Builtin.Tuple.tupleItemsOf (.ref t) >>= _) _ _ s
  refine wpAny_bind (tupleItemsOf_ ht (wpAny_bind (wpAny_typeOf hTs ?_)))
  rw [if_pos (by decide)]
  refine wpAny_bind (HT.sliceApplied_gen hs pl pu ?_)
  have hy : (((HT.sIx items.size 0 lo : Nat) : Int) == 0 && (1 : Int) == 1 && (HT.sIx items.size items.size hi - HT.sIx items.size 0 lo) == items.size) = true := by
    rw [hw.1, hw.2]
    simp
  show wpAny _ _ (if (((HT.sIx items.size 0 lo : Nat) : Int) == 0 && (1 : Int) == 1 && (HT.sIx items.size items.size hi - HT.sIx items.size 0 lo) == items.size) = true then _ else _) _ _ s
  rw [if_pos hy]
  refine wpAny_bind (wpAny_bind (wpAny_typeOf ht.typeIs (wpAny_pure ?_)))
  rw [if_pos (by decide)]
  exact wpAny_bind (wpAny_rule (wpAny_pure ⟨_, rfl, wpAny_pure h⟩))
def rSlW (K : PySem.W.Frag) : V → Option Int → Option Int → Hp → VK → Prop := fun x lo hi H Q => ∃ a xs, x = .ref a ∧ SqT K H a xs ∧ (HT.sIx xs.length 0 lo = 0 ∧ HT.sIx xs.length xs.length hi = xs.length) ∧ Q (.ref a) H
theorem sl_tupW : SlR X (rSlW X.K) := by
  intro pins s σ H x v vl vu lo hi sl Q I rx hs pl pu h
  obtain ⟨a, xs, rfl, hx, hw, q⟩ := h
  cases rx
  obtain ⟨its, r, ht, hz⟩ := I.tuple hx
  have hlen : its.toArray.size = xs.length := by rw [List.size_toArray]; exact r.length.symm
  exact ⟨"tuple", _, PyProof.Rows.slot_tuple_getitem.lookup, ht.typeIs, whole_get ht hs pl pu (by rw [hlen]; exact hw) ⟨.ref a, H, I, rfl, q⟩⟩
theorem cut_whole {xs : List PyData} {lo hi : Option Int} (h : HT.sIx xs.length 0 lo = 0 ∧ HT.sIx xs.length xs.length hi = xs.length) : cut xs lo hi = xs := by
  unfold cut
  rw [h.1, h.2]
  simp
theorem de_slT {e : Expr} {te : DTE} {lo hi : Option Expr} {tl th : DTO} {p2 pos : Pos} (he : DE X e te) (hl : DO X lo tl) (hh : DO X hi th) : DE X (.Subscript e (.Slice lo hi none p2) pos) (dSlT te tl th) := pe_mono (pe_slice (sl_tup.or sl_tupW) he hl hh) fun σ H Q q => by
  obtain ⟨δ, h, A, μ, k, R, q, c⟩ := q
  refine ⟨δ, h, A, μ, _, R, q, fun w h1 v H1 A1 μ1 q1 x1 R1 r1 => ?_⟩
  refine ⟨δ, h1, A1, μ1, _, ⟨R1, R.2.ext x1 R.1.sub⟩, q1, fun l h2 H2 A2 μ2 q2 x2 R2 => ?_⟩
  refine ⟨δ, h2, A2, μ2, _, ⟨R2, R.2.ext (x1.trans x2) R.1.sub⟩, q2, fun u h3 H3 A3 μ3 q3 x3 R3 => ?_⟩
  have r3 := r1.ext (x2.trans x3) R1.sub
  dsimp only at q3 ⊢
  split at q3
  · rename_i xs
    obtain ⟨p, vs, rfl, sq, rr⟩ := ref_tuple (h := h3) r3 rfl
    by_cases hw : HT.sIx xs.length 0 l = 0 ∧ HT.sIx xs.length xs.length u = xs.length
    · rw [cut_whole hw] at q3
      exact .inr ⟨p, vs, rfl, sq.sq, by rw [rr.length]; exact hw, c _ _ _ _ _ _ q3 ((x1.trans x2).trans x3) R3 r3⟩
    · refine .inl ⟨p, vs, rfl, sq.sq, by rw [rr.length]; exact hw, fun p hp => ?_⟩
      exact c _ _ _ _ _ _ q3 (((x1.trans x2).trans x3).trans (ext_fresh hp)) (R3.fresh hp) (rep_tuple R3 hp (cut_reps rr l u))
  · exact q3.elim
theorem df_slL {e : Expr} {te : DTE} {lo hi : Option Expr} {tl th : DTO} {p2 pos : Pos} (he : DE X e te) (hl : DO X lo tl) (hh : DO X hi th) : DF X (.Subscript e (.Slice lo hi none p2) pos) (dSlL te tl th) := pe_mono (pe_slice sl_list he hl hh) fun σ H Q q => by
  obtain ⟨δ, h, A, μ, k, R, q, c⟩ := q
  refine ⟨δ, h, A, μ, _, R, q, fun w h1 v H1 A1 μ1 q1 x1 R1 r1 => ?_⟩
  refine ⟨δ, h1, A1, μ1, _, ⟨R1, R.2.ext x1 R.1.sub⟩, q1, fun l h2 H2 A2 μ2 q2 x2 R2 => ?_⟩
  refine ⟨δ, h2, A2, μ2, _, ⟨R2, R.2.ext (x1.trans x2) R.1.sub⟩, q2, fun u h3 H3 A3 μ3 q3 x3 R3 => ?_⟩
  have r3 := r1.ext (x2.trans x3) R1.sub
  dsimp only at q3 ⊢
  split at q3
  · rename_i xs ex
    obtain ⟨p, vs, rfl, sq, rr⟩ := ref_list R3 r3 ex
    refine ⟨p, vs, rfl, sq, fun p hp => ?_⟩
    have x4 := (x1.trans x2).trans x3
    obtain ⟨ν, e1, _⟩ := x4.pre
    exact c _ _ _ _ _ _ q3 (x4.trans (ext_cell hp)) ⟨ν, e1⟩ (x4.back hp) (heap_cell R3 hp (cut_reps rr l u))
  · exact q3.elim
end
end DL

set_option Elab.async false
set_option linter.all false
set_option autoImplicit false
set_option maxRecDepth 100000
set_option maxHeartbeats 4000000
namespace DL
open PySem PySem.Spec PyProof.Rows L2

/-! ### built-in calls by values -/
abbrev DC := List W → Cells → DK → Prop
def upC (K : PySem.W.Frag) (r : DC) : List V → Hp → VK → Prop := fun vs H Q => ∃ (ws : List W) (h : Cells) (A μ : List Addr) (k : DK), HeapRep K A μ h H ∧ RepWs K A μ H ws vs ∧ r ws h k ∧
  ∀ w h' v H' A' μ', k w h' → Ext A A' μ μ' H H' → HeapRep K A' μ' h' H' → RepW K A' μ' H' w v → Q v H'
def dCB (r : DC) (t : DTA) : DTE := fun δ h Q => t δ h fun ws h1 => r ws h1 Q
theorem up_cb {K : PySem.W.Frag} {r : DC} {t : DTA} {σ : L2.St} {H : Hp} {Q : VK} (q : up K (dCB r t) σ H Q) : tCB (upC K r) (upA K t) σ H Q := by
  obtain ⟨δ, h, A, μ, k, R, q, c⟩ := q
  refine ⟨δ, h, A, μ, _, R, q, fun ws h1 vs H1 A1 μ1 q1 x1 R1 r1 => ?_⟩
  exact ⟨ws, h1, A1, μ1, k, R1, r1, q1, fun w h2 v H2 A2 μ2 q2 x2 R2 r2 => c w h2 v H2 A2 μ2 q2 (x1.trans x2) R2 r2⟩
theorem repWs1 {K : PySem.W.Frag} {A μ : List Addr} {H : Hp} {w : W} {vs : List V} (r : RepWs K A μ H [w] vs) : ∃ v, vs = [v] ∧ RepW K A μ H w v := by
  obtain ⟨v, r, rfl, h1, h2⟩ := r
  have e : r = [] := h2
  subst e
  exact ⟨v, rfl, h1⟩
section
variable {X : Cx} {x : Str} {p pos : Pos} {e : Expr} {es : List Expr} {t : DTA} {id T : String} {r : DC}
theorem de_callB (hc : CallR X (.builtin id) (upC X.K r)) (hm : X.mg x = none) (ha : DA X (e :: es) t) (hv : bootBuiltins x = some (.builtin id) := by rfl) (hg : Gl X x := by rfl) (hn : x ≠ "__name__" := by decide) (hdb : (x == ("__debug__" : Str)) = false := by decide)
    (he : starEach (e :: es) X.env = (false, eval e X.env) :: starEach es X.env := by rfl) (hpl : (backTo pos (starEach es X.env)).any (·.1) = false := by rfl) : DE X (.Call (.Name x p) (e :: es) [] pos) (dCB r t) :=
  pe_mono (pe_callB hc hg hm hv ha hn hdb he hpl) fun _ _ _ q => up_cb q
theorem de_callTy (hc : CallR X (.type T) (upC X.K r)) (hm : X.mg x = none) (ha : DA X (e :: es) t) (hv : bootBuiltins x = some (.type T) := by rfl) (hg : Gl X x := by rfl) (hn : x ≠ "__name__" := by decide) (hdb : (x == ("__debug__" : Str)) = false := by decide)
    (he : starEach (e :: es) X.env = (false, eval e X.env) :: starEach es X.env := by rfl) (hpl : (backTo pos (starEach es X.env)).any (·.1) = false := by rfl) : DE X (.Call (.Name x p) (e :: es) [] pos) (dCB r t) :=
  pe_mono (pe_callTy hc hg hm hv ha hn hdb he hpl) fun _ _ _ q => up_cb q
/-- len -/
def dLen : DC
  | [w], h, Q => match ref h w with
    | some (.list xs) => Q (.d (.int xs.length)) h
    | some (.tuple xs) => Q (.d (.int xs.length)) h
    | _ => False
  | _, _, _ => False
theorem call_dLen : CallR X (.builtin "len") (upC X.K dLen) := by
  intro pins s σ H xs us Q I r h
  obtain ⟨ws, h, A, μ, k, R, rw', q, c⟩ := h
  unfold dLen at q
  split at q
  · rename_i w h0 k0
    obtain ⟨v, rfl, rv⟩ := repWs1 rw'
    split at q
    · rename_i ys ey
      obtain ⟨p, vs, rfl, sq, rr⟩ := ref_list R rv ey
      exact call_len_seq pins s σ H _ us Q I r ⟨p, vs, rfl, .inl sq, by rw [rr.length]; exact c _ _ _ _ _ _ q .refl R repW_i⟩
    · rename_i ys ey
      obtain ⟨p, vs, rfl, sq, rr⟩ := ref_tuple rv ey
      exact call_len_seq pins s σ H _ us Q I r ⟨p, vs, rfl, .inr sq.sq, by rw [rr.length]; exact c _ _ _ _ _ _ q .refl R repW_i⟩
    · exact q.elim
  · exact q.elim
/-- tuple(..) -/
def dTuple : DC
  | [w], h, Q => match ref h w with
    | some (.list xs) => Q (.d (.tuple xs)) h
    | some (.tuple xs) => Q (.d (.tuple xs)) h
    | _ => False
  | _, _, _ => False
theorem call_dTuple : CallR X (.type "tuple") (upC X.K dTuple) := by
  intro pins s σ H xs us Q I r h
  obtain ⟨ws, h, A, μ, k, R, rw', q, c⟩ := h
  unfold dTuple at q
  split at q
  · rename_i w h0 k0
    obtain ⟨v, rfl, rv⟩ := repWs1 rw'
    split at q
    · rename_i ys ey
      obtain ⟨p, vs, rfl, sq, rr⟩ := ref_list R rv ey
      exact call_tuple_of pins s σ H _ us Q I r ⟨p, vs, rfl, .inl ⟨sq, fun l hl => c _ _ _ _ _ _ q (ext_fresh hl) (R.fresh hl) (rep_tuple R hl rr)⟩⟩
    · rename_i ys ey
      obtain ⟨p, vs, rfl, sq, rr⟩ := ref_tuple rv ey
      refine call_tuple_of pins s σ H _ us Q I r ⟨p, vs, rfl, .inr ⟨sq.sq, c _ _ _ _ _ _ q .refl R ?_⟩⟩
      show Rep X.K A H (.tuple ys) (.ref p)
      rw [Rep]
      exact ⟨p, vs, rfl, sq, rr⟩
    · exact q.elim
  · exact q.elim
/-- list(..): a fresh list -/
def dListF (t : DTA) : DTF := fun δ h Q => t δ h fun ws h1 => match ws with
  | [w] => (match ref h1 w with
    | some (.list xs) => Q xs h1
    | some (.tuple xs) => Q xs h1
    | _ => False)
  | _ => False
theorem df_list (hm : X.mg "list" = none) (ha : DA X (e :: es) t) (hg : Gl X "list" := by rfl)
    (he : starEach (e :: es) X.env = (false, eval e X.env) :: starEach es X.env := by rfl) (hpl : (backTo pos (starEach es X.env)).any (·.1) = false := by rfl) : DF X (.Call (.Name "list" p) (e :: es) [] pos) (dListF t) :=
  pe_mono (pe_callTy call_list_of hg hm rfl ha (by decide) (by decide) he hpl) fun σ H Q q => by
    obtain ⟨δ, h, A, μ, k, R, q, c⟩ := q
    refine ⟨δ, h, A, μ, _, R, q, fun ws h1 vs H1 A1 μ1 q1 x1 R1 r1 => ?_⟩
    obtain ⟨ν, e1, _⟩ := x1.pre
    split at q1
    · rename_i w
      obtain ⟨v, rfl, rv⟩ := repWs1 r1
      split at q1
      · rename_i ys ey
        obtain ⟨p, vs, rfl, sq, rr⟩ := ref_list R1 rv ey
        exact ⟨p, vs, rfl, .inl sq, fun l hl => c _ _ _ _ _ _ q1 (x1.trans (ext_cell hl)) ⟨ν, e1⟩ (x1.back hl) (heap_cell R1 hl rr)⟩
      · rename_i ys ey
        obtain ⟨p, vs, rfl, sq, rr⟩ := ref_tuple rv ey
        exact ⟨p, vs, rfl, .inr sq.sq, fun l hl => c _ _ _ _ _ _ q1 (x1.trans (ext_cell hl)) ⟨ν, e1⟩ (x1.back hl) (heap_cell R1 hl rr)⟩
      · exact q1.elim
    · exact q1.elim
/-- list + list: a fresh list -/
def dCatF (ta tb : DTE) : DTF := fun δ h Q => ta δ h fun x h1 => tb δ h1 fun y h2 => match x, y with
  | .d (.list xs), .d (.list ys) => xs.length + ys.length ≤ sizeLine ∧ Q (xs ++ ys) h2
  | _, _ => False
end

/-! ### defs of the text -/
abbrev DSp := List W → Cells → (PyData → Cells → Prop) → Prop
def upSp (K : PySem.W.Frag) (d : DSp) : Sp := fun vs H Q _ => ∃ (ws : List W) (h : Cells) (A μ : List Addr) (k : PyData → Cells → Prop), HeapRep K A μ h H ∧ RepWs K A μ H ws vs ∧ d ws h k ∧
  ∀ z h' v H' A', k z h' → Ext A A' μ μ H H' → HeapRep K A' μ h' H' → Rep K A' H' z v → Q v H'
def dCall (d : DSp) (t : DTA) : DTE := fun δ h Q => t δ h fun ws h1 => d ws h1 fun z h2 => Q (.d z) h2
theorem up_call {K : PySem.W.Frag} {d : DSp} {t : DTA} {σ : L2.St} {H : Hp} {Q : VK} (q : up K (dCall d t) σ H Q) : tCall (upSp K d) [] E0 (upA K t) σ H Q := by
  obtain ⟨δ, h, A, μ, k, R, q, c⟩ := q
  refine ⟨δ, h, A, μ, _, R, q, fun ws h1 vs H1 A1 μ1 q1 x1 R1 r1 => ?_⟩
  show upSp K d (vs ++ []) H1 Q E0
  rw [List.append_nil]
  exact ⟨ws, h1, A1, μ1, _, R1, r1, q1, fun z h2 v H2 A2 q2 x2 R2 r2 => c _ h2 v H2 A2 μ1 q2 (x1.trans x2) R2 r2⟩
/-- a def as its callers take it -/
structure DFn (P : Program) (w : World) (K : PySem.W.Frag) (mg : Str → Option Value) (base : Heap) (k : Nat) (x : Str) (d : DSp) : Prop where
  ok : ∃ (f : Addr) (fd : FuncData) (ps : List Str), FnOk P w K mg base CX0 k f fd ps (upSp K d) ∧ mg x = some (.ref f) ∧ PySem.W.keepIn K (.ref f) = true ∧ Binds K fd ps []
theorem DFn.mono {P : Program} {w : World} {K : PySem.W.Frag} {mg : Str → Option Value} {base : Heap} {j k : Nat} {x : Str} {d : DSp} (F : DFn P w K mg base j x d) (h : j ≤ k) : DFn P w K mg base k x d := by
  obtain ⟨f, fd, ps, h1, h2⟩ := F.ok
  exact ⟨f, fd, ps, h1.mono h, h2⟩
theorem DFn.imp {P : Program} {w : World} {K : PySem.W.Frag} {mg : Str → Option Value} {base : Heap} {k : Nat} {x : Str} {d d' : DSp} (F : DFn P w K mg base k x d) (h : ∀ ws h k, d' ws h k → d ws h k) : DFn P w K mg base k x d' := by
  obtain ⟨f, fd, ps, h1, h2⟩ := F.ok
  exact ⟨f, fd, ps, h1.imp fun vs H Q E ⟨ws, h0, A, μ, k, R, r, q, c⟩ => ⟨ws, h0, A, μ, k, R, r, h _ _ _ q, c⟩, h2⟩
section
variable {X : Cx} {x : Str} {p pos : Pos} {e : Expr} {es : List Expr} {t : DTA} {d : DSp} {k : Nat}
theorem de_call (F : DFn X.prog X.w X.K X.mg X.base k x d) (hr : Room k X.A) (ha : DA X (e :: es) t) (hg : Gl X x := by rfl) (hdb : (x == ("__debug__" : Str)) = false := by decide)
    (he : starEach (e :: es) X.env = (false, eval e X.env) :: starEach es X.env := by rfl) (hpl : (backTo pos (starEach es X.env)).any (·.1) = false := by rfl) : DE X (.Call (.Name x p) (e :: es) [] pos) (dCall d t) := by
  obtain ⟨f, fd, ps, h1, h2, h3, h4⟩ := F.ok
  exact pe_mono (pe_call h1 hr hg h2 h3 h4 .nil pass0 ha hdb he hpl) fun _ _ _ q => up_call q
end

/-! ### statements -/
structure DEnds where
  nx : DSt → Cells → Prop
  rt : DK
  bk : DSt → Cells → Prop := fun _ _ => False
  ct : DSt → Cells → Prop := fun _ _ => False
abbrev DTS := DEnds → DSt → Cells → Prop
structure Lnk (K : PySem.W.Frag) (A μ : List Addr) (H : Hp) (E : DEnds) (D : Ends) : Prop where
  nx : ∀ δ' h' σ' H' A' μ', E.nx δ' h' → Ext A A' μ μ' H H' → Ab K A' μ' δ' h' σ' H' → D.nx σ' H'
  bk : ∀ δ' h' σ' H' A' μ', E.bk δ' h' → Ext A A' μ μ' H H' → Ab K A' μ' δ' h' σ' H' → D.bk σ' H'
  ct : ∀ δ' h' σ' H' A' μ', E.ct δ' h' → Ext A A' μ μ' H H' → Ab K A' μ' δ' h' σ' H' → D.ct σ' H'
  rt : ∀ w h' v H' A' μ', E.rt w h' → Ext A A' μ μ' H H' → HeapRep K A' μ' h' H' → RepW K A' μ' H' w v → D.rt v H'
theorem Lnk.ext {K : PySem.W.Frag} {A A1 μ μ1 : List Addr} {H H1 : Hp} {E : DEnds} {D : Ends} (L : Lnk K A μ H E D) (x : Ext A A1 μ μ1 H H1) : Lnk K A1 μ1 H1 E D :=
  ⟨fun δ h σ H' A' μ' q y => L.nx δ h σ H' A' μ' q (x.trans y), fun δ h σ H' A' μ' q y => L.bk δ h σ H' A' μ' q (x.trans y), fun δ h σ H' A' μ' q y => L.ct δ h σ H' A' μ' q (x.trans y), fun w h v H' A' μ' q y => L.rt w h v H' A' μ' q (x.trans y)⟩
def upS (K : PySem.W.Frag) (t : DTS) : TS := fun D σ H => ∃ (δ : DSt) (h : Cells) (A μ : List Addr) (E : DEnds), Ab K A μ δ h σ H ∧ t E δ h ∧ Lnk K A μ H E D
def DS (X : Cx) (st : Stmt) (t : DTS) : Prop := PS X st (upS X.K t)
def DSs (X : Cx) (st : List Stmt) (t : DTS) : Prop := PSs X st (upS X.K t)
def dNext : DTS := fun E δ h => E.nx δ h
def dSeq (t u : DTS) : DTS := fun E δ h => t { E with nx := u E } δ h
def dRet (te : DTE) : DTS := fun E δ h => te δ h E.rt
def dDrop (te : DTE) : DTS := fun E δ h => te δ h fun _ h1 => E.nx δ h1
def dIfS (c : DTT) (t u : DTS) : DTS := fun E δ h => c δ h fun b h1 => if b = true then t E δ h1 else u E δ h1
/-! targets -/
abbrev DTG := W → DSt → Cells → (DSt → Cells → Prop) → Prop
abbrev DTGs := List PyData → DSt → Cells → (DSt → Cells → Prop) → Prop
def upG (K : PySem.W.Frag) (t : DTG) : TG := fun v σ H Q => ∃ (w : W) (δ : DSt) (h : Cells) (A μ : List Addr) (k : DSt → Cells → Prop), Ab K A μ δ h σ H ∧ RepW K A μ H w v ∧ t w δ h k ∧
  ∀ δ' h' σ' H' A' μ', k δ' h' → Ext A A' μ μ' H H' → Ab K A' μ' δ' h' σ' H' → Q σ' H'
def upGs (K : PySem.W.Frag) (t : DTGs) : TGs := fun vs σ H Q => ∃ (xs : List PyData) (δ : DSt) (h : Cells) (A μ : List Addr) (k : DSt → Cells → Prop), Ab K A μ δ h σ H ∧ Reps K A H xs vs ∧ t xs δ h k ∧
  ∀ δ' h' σ' H' A' μ', k δ' h' → Ext A A' μ μ' H H' → Ab K A' μ' δ' h' σ' H' → Q σ' H'
def DG (X : Cx) (tg : Expr) (t : DTG) : Prop := PG X tg (upG X.K t)
def DGs (X : Cx) (tg : List Expr) (t : DTGs) : Prop := PGs X tg (upGs X.K t)
theorem pg_mono {X : Cx} {e : Expr} {t t' : TG} (h : PG X e t) (m : ∀ v σ H Q, t' v σ H Q → t v σ H Q) : PG X e t' := fun pins s σ H v u Q I r q => h pins s σ H v u Q I r (m v σ H Q q)
theorem pgs_mono {X : Cx} {e : List Expr} {t t' : TGs} (h : PGs X e t) (m : ∀ v σ H Q, t' v σ H Q → t v σ H Q) : PGs X e t' := fun pins s σ H v u Q I r q => h pins s σ H v u Q I r (m v σ H Q q)
def dName (i : Nat) : DTG := fun w δ h Q => Q (δ.set i (some w)) h
def dTNil : DTGs := fun xs δ h Q => xs = [] ∧ Q δ h
def dTCons (t : DTG) (u : DTGs) : DTGs := fun xs δ h Q => match xs with
  | x :: r => t (.d x) δ h fun δ1 h1 => u r δ1 h1 Q
  | [] => False
def dTTup (n : Nat) (t : DTGs) : DTG := fun w δ h Q => match w with
  | .d (.tuple xs) => xs.length = n ∧ t xs δ h Q
  | _ => False
def dAsg (te : DTE) (g : DTG) : DTS := fun E δ h => te δ h fun w h1 => g w δ h1 E.nx
section
variable {X : Cx} {st : Stmt} {rest : List Stmt} {t u : DTS} {e tg : Expr} {te : DTE} {tc : DTT} {g : DTG} {pos : Pos}
theorem dss_nil : DSs X [] dNext := pss_mono pss_nil fun D σ H q => by
  obtain ⟨δ, h, A, μ, E, R, q, L⟩ := q
  exact L.nx δ h σ H A μ q .refl R
theorem dss_cons (h1 : DS X st t) (h2 : DSs X rest u) : DSs X (st :: rest) (dSeq t u) := pss_mono (pss_cons h1 h2) fun D σ H q => by
  obtain ⟨δ, h, A, μ, E, R, q, L⟩ := q
  exact ⟨δ, h, A, μ, _, R, q, ⟨fun δ' h' σ' H' A' μ' q' x R' => ⟨δ', h', A', μ', E, R', q', L.ext x⟩, L.bk, L.ct, L.rt⟩⟩
theorem dss_one (h1 : DS X st t) : DSs X [st] t := pss_one h1
theorem ds_pass : DS X (.Pass pos) dNext := ps_mono ps_pass fun D σ H q => by
  obtain ⟨δ, h, A, μ, E, R, q, L⟩ := q
  exact L.nx δ h σ H A μ q .refl R
theorem ds_ret (he : DE X e te) : DS X (.Return (some e) pos) (dRet te) := ps_mono (ps_ret he) fun D σ H q => by
  obtain ⟨δ, h, A, μ, E, R, q, L⟩ := q
  exact ⟨δ, h, A, μ, _, R, q, fun w h' v H' A' μ' q' x R' r' => L.rt w h' v H' A' μ' q' x R' r'⟩
theorem ds_expr (he : DE X e te) (hs : swapsWith e none pos.line X.env = pure false := by rfl) : DS X (.Expr e pos) (dDrop te) := ps_mono (ps_expr he hs) fun D σ H q => by
  obtain ⟨δ, h, A, μ, E, R, q, L⟩ := q
  exact ⟨δ, h, A, μ, _, R, q, fun w h' v H' A' μ' q' x R' _ => L.nx δ h' σ H' A' μ' q' x ⟨R', R.2.ext x R.1.sub⟩⟩
theorem ds_if {c : Expr} {a b : List Stmt} (hc : DT X c tc) (ha : DSs X a t) (hb : DSs X b u) : DS X (.If c a b pos) (dIfS tc t u) := ps_mono (ps_if hc ha hb) fun D σ H q => by
  obtain ⟨δ, h, A, μ, E, R, q, L⟩ := q
  refine ⟨δ, h, A, μ, _, R, q, fun b h1 H1 A1 μ1 q1 x1 R1 => ?_⟩
  cases b with
  | true => exact ⟨δ, h1, A1, μ1, E, ⟨R1, R.2.ext x1 R.1.sub⟩, q1, L.ext x1⟩
  | false => exact ⟨δ, h1, A1, μ1, E, ⟨R1, R.2.ext x1 R.1.sub⟩, q1, L.ext x1⟩
theorem dg_name {i : Nat} {x : Str} (hN : X.N.Nodup) (hi : X.N[i]? = some x := by rfl) (hx : Loc X.env.scope x := by first | exact Or.inl rfl | exact Or.inr rfl) (hf : X.fn x = true ∨ X.env.scope.names.lookup x = some .local := by first | exact .inl rfl | exact .inr rfl) : DG X (.Name x pos) (dName i) :=
  pg_mono (pg_name hN hi hx hf) fun v σ H Q q => by
    obtain ⟨w, δ, h, A, μ, k, R, r, q, c⟩ := q
    exact c _ h _ H A μ q .refl ⟨R.1, R.2.set i r⟩
theorem dgs_nil : DGs X [] dTNil := pgs_mono pgs_nil fun v σ H Q q => by
  obtain ⟨xs, δ, h, A, μ, k, R, r, ⟨e, q⟩, c⟩ := q
  subst e
  rw [Reps] at r
  exact ⟨r, c δ h σ H A μ q .refl R⟩
theorem dgs_cons {es : List Expr} {tu : DTGs} (h1 : DG X e g) (h2 : DGs X es tu) (hs : (assignEach (e :: es) X.env).map (·.2) = assign e X.env :: (assignEach es X.env).map (·.2) := by rfl) : DGs X (e :: es) (dTCons g tu) :=
  pgs_mono (pgs_cons h1 h2 hs) fun v σ H Q q => by
    obtain ⟨xs, δ, h, A, μ, k, R, r, q, c⟩ := q
    cases xs with
    | nil => exact q.elim
    | cons x xs =>
      rw [Reps] at r
      obtain ⟨v1, vr, rfl, r1, r2⟩ := r
      refine ⟨v1, vr, rfl, .d x, δ, h, A, μ, _, R, r1, q, fun δ1 h1 σ1 H1 A1 μ1 q1 x1 R1 => ?_⟩
      exact ⟨xs, δ1, h1, A1, μ1, k, R1, r2.ext x1 R.1.sub, q1, fun δ2 h2 σ2 H2 A2 μ2 q2 x2 R2 => c δ2 h2 σ2 H2 A2 μ2 q2 (x1.trans x2) R2⟩
theorem dg_tup {es : List Expr} {kk : Nat} {tu : DTGs} {n : Nat} (hc : X.calm = true) (h : DGs X es tu) (hn : (assignEach es X.env).length = n := by rfl) (hst : (assignEach es X.env).findIdx? (·.1) = none := by rfl) : DG X (.Tuple es kk pos) (dTTup n tu) :=
  pg_mono (pg_tup hc h hn hst) fun v σ H Q q => by
    obtain ⟨w, δ, h, A, μ, k, R, r, q, c⟩ := q
    unfold dTTup at q
    split at q
    · rename_i xs
      obtain ⟨p, vs, rfl, sq, rr⟩ := ref_tuple (h := h) r rfl
      exact ⟨p, vs, rfl, sq.sq, by rw [rr.length]; exact q.1, xs, δ, h, A, μ, k, R, rr, q.2, c⟩
    · exact q.elim
theorem ds_asg (he : DE X e te) (hg : DG X tg g) (hs : swapsWithSole [tg] e pos.line X.env = pure false := by rfl) (hw : swappedStores [tg] e X.env = pure none := by rfl)
    (h1 : (assignEach [tg] X.env).map (·.2) = [assign tg X.env] := by rfl) : DS X (.Assign [tg] e pos) (dAsg te g) := ps_mono (ps_asg he hg hs hw h1) fun D σ H q => by
  obtain ⟨δ, h, A, μ, E, R, q, L⟩ := q
  refine ⟨δ, h, A, μ, _, R, q, fun w h1 v H1 A1 μ1 q1 x1 R1 r1 => ?_⟩
  exact ⟨w, δ, h1, A1, μ1, E.nx, ⟨R1, R.2.ext x1 R.1.sub⟩, r1, q1, fun δ2 h2 σ2 H2 A2 μ2 q2 x2 R2 => L.nx δ2 h2 σ2 H2 A2 μ2 q2 (x1.trans x2) R2⟩
theorem ds_set {i : Nat} {x : Str} {pos' : Pos} (hN : X.N.Nodup) (he : DE X e te) (hi : X.N[i]? = some x := by rfl) (hx : Loc X.env.scope x := by first | exact Or.inl rfl | exact Or.inr rfl) (hs : swapsWith e (some (.Name x pos')) pos.line X.env = pure false := by rfl)
    (hf : X.fn x = true ∨ X.env.scope.names.lookup x = some .local := by first | exact .inl rfl | exact .inr rfl) : DS X (.Assign [.Name x pos'] e pos) (dAsg te (dName i)) := ps_mono (ps_set hN hi hx he hs hf) fun D σ H q => by
  obtain ⟨δ, h, A, μ, E, R, q, L⟩ := q
  refine ⟨δ, h, A, μ, _, R, q, fun w h1 v H1 A1 μ1 q1 x1 R1 r1 => ?_⟩
  exact L.nx _ h1 _ H1 A1 μ1 q1 x1 ⟨R1, (R.2.ext x1 R.1.sub).set i r1⟩
/-! a fresh list stored at a name -/
def DFS (X : Cx) (i : Nat) (st : Stmt) (tf : DTF) : Prop := PS X st (tAsg (upF X.K tf) (gName i))
theorem dfs_of {tf : DTF} {i : Nat} {x : Str} {pos' : Pos} (hN : X.N.Nodup) (he : DF X e tf) (hi : X.N[i]? = some x := by rfl) (hx : Loc X.env.scope x := by first | exact Or.inl rfl | exact Or.inr rfl) (hs : swapsWith e (some (.Name x pos')) pos.line X.env = pure false := by rfl)
    (hf : X.fn x = true ∨ X.env.scope.names.lookup x = some .local := by first | exact .inl rfl | exact .inr rfl) : DFS X i (.Assign [.Name x pos'] e pos) tf := ps_set hN hi hx he hs hf
theorem ds_frz {tf : DTF} {i : Nat} (h : DFS X i st tf) : DS X st (dAsg (dFrz tf) (dName i)) := ps_mono h fun D σ H q => by
  obtain ⟨δ, h, A, μ, E, R, q, L⟩ := q
  refine ⟨δ, h, A, μ, _, R, q, fun xs h' p H' A' μ' kk x hm hp R' => ?_⟩
  obtain ⟨R1, r1⟩ := heap_freeze R'
  have x1 := ext_freeze R.1 hp x hm
  exact L.nx _ h' _ H' _ μ' kk x1 ⟨R1, (R.2.ext x1 R.1.sub).set i r1⟩
theorem ds_cel {tf : DTF} {i : Nat} (h : DFS X i st tf) : DS X st (dAsg (dCel tf) (dName i)) := ps_mono h fun D σ H q => by
  obtain ⟨δ, h, A, μ, E, R, q, L⟩ := q
  refine ⟨δ, h, A, μ, _, R, q, fun xs h' p H' A' μ' kk x hm hp R' => ?_⟩
  have hl : μ'.length = h'.length := by simpa using R'.len
  exact L.nx _ _ _ H' A' (μ' ++ [p]) kk x ⟨R', (R.2.ext x R.1.sub).set i ⟨p, by rw [← hl]; simp, rfl⟩⟩
/-! o[i] = v -/
def dSetI (to ti : DTE) : DTG := fun v δ h Q => to δ h fun o h1 => ti δ h1 fun i h2 => match o, i, v with
  | .c j, .d (.int k), .d x => (match h2[j]? with
    | some (.l xs) => (match ixN xs.length k with
      | some n => Q δ (h2.set j (.l (xs.set n x)))
      | none => False)
    | none => False)
  | _, _, _ => False
theorem dg_sub {o i : Expr} {to ti : DTE} (ho : DE X o to) (hi : DE X i ti)
    (ha : ∀ v, assign (.Subscript o i pos) X.env v = (do
      let ov ← holding [v] (eval o X.env)
      let iv ← holding [v, ov] (eval i X.env)
      standAt pos
      holding [v, ov, iv] (setItem ov iv v)
      release [v, ov, iv] []) := by intro _; rfl) : DG X (.Subscript o i pos) (dSetI to ti) := pg_mono (pg_sub ho hi set_list ha) fun v σ H Q q => by
  obtain ⟨w, δ, h, A, μ, k, R, r, q, c⟩ := q
  refine ⟨δ, h, A, μ, _, R, q, fun o h1 vo H1 A1 μ1 q1 x1 R1 r1 => ?_⟩
  refine ⟨δ, h1, A1, μ1, _, ⟨R1, R.2.ext x1 R.1.sub⟩, q1, fun i h2 vi H2 A2 μ2 q2 x2 R2 r2 => ?_⟩
  have x12 := x1.trans x2
  split at q2
  · rename_i j kk x
    split at q2
    · rename_i xs ex
      split at q2
      · rename_i n en
        obtain ⟨a, ea, rfl⟩ := r1.ext x2 R1.sub
        have ei := repW_int r2
        subst ei
        obtain ⟨vs, hv, rr⟩ := R2.val j a xs ea ex
        refine ⟨a, vs, kk, n, rfl, rfl, hv, by rw [rr.length]; exact en, ?_⟩
        have rx : Rep X.K A2 H2 x v := r.ext x12 R.1.sub
        have hm := List.mem_of_getElem? ea
        have y := ext_write (A := A2) (o := .lst (vs.set n v)) hm hv
        exact c _ _ _ _ A2 μ2 q2 (x12.trans y) ⟨heap_write R2 ea (rr.set rx n), (R.2.ext x12 R.1.sub).ext y R2.sub⟩
      · exact q2.elim
    · exact q2.elim
  · exact q2.elim
/-! xs.append(v) -/
def dApp (to : DTE) (t : DTA) : DTE := fun δ h Q => to δ h fun o h1 => match o with
  | .c j => t δ h1 fun ws h2 => (match ws, h2[j]? with
    | [.d x], some (.l xs) => xs.length < sizeLine ∧ Q (.d .none) (h2.set j (.l (xs ++ [x])))
    | _, _ => False)
  | _ => False
theorem de_app {o e0 : Expr} {es : List Expr} {to : DTE} {t : DTA} {apos cpos : Pos} (ho : DE X o to) (ha : DA X (e0 :: es) t)
    (hbase : attributeBase o "append" X.env (eval o X.env) = eval o X.env := by rfl)
    (hfew : ((backTo cpos (starEach (e0 :: es) X.env)).all (fun x => !x.1) && (backToKw cpos (keywordEach [] X.env)).all (fun x => x.1.isSome)
      && decide ((e0 :: es).length + ([] : List Keyword).length + (if ([] : List Keyword).isEmpty then 0 else 1) < 30)) = true := by rfl)
    (hline : (apos.endLine == cpos.line) = true := by rfl) (hs : starEach (e0 :: es) X.env = (false, eval e0 X.env) :: starEach es X.env := by rfl) (hplain : (backTo cpos (starEach es X.env)).any (·.1) = false := by rfl) :
    DE X (.Call (.Attribute o "append" apos) (e0 :: es) [] cpos) (dApp to t) := pe_mono (pe_bm PySem.F.plainAttrs_list PySem.F.slot_list_append PySem.F.type_list_append mt_append ho ha hbase hfew hline hs hplain) fun σ H Q q => by
  obtain ⟨δ, h, A, μ, k, R, q, c⟩ := q
  refine ⟨δ, h, A, μ, _, R, q, fun o h1 vo H1 A1 μ1 q1 x1 R1 r1 => ?_⟩
  split at q1
  · rename_i j
    obtain ⟨a, ea, rfl⟩ := r1
    have hex : ∃ xs, h1[j]? = some (.l xs) := by
      have hj : j < h1.length := by rw [← R1.len]; exact (List.getElem?_eq_some_iff.mp ea).1
      cases e : h1[j]? with
      | none => exact absurd (List.getElem?_eq_none_iff.mp e) (by omega)
      | some cc => cases cc with | l xs => exact ⟨xs, rfl⟩
    obtain ⟨xs1, ex1⟩ := hex
    obtain ⟨vs1, hv1, _⟩ := R1.val j a xs1 ea ex1
    refine ⟨.inl ⟨rfl, _, SqL.of hv1⟩, δ, h1, A1, μ1, _, ⟨R1, R.2.ext x1 R.1.sub⟩, q1, fun ws h2 vs H2 A2 μ2 q2 x2 R2 r2 => ?_⟩
    split at q2
    · rename_i x xs ex
      obtain ⟨v, rfl, rv⟩ := repWs1 r2
      have ea2 : μ2[j]? = some a := by
        obtain ⟨ν, e1, _⟩ := x2.pre
        rw [e1, List.getElem?_append_left (List.getElem?_eq_some_iff.mp ea).1]
        exact ea
      obtain ⟨vs, hv, rr⟩ := R2.val j a xs ea2 ex
      refine ⟨a, vs, v, rfl, rfl, hv, by rw [rr.length]; exact q2.1, ?_⟩
      have hm := List.mem_of_getElem? ea2
      exact c _ _ _ _ A2 μ2 q2.2 ((x1.trans x2).trans (ext_write hm hv)) (heap_write R2 ea2 ((Reps.one rv).append rr)) (by show Rep _ _ _ _ _; rw [Rep])
    · exact q2.elim
  · exact q1.elim
end

/-! ### what is walked -/
def cond (c : Option Nat) (xs : List PyData) (h : Cells) : Prop := match c with
  | none => True
  | some i => h[i]? = some (.l xs)
abbrev DTI := DSt → Cells → (List PyData → Option Nat → Cells → Prop) → Prop
def ItOk (K : PySem.W.Frag) (A μ : List Addr) (H : Hp) (J : It) (xs : List PyData) (c : Option Nat) : Prop := ∀ A' μ' H' h', Ext A A' μ μ' H H' → HeapRep K A' μ' h' H' → cond c xs h' →
  (∀ i x, xs[i]? = some x → J.go i H' ∧ ∀ v H2, J.yld i H' v H2 → Ext A' A' μ' μ' H' H2 ∧ HeapRep K A' μ' h' H2 ∧ Rep K A' H2 x v) ∧ ∀ i, xs.length ≤ i → J.stop i H'
def upI (K : PySem.W.Frag) (t : DTI) : TI := fun σ H R => ∃ (δ : DSt) (h : Cells) (A μ : List Addr) (k : List PyData → Option Nat → Cells → Prop), Ab K A μ δ h σ H ∧ t δ h k ∧
  ∀ xs c h' J H' A' μ', k xs c h' → Ext A A' μ μ' H H' → HeapRep K A' μ' h' H' → xs.length ≤ sizeLine → cond c xs h' → ItOk K A' μ' H' J xs c → R J H'
def DI (X : Cx) (tg iter : Expr) (t : DTI) : Prop := PI X tg iter (upI X.K t)
theorem pi_mono {X : Cx} {tg e : Expr} {t t' : TI} (h : PI X tg e t) (m : ∀ σ H R, t' σ H R → t σ H R) : PI X tg e t' := fun pins s σ H R I q => h pins s σ H R I (m σ H R q)
/-- a list or a tuple -/
def dEach (te : DTE) : DTI := fun δ h Q => te δ h fun w h1 => match w with
  | .d (.list xs) => Q xs none h1
  | .d (.tuple xs) => Q xs none h1
  | .c i => (match h1[i]? with
    | some (.l xs) => Q xs (some i) h1
    | none => False)
  | _ => False
def iSeq (K : PySem.W.Frag) (tl : TE) : TI := fun σ H R => tl σ H fun x H1 => ∃ a, x = .ref a ∧ ((∃ xs, SqL K H1 a xs ∧ (xs.length ≤ sizeLine → R (Itl K a) H1)) ∨ ∃ xs, SqT K H1 a xs ∧ (xs.length ≤ sizeLine → R (Itt K a) H1))
theorem pi_seq {X : Cx} {tg l : Expr} {tl : TE} (hl : PE X l tl) : PI X tg l (iSeq X.K tl) := by
  intro pins s σ H R I h
  refine thn (hl pins s σ H _ I h) fun v s1 ⟨x, H1, I1, r1, q1⟩ => ?_
  obtain ⟨a, e, q⟩ := q1
  subst e
  cases r1
  rcases q with ⟨xs, hq, q⟩ | ⟨xs, hq, q⟩
  · obtain ⟨its, rv, p, hz⟩ := I1.list hq
    refine wpAny_pyIter_list p.isList ⟨s1.heap.objs.size, [s1.heap.objs.size], _, _, H1, rfl, I1.kept (t' := s1.toks) fun b o e => Heap.get?_push_of_some _ e, turn_list a _, ⟨_, Heap.get?_push_size _ rfl, rfl, rfl⟩, fun b hb => ?_, q hz⟩
    rw [List.mem_singleton.mp hb]
    exact I1.fpOk (Nat.le_refl _) (I1.hok.fresh (Nat.le_refl _))
  · obtain ⟨its, rv, p, hz⟩ := I1.tuple hq
    refine wpAny_pyIter_tuple (show s1.heap.IsTuple a its.toArray from p) ⟨s1.heap.objs.size, [s1.heap.objs.size], _, _, H1, rfl, I1.kept (t' := s1.toks) fun b o e => Heap.get?_push_of_some _ e, turn_tuple a _, ⟨_, Heap.get?_push_size _ rfl, rfl, rfl⟩, fun b hb => ?_, q hz⟩
    rw [List.mem_singleton.mp hb]
    exact I1.fpOk (Nat.le_refl _) (I1.hok.fresh (Nat.le_refl _))
theorem di_each {X : Cx} {tg e : Expr} {te : DTE} (he : DE X e te) : DI X tg e (dEach te) := pi_mono (pi_seq he) fun σ H R q => by
  obtain ⟨δ, h, A, μ, k, Rr, q, c⟩ := q
  refine ⟨δ, h, A, μ, _, Rr, q, fun w h1 v H1 A1 μ1 q1 x1 R1 r1 => ?_⟩
  have listCase : ∀ {xs : List PyData} {cc : Option Nat} {p : Addr} {vs : List V}, cond cc xs h1 → SqL X.K H1 p vs → Reps X.K A1 H1 xs vs →
      (∀ A' μ' H' h', Ext A1 A' μ1 μ' H1 H' → HeapRep X.K A' μ' h' H' → cond cc xs h' → ∃ ws, SqL X.K H' p ws ∧ Reps X.K A' H' xs ws) → k xs cc h1 → vs.length ≤ sizeLine → R (Itl X.K p) H1 := fun {xs cc p vs} hc sq rr st kk hz => by
    refine c xs cc h1 _ H1 A1 μ1 kk x1 R1 (by rw [← rr.length]; exact hz) hc fun A' μ' H' h' y R' hc' => ?_
    obtain ⟨ws, sq', rr'⟩ := st A' μ' H' h' y R' hc'
    refine ⟨fun i x ex => ?_, fun i hi => ⟨ws, sq', by rw [rr'.length]; exact hi⟩⟩
    obtain ⟨z, ez, rz⟩ := rr'.get ex
    refine ⟨⟨ws, z, sq', ez⟩, fun v H2 hy => ?_⟩
    obtain ⟨e2, hy⟩ := hy
    subst e2
    have := hy ws sq'
    rw [ez] at this
    cases this
    exact ⟨.refl, R', rz⟩
  split at q1
  · rename_i xs
    have z : Rep X.K A1 H1 (.list xs) v := r1
    rw [Rep] at z
    obtain ⟨p, vs, rfl, la, rr⟩ := z
    refine ⟨p, rfl, .inl ⟨vs, la.sq, fun hz => listCase (cc := none) trivial la.sq rr (fun A' μ' H' h' y R' _ => ?_) q1 hz⟩⟩
    have z : Rep X.K A' H' (.list xs) (.ref p) := Rep.ext y R1.sub (by rw [Rep]; exact ⟨p, vs, rfl, la, rr⟩)
    rw [Rep] at z
    obtain ⟨p', ws, e, la', rr'⟩ := z
    cases e
    exact ⟨ws, la'.sq, rr'⟩
  · rename_i xs
    obtain ⟨p, vs, rfl, ta, rr⟩ := ref_tuple (h := h1) r1 rfl
    refine ⟨p, rfl, .inr ⟨vs, ta.sq, fun hz => ?_⟩⟩
    refine c xs none h1 _ H1 A1 μ1 q1 x1 R1 (by rw [← rr.length]; exact hz) trivial fun A' μ' H' h' y R' _ => ?_
    obtain ⟨p', ws, e, ta', rr'⟩ := ref_tuple (h := h1) (r1.ext y R1.sub) rfl
    cases e
    refine ⟨fun i x ex => ?_, fun i hi => ⟨ws, ta'.sq, by rw [rr'.length]; exact hi⟩⟩
    obtain ⟨z, ez, rz⟩ := rr'.get ex
    refine ⟨⟨ws, z, ta'.sq, ez⟩, fun v H2 hy => ?_⟩
    obtain ⟨e2, hy⟩ := hy
    subst e2
    have := hy ws ta'.sq
    rw [ez] at this
    cases this
    exact ⟨.refl, R', rz⟩
  · rename_i i
    split at q1
    · rename_i xs ex
      obtain ⟨p, ep, rfl⟩ := r1
      obtain ⟨vs, hv, rr⟩ := R1.val i p xs ep ex
      refine ⟨p, rfl, .inl ⟨vs, .of hv, fun hz => listCase (cc := some i) ex (.of hv) rr (fun A' μ' H' h' y R' hc' => ?_) q1 hz⟩⟩
      have ep' : μ'[i]? = some p := by
        obtain ⟨ν, e1, _⟩ := y.pre
        rw [e1, List.getElem?_append_left (List.getElem?_eq_some_iff.mp ep).1]
        exact ep
      obtain ⟨ws, hw, rr'⟩ := R'.val i p xs ep' hc'
      exact ⟨ws, .of hw, rr'⟩
    · exact q1.elim
  · exact q1.elim
/-- range -/
def rng (lo : Int) (n : Nat) : List PyData := (List.range n).map fun (i : Nat) => .int (lo + (i : Int))
def dRange1 (t : DTA) : DTI := fun δ h Q => t δ h fun ws h1 => match ws with
  | [.d (.int j)] => (j ≤ 16000000 ∧ -(2 ^ 62) ≤ j) ∧ Q (rng 0 j.toNat) none h1
  | _ => False
def dRange2 (t : DTA) : DTI := fun δ h Q => t δ h fun ws h1 => match ws with
  | [.d (.int i), .d (.int j)] => (j - i ≤ 16000000 ∧ -(2 ^ 62) ≤ i ∧ i < 2 ^ 62 ∧ -(2 ^ 62) ≤ j ∧ j < 2 ^ 62) ∧ Q (rng i (j - i).toNat) none h1
  | _ => False
theorem rng_len (lo : Int) (n : Nat) : (rng lo n).length = n := by unfold rng; simp
theorem itr_ok {K : PySem.W.Frag} {A μ : List Addr} {H : Hp} (lo : Int) (n : Nat) : ItOk K A μ H (Itr lo n) (rng lo n) none := fun A' μ' H' h' y R' _ => by
  refine ⟨fun i x ex => ?_, fun i hi => by rw [rng_len] at hi; exact hi⟩
  have hi : i < n := by rw [← rng_len lo n]; exact (List.getElem?_eq_some_iff.mp ex).1
  refine ⟨hi, fun v H2 hy => ?_⟩
  obtain ⟨e, hv⟩ := hy
  subst e hv
  unfold rng at ex
  rw [List.getElem?_map, List.getElem?_range hi] at ex
  cases ex
  exact ⟨.refl, R', repI⟩
theorem di_range1 {X : Cx} {tg a : Expr} {t : DTA} {p pos : Pos} (hm : X.mg "range" = none) (ha : DA X [a] t) (hg : Gl X "range" := by rfl) (hs : starEach [a] X.env = [(false, eval a X.env)] := by rfl) : DI X tg (.Call (.Name "range" p) [a] [] pos) (dRange1 t) :=
  pi_mono (pi_range1 hg hm ha hs) fun σ H R q => by
    obtain ⟨δ, h, A, μ, k, Rr, q, c⟩ := q
    refine ⟨δ, h, A, μ, _, Rr, q, fun ws h1 vs H1 A1 μ1 q1 x1 R1 r1 => ?_⟩
    split at q1
    · rename_i j
      obtain ⟨v, rfl, rv⟩ := repWs1 r1
      have e := repW_int rv
      subst e
      obtain ⟨⟨z1, z2⟩, q1⟩ := q1
      refine ⟨j, rfl, z2, by omega, c _ _ h1 _ H1 A1 μ1 q1 x1 R1 ?_ trivial (itr_ok 0 j.toNat)⟩
      rw [rng_len]
      show j.toNat ≤ 2 ^ 24
      omega
    · exact q1.elim
theorem di_range2 {X : Cx} {tg a b : Expr} {t : DTA} {p pos : Pos} (hm : X.mg "range" = none) (ha : DA X [a, b] t) (hg : Gl X "range" := by rfl) (hs : starEach [a, b] X.env = [(false, eval a X.env), (false, eval b X.env)] := by rfl) (hs2 : starEach [b] X.env = [(false, eval b X.env)] := by rfl) :
    DI X tg (.Call (.Name "range" p) [a, b] [] pos) (dRange2 t) :=
  pi_mono (pi_range2 hg hm ha hs hs2) fun σ H R q => by
    obtain ⟨δ, h, A, μ, k, Rr, q, c⟩ := q
    refine ⟨δ, h, A, μ, _, Rr, q, fun ws h1 vs H1 A1 μ1 q1 x1 R1 r1 => ?_⟩
    split at q1
    · rename_i i j
      obtain ⟨v, r, rfl, rv, r2⟩ := r1
      obtain ⟨v', rfl, rv'⟩ := repWs1 r2
      have e := repW_int rv
      have e' := repW_int rv'
      subst e e'
      obtain ⟨⟨z1, z2⟩, q1⟩ := q1
      refine ⟨i, j, rfl, z2, c _ _ h1 _ H1 A1 μ1 q1 x1 R1 ?_ trivial (itr_ok i (j - i).toNat)⟩
      rw [rng_len]
      show (j - i).toNat ≤ 2 ^ 24
      omega
    · exact q1.elim

/-! ### for -/
def forL (g : DTG) (tb : DTS) (c : Option Nat) (all : List PyData) : List PyData → DTS
  | [], E, δ, h => cond c all h ∧ E.nx δ h
  | x :: r, E, δ, h => cond c all h ∧ g (.d x) δ h fun δ2 h2 => tb { nx := forL g tb c all r E, ct := forL g tb c all r E, bk := E.nx, rt := E.rt } δ2 h2
def dFor (ti : DTI) (g : DTG) (tb : DTS) : DTS := fun E δ h => ti δ h fun xs c h1 => forL g tb c xs xs E δ h1
/-! ### comprehensions -/
def compL (g : DTG) (tt : DTT) (te : DTE) (c : Option Nat) (all : List PyData) : List PyData → DSt → Cells → List PyData → (List PyData → Cells → Prop) → Prop
  | [], _, h, ac, Q => cond c all h ∧ Q ac h
  | x :: r, δ, h, ac, Q => cond c all h ∧ g (.d x) δ h fun δ2 h2 => tt δ2 h2 fun b h3 =>
    if b = true then te δ2 h3 fun w h4 => (match w with
      | .d y => compL g tt te c all r δ2 h4 (ac ++ [y]) Q
      | .c _ => False
      | .v _ => False)
    else compL g tt te c all r δ2 h3 ac Q
def dpick (ixs : List (Option Nat)) (δ : DSt) : DSt := ixs.map fun o => o.bind fun i => (δ[i]?).bind id
def dComp (ixs : List (Option Nat)) (ti : DTI) (g : DTG) (tt : DTT) (te : DTE) : DTF := fun δ h Q => ti δ h fun xs c h1 => compL g tt te c xs xs (dpick ixs δ) h1 [] Q
def DIf (X : Cx) (ifs : List Expr) (t : DTT) : Prop := PIf X ifs (upT X.K t)
def dYes : DTT := fun _ h Q => Q true h
section
variable {K : PySem.W.Frag} {A A' μ μ' : List Addr} {H H' : Hp} {h h' : Cells}
theorem dpick_rep {δ : DSt} {σ : L2.St} {ixs : List (Option Nat)} (r : EnvRep K A μ H δ σ) : EnvRep K A μ H (dpick ixs δ) (pick ixs σ) := by
  refine ⟨by unfold dpick pick; rw [List.length_map, List.length_map], fun j w e => ?_⟩
  unfold dpick at e
  rw [List.getElem?_map] at e
  cases q : ixs[j]? with
  | none => rw [q] at e; cases e
  | some o =>
    rw [q] at e
    cases o with
    | none => cases e
    | some i =>
      have e' : (δ[i]?).bind id = some w := Option.some.inj e
      cases q2 : δ[i]? with
      | none => rw [q2] at e'; cases e'
      | some z =>
        rw [q2] at e'
        have e3 : z = some w := e'
        subst e3
        obtain ⟨v, e4, r4⟩ := r.val i w q2
        refine ⟨v, ?_, r4⟩
        unfold pick
        rw [List.getElem?_map, q]
        show some ((σ[i]?).bind id) = _
        rw [e4]
        rfl
theorem ext_aside0 {p : Addr} {o : HO} (hp : H p = none) : Ext A (p :: A) μ μ H (upd H p o) :=
  ⟨fun _ z => List.mem_cons_of_mem _ z, fun a z => (List.mem_cons.mp z).elim (fun e => .inr (by rw [e]; exact hp)) .inl, ⟨[], by simp, fun _ z => (nomatch z)⟩,
    fun a o' _ q => by rw [upd_ne (ne_of_none q hp)]; exact q, fun a o' q => ⟨o', by rw [upd_ne (ne_of_none q hp)]; exact q⟩⟩
theorem heap_aside0 {p : Addr} {o : HO} (R : HeapRep K A μ h H) (hp : H p = none) : HeapRep K (p :: A) μ h (upd H p o) := by
  refine ⟨R.len, R.nd, fun a z => List.mem_cons_of_mem _ (R.sub a z), fun a z => ?_, fun i a xs e1 e2 => ?_⟩
  · rcases List.mem_cons.mp z with e | z
    · subst e; exact ⟨_, upd_same⟩
    · obtain ⟨o', q⟩ := R.trk a z
      exact ⟨o', by rw [upd_ne (ne_of_none q hp)]; exact q⟩
  · obtain ⟨vs, q, r⟩ := R.val i a xs e1 e2
    exact ⟨vs, by rw [upd_ne (ne_of_none q hp)]; exact q, r.ext (ext_aside0 (μ := μ) hp) R.sub⟩
theorem acc_keep {p : Addr} {o : HO} (x : Ext A A' μ μ' H H') (h1 : H p = some o) (h2 : p ∈ A) (h3 : p ∉ μ) : H' p = some o ∧ p ∈ A' ∧ p ∉ μ' := by
  refine ⟨x.keep p o h3 h1, x.sub p h2, fun z => ?_⟩
  obtain ⟨ν, e, n⟩ := x.pre
  rw [e] at z
  rcases List.mem_append.mp z with z | z
  · exact h3 z
  · rw [n p z] at h1; cases h1
theorem RepW.upd {p : Addr} {o : HO} (hp : p ∈ A) {w : W} {v : V} (r : RepW K A μ H w v) : RepW K A μ (L2.upd H p o) w v := by
  cases w with
  | d x => exact Rep.upd hp r
  | c i => exact r
  | v u => exact r
theorem EnvRep.upd {p : Addr} {o : HO} (hp : p ∈ A) {δ : DSt} {σ : L2.St} (r : EnvRep K A μ H δ σ) : EnvRep K A μ (L2.upd H p o) δ σ := ⟨r.len, fun i w e => by
  obtain ⟨v, e1, r1⟩ := r.val i w e
  exact ⟨v, e1, r1.upd hp⟩⟩
theorem Ext.aside {p : Addr} {o : HO} (x : Ext A A' μ μ' H H') (hp : H p = none) : Ext A A' μ μ' H (upd H' p o) :=
  ⟨x.sub, x.new, x.pre, fun a o' ha q => by rw [upd_ne (ne_of_none q hp)]; exact x.keep a o' ha q, fun a o' q => by rw [upd_ne (ne_of_none q hp)]; exact x.trk a o' q⟩
theorem Ext.addc {p : Addr} (x : Ext A A' μ μ' H H') (hp : H p = none) : Ext A A' μ (μ' ++ [p]) H H' := by
  obtain ⟨ν, e, n⟩ := x.pre
  exact ⟨x.sub, x.new, ⟨ν ++ [p], by rw [e, List.append_assoc], fun a z => (List.mem_append.mp z).elim (n a) fun z => by rw [List.mem_singleton.mp z]; exact hp⟩, x.keep, x.trk⟩
theorem heap_addc {p : Addr} {xs : List PyData} {vs : List V} (R : HeapRep K A μ h H) (h1 : H p = some (.lst vs)) (h2 : p ∈ A) (h3 : p ∉ μ) (r : Reps K A H xs vs) : HeapRep K A (μ ++ [p]) (h ++ [(.l xs)]) H := by
  refine ⟨by rw [List.length_append, List.length_append, R.len]; rfl, ?_, fun a z => ?_, R.trk, fun i a ys e1 e2 => ?_⟩
  · rw [List.nodup_append]
    refine ⟨R.nd, (by simp), fun a ha b hb => ?_⟩
    rw [List.mem_singleton.mp hb]
    rintro rfl
    exact h3 ha
  · rcases List.mem_append.mp z with z | z
    · exact R.sub a z
    · rw [List.mem_singleton.mp z]; exact h2
  · by_cases hi : i < μ.length
    · rw [List.getElem?_append_left hi] at e1
      rw [List.getElem?_append_left (by rw [← R.len]; exact hi)] at e2
      exact R.val i a ys e1 e2
    · have hle : μ.length ≤ i := Nat.le_of_not_lt hi
      rw [List.getElem?_append_right hle] at e1
      rw [List.getElem?_append_right (by rw [← R.len]; exact hle), ← R.len] at e2
      have hz : i - μ.length = 0 := by
        have := (List.getElem?_eq_some_iff.mp e1).1
        simp at this
        omega
      rw [hz] at e1 e2
      simp at e1 e2
      subst e1 e2
      exact ⟨vs, h1, r⟩
end
section
variable {X : Cx} {tg iter elt : Expr} {ifs : List Expr} {sc S : Scope} {N' : List Str} {ixs : List (Option Nat)} {body : List Stmt} {ti : DTI} {g : DTG} {tb : DTS} {tt : DTT} {te : DTE} {pos : Pos}
theorem dif_nil : DIf X [] dYes := fun pins s σ H Q I q => by
  obtain ⟨δ, h, A, μ, k, R, q, c⟩ := q
  exact pif_nil pins s σ H Q I (c true h H A μ q .refl R.1)
theorem dif_one {c : Expr} (h : DT X c tt) : DIf X [c] tt := pif_one h
theorem ds_for (hxe : X.xe = fun _ _ => False) (hc : X.calm = true) (hi : DI X tg iter ti) (hg : DG X tg g) (hb : DSs X body tb) (hs : ∀ x, foldedSetIterable iter X.env x = pure x := by intro _; rfl) : DS X (.For tg iter body [] pos) (dFor ti g tb) :=
  ps_mono (ps_for (by rw [hxe]; exact PassesOwn.never) hc hi hg hb hs) fun D σ H q => by
    obtain ⟨δ, h, A, μ, E, R, q, L⟩ := q
    refine ⟨δ, h, A, μ, _, R, q, fun xs c h1 J H1 A1 μ1 q1 x1 R1 hz hcd it => ?_⟩
    refine ⟨fun i m σ' H' => ∃ δ' h' A' μ', m = xs.length - i ∧ i ≤ xs.length ∧ Ext A1 A' μ1 μ' H1 H' ∧ Ab X.K A' μ' δ' h' σ' H' ∧ forL g tb c xs (xs.drop i) E δ' h', ⟨_, δ, h1, A1, μ1, rfl, Nat.zero_le _, .refl, ⟨R1, R.2.ext x1 R.1.sub⟩, by simpa using q1⟩, ?_⟩
    rintro i m σ' H' ⟨δ', h', A', μ', rfl, hi, y, R', q'⟩
    by_cases hlt : i < xs.length
    · rw [List.drop_eq_getElem_cons hlt] at q'
      obtain ⟨hcond, q'⟩ := q'
      obtain ⟨it1, _⟩ := it A' μ' H' h' y R'.1 hcond
      obtain ⟨go, yl⟩ := it1 i xs[i] (by simp [hlt])
      refine .inr ⟨go, fun σ2 H2 => ∃ δ2 h2 A2 μ2, Ext A1 A2 μ1 μ2 H1 H2 ∧ Ab X.K A2 μ2 δ2 h2 σ2 H2 ∧ forL g tb c xs (xs.drop (i + 1)) E δ2 h2, fun σ2 H2 ⟨δ2, h2, A2, μ2, z1, z2, z3⟩ => ⟨xs.length - (i + 1), by omega, δ2, h2, A2, μ2, rfl, hlt, z1, z2, z3⟩, fun v H2 hy => ?_⟩
      obtain ⟨y2, R2, r2⟩ := yl v H2 hy
      refine ⟨.d xs[i], δ', h', A', μ', _, ⟨R2, R'.2.ext y2 R'.1.sub⟩, r2, q', fun δ3 h3 σ3 H3 A3 μ3 q3 x3 R3 => ?_⟩
      have y3 := (y.trans y2).trans x3
      refine ⟨δ3, h3, A3, μ3, _, R3, q3, ⟨fun δ4 h4 σ4 H4 A4 μ4 q4 x4 R4 => ⟨δ4, h4, A4, μ4, y3.trans x4, R4, q4⟩, fun δ4 h4 σ4 H4 A4 μ4 q4 x4 R4 => L.nx δ4 h4 σ4 H4 A4 μ4 q4 (x1.trans (y3.trans x4)) R4,
        fun δ4 h4 σ4 H4 A4 μ4 q4 x4 R4 => ⟨δ4, h4, A4, μ4, y3.trans x4, R4, q4⟩, fun w h4 v H4 A4 μ4 q4 x4 R4 r4 => L.rt w h4 v H4 A4 μ4 q4 (x1.trans (y3.trans x4)) R4 r4⟩⟩
    · have e : i = xs.length := by omega
      subst e
      rw [List.drop_length] at q'
      obtain ⟨hcond, q'⟩ := q'
      obtain ⟨_, it2⟩ := it A' μ' H' h' y R'.1 hcond
      exact .inl ⟨it2 _ (Nat.le_refl _), L.nx δ' h' σ' H' A' μ' q' (x1.trans y) R'⟩
theorem up_comp {σ : L2.St} {H : Hp} {Q : VK} (q : upF X.K (dComp ixs ti g tt te) σ H Q) : tComp ixs (upI X.K ti) (upG X.K g) (upT X.K tt) (up X.K te) σ H Q := by
  obtain ⟨δ, h, A, μ, k, R, q, c⟩ := q
  refine ⟨δ, h, A, μ, _, R, q, fun xs cc h1 J H2 A1 μ1 q1 x1 R1 hz hcd it => ?_⟩
  intro acc hacc
  have nA := R1.notA hacc
  have E1 := dpick_rep (ixs := ixs) (R.2.ext x1 R.1.sub)
  refine ⟨fun i m ys σ' H' => ∃ δ' h' A' μ' ac, m = xs.length - i ∧ i ≤ xs.length ∧ H' acc = some (.lst ys) ∧ acc ∈ A' ∧ acc ∉ μ' ∧ Ext A1 A' μ1 μ' H2 H' ∧ Ab X.K A' μ' δ' h' σ' H' ∧ Reps X.K A' H' ac ys ∧ ys.length ≤ i ∧ compL g tt te cc xs (xs.drop i) δ' h' ac k,
    ⟨_, dpick ixs δ, h1, acc :: A1, μ1, [], rfl, Nat.zero_le _, upd_same, List.mem_cons_self, fun z => nA (R1.sub _ z), ext_aside0 hacc, ⟨heap_aside0 R1 hacc, E1.ext (ext_aside0 hacc) R1.sub⟩, .nil, Nat.le_refl _, by simpa using q1⟩, ?_⟩
  rintro i m ys σ' H' ⟨δ', h', A', μ', ac, rfl, hi, a1, a2, a3, y, R', rr, hyl, q'⟩
  by_cases hlt : i < xs.length
  · rw [List.drop_eq_getElem_cons hlt] at q'
    obtain ⟨hcond, q'⟩ := q'
    obtain ⟨it1, _⟩ := it A' μ' H' h' y R'.1 hcond
    obtain ⟨go, yl⟩ := it1 i xs[i] (by simp [hlt])
    refine .inr ⟨go, fun v H3 hy => ?_⟩
    obtain ⟨y2, R2, r2⟩ := yl v H3 hy
    refine ⟨.d xs[i], δ', h', A', μ', _, ⟨R2, R'.2.ext y2 R'.1.sub⟩, r2, q', fun δ4 h4 σ4 H4 A4 μ4 q4 x4 R4 => ?_⟩
    refine ⟨δ4, h4, A4, μ4, _, R4, q4, fun b h5 H5 A5 μ5 q5 x5 R5 => ?_⟩
    have z5 := (y2.trans x4).trans x5
    obtain ⟨b1, b2, b3⟩ := acc_keep z5 a1 a2 a3
    dsimp only at q5 ⊢
    cases b with
    | false =>
      rw [if_neg Bool.false_ne_true] at q5
      rw [if_neg Bool.false_ne_true]
      exact ⟨xs.length - (i + 1), by omega, δ4, h5, A5, μ5, ac, rfl, hlt, b1, b2, b3, y.trans z5, ⟨R5, R4.2.ext x5 R4.1.sub⟩, rr.ext z5 R'.1.sub, by omega, q5⟩
    | true =>
      rw [if_pos rfl] at q5
      rw [if_pos rfl]
      refine ⟨δ4, h5, A5, μ5, _, ⟨R5, R4.2.ext x5 R4.1.sub⟩, q5, fun w h6 v6 H6 A6 μ6 q6 x6 R6 r6 => ?_⟩
      have z6 := z5.trans x6
      obtain ⟨c1, c2, c3⟩ := acc_keep z6 a1 a2 a3
      cases w with
      | c j => exact q6.elim
      | v u => exact q6.elim
      | d d6 =>
        have hl6 : ys.length < sizeLine := by omega
        refine ⟨c1, hl6, xs.length - (i + 1), by omega, δ4, h6, A6, μ6, ac ++ [d6], rfl, hlt, upd_same, c2, c3, (y.trans z6).aside hacc, ⟨heap_aside R6 c2 c3, ((R4.2.ext x5 R4.1.sub).ext x6 R5.sub).upd c2⟩, ?_, ?_, q6⟩
        · exact ((Reps.one r6).append (rr.ext z6 R'.1.sub)).upd c2
        · rw [List.length_append, List.length_singleton]
          omega
  · have e : i = xs.length := by omega
    subst e
    rw [List.drop_length] at q'
    obtain ⟨hcond, q'⟩ := q'
    obtain ⟨_, it2⟩ := it A' μ' H' h' y R'.1 hcond
    have x2 := x1.trans y
    obtain ⟨ν, e1, _⟩ := x2.pre
    exact .inl ⟨it2 _ (Nat.le_refl _), a1, c _ h' acc H' A' μ' q' (x2.addc (x1.back hacc)) ⟨ν, e1⟩ (x1.back hacc) (heap_addc R'.1 a1 a2 a3 rr)⟩
theorem df_comp {N : List Str} (hxe : X.xe = fun _ _ => False) (hc : X.calm = true) (hS : X.env.scope = S) (hXN : X.N = N) (SC : CompSc N N' ixs S sc) (hi : DI X tg iter ti)
    (hg : ∀ cl C s H fp, DG (blk X N' sc cl C s H fp) tg g) (ht : ∀ cl C s H fp, DIf (blk X N' sc cl C s H fp) ifs tt) (he : ∀ cl C s H fp, DE (blk X N' sc cl C s H fp) elt te)
    (hs : ∀ x, foldedSetIterable iter X.env x = pure x := by intro _; rfl) : DF X (.ListComp elt [⟨tg, iter, ifs, 0⟩] sc pos) (dComp ixs ti g tt te) :=
  pe_mono (pe_comp (N' := N') (ixs := ixs) (g := upG X.K g) (tt := upT X.K tt) (te := up X.K te) hxe hc hS (by rw [hXN]; exact SC) hi hg ht he hs) fun _ _ _ q => up_comp q
theorem dfs_comp {y : Str} {i : Nat} {py spos : Pos} {N : List Str} (hN : X.N.Nodup) (hxe : X.xe = fun _ _ => False) (hc : X.calm = true) (hS : X.env.scope = S) (hXN : X.N = N) (SC : CompSc N N' ixs S sc) (hi : DI X tg iter ti)
    (hg : ∀ cl C s H fp, DG (blk X N' sc cl C s H fp) tg g) (ht : ∀ cl C s H fp, DIf (blk X N' sc cl C s H fp) ifs tt) (he : ∀ cl C s H fp, DE (blk X N' sc cl C s H fp) elt te)
    (hiN : X.N[i]? = some y := by rfl) (hy : X.env.scope.names.lookup y = some .local := by rfl) (hsw : swapsWith (.ListComp elt [⟨tg, iter, ifs, 0⟩] sc pos) (some (.Name y py)) spos.line X.env = pure true := by rfl)
    (hs : ∀ x, foldedSetIterable iter X.env x = pure x := by intro _; rfl) : DFS X i (.Assign [.Name y py] (.ListComp elt [⟨tg, iter, ifs, 0⟩] sc pos) spos) (dComp ixs ti g tt te) :=
  ps_mono (ps_setComp (N' := N') (ixs := ixs) (g := upG X.K g) (tt := upT X.K tt) (te := up X.K te) hxe hc hS (by rw [hXN]; exact SC) hi hg ht he hN hiN hy hsw hs) fun _ _ _ q => up_comp q
end

/-! ### a def by its body -/
def dstart (N : List Str) (ws : List W) : DSt := ws.map some ++ List.replicate (N.length - ws.length) none
def dends (n : Nat) (k : PyData → Cells → Prop) : DEnds where
  nx := fun _ h => k .none (h.take n)
  rt := fun w h => match w with
    | .d x => k x (h.take n)
    | .c i => (match h[i]? with
      | some (.l xs) => n ≤ i ∧ k (.list xs) (h.take n)
      | none => False)
    | .v _ => False
theorem repWs_len {K : PySem.W.Frag} {A μ : List Addr} {H : Hp} : ∀ {ws : List W} {vs : List V}, RepWs K A μ H ws vs → vs.length = ws.length
  | [], _, h => by have e : _ = [] := h; subst e; rfl
  | w :: ws, _, h => by
    obtain ⟨v, r, rfl, _, h⟩ := h
    rw [List.length_cons, List.length_cons, repWs_len h]
theorem repWs_get {K : PySem.W.Frag} {A μ : List Addr} {H : Hp} : ∀ {ws : List W} {vs : List V} {i : Nat} {w : W}, RepWs K A μ H ws vs → ws[i]? = some w → ∃ v, vs[i]? = some v ∧ RepW K A μ H w v
  | [], _, _, _, _, e => by simp at e
  | y :: ws, _, 0, w, h, e => by
    obtain ⟨v, r, rfl, hv, _⟩ := h
    simp at e; subst e
    exact ⟨v, rfl, hv⟩
  | y :: ws, _, i + 1, w, h, e => by
    obtain ⟨v, r, rfl, _, h⟩ := h
    obtain ⟨u, e1, e2⟩ := repWs_get (i := i) h (by simpa using e)
    exact ⟨u, by simpa using e1, e2⟩
theorem start_rep {K : PySem.W.Frag} {A μ : List Addr} {H : Hp} {N : List Str} {ws : List W} {vs : List V} (r : RepWs K A μ H ws vs) : EnvRep K A μ H (dstart N ws) (L2.start N vs) := by
  have hl := repWs_len r
  refine ⟨by unfold dstart L2.start; simp [hl], fun i w e => ?_⟩
  unfold dstart at e
  by_cases hi : i < ws.length
  · rw [List.getElem?_append_left (by simpa using hi), List.getElem?_map] at e
    cases q : ws[i]? with
    | none => rw [q] at e; cases e
    | some w' =>
      rw [q] at e
      cases e
      obtain ⟨v, e1, r1⟩ := repWs_get r q
      refine ⟨v, ?_, r1⟩
      unfold L2.start
      rw [List.getElem?_append_left (by simp; omega), List.getElem?_map, e1]
      rfl
  · rw [List.getElem?_append_right (by simpa using hi), List.getElem?_replicate] at e
    split at e <;> cases e
theorem leave_ext {K : PySem.W.Frag} {A A1 μ μ1 : List Addr} {h h1 : Cells} {H H1 : Hp} (R : HeapRep K A μ h H) (R1 : HeapRep K A1 μ1 h1 H1) (x : Ext A A1 μ μ1 H H1) : Ext A A μ μ H H1 ∧ HeapRep K A μ (h1.take h.length) H1 := by
  obtain ⟨ν, e, n⟩ := x.pre
  have hle : μ.length ≤ h1.length := by
    rw [← R1.len, e, List.length_append]
    omega
  refine ⟨⟨fun _ z => z, fun _ z => .inl z, ⟨[], by simp, fun _ z => (nomatch z)⟩, x.keep, x.trk⟩, ⟨by rw [List.length_take, ← R.len]; omega, R.nd, R.sub, fun a z => ?_, fun i a xs e1 e2 => ?_⟩⟩
  · obtain ⟨o, q⟩ := R.trk a z
    exact x.trk a o q
  · have hi : i < μ.length := (List.getElem?_eq_some_iff.mp e1).1
    obtain ⟨vs, q, r⟩ := R1.val i a xs (by rw [e, List.getElem?_append_left hi]; exact e1) (by rw [← R.len] at e2; rw [List.getElem?_take_of_lt hi] at e2; exact e2)
    exact ⟨vs, q, r.anti x.sub⟩
section
variable {P : Program} {w : World} {K : PySem.W.Frag} {mg : Str → Option Value} {base : Heap}
theorem dfn {x qual : Str} {st : Stmt} {f : Addr} {fd : FuncData} {N ps : List Str} {k : Nat} {d : DSp} (F : Fun K x qual st f fd) (S : FnScope N ps (defScope st)) (len : ∀ ws h k, d ws h k → ws.length = ps.length)
    (hbody : ∀ (cdv : Value) (A : Around) (outer : List Env) (s : Shared) (H : Hp) (E : XK), Room k (A.deeper (envOfC qual (defScope st) s.heap.objs.size f cdv)) →
      ∃ t, DSs (cxOf CX0 P w K mg base N qual (defScope st) f cdv A outer s H E).nox (defBody st) t ∧ ∀ ws h kk, d ws h kk → t (dends h.length kk) (dstart N ws) h) : FnOk P w K mg base CX0 (k + 1) f fd ps (upSp K d) := by
  refine F.ok S (fun vs H Q E ⟨ws, h, A, μ, kk, R, r, q, c⟩ => by rw [repWs_len r]; exact len _ _ _ q) fun cdv A outer s H vs Q E hr hsp => ?_
  obtain ⟨ws, h, B, μ, kk, R, r, q, c⟩ := hsp
  obtain ⟨t, ht, hq⟩ := hbody cdv A outer s H E hr
  refine ⟨_, ht, dstart N ws, h, B, μ, dends h.length kk, ⟨R, start_rep r⟩, hq ws h kk q, ⟨fun δ' h' σ' H' A' μ' q' x' R' => ?_, fun δ' h' σ' H' A' μ' q' x' R' => q'.elim, fun δ' h' σ' H' A' μ' q' x' R' => q'.elim, fun z h' v H' A' μ' q' x' R' r' => ?_⟩⟩
  · obtain ⟨y, R2⟩ := leave_ext R R'.1 x'
    exact c _ _ _ _ B q' y R2 (by rw [Rep])
  · obtain ⟨y, R2⟩ := leave_ext R R' x'
    cases z with
    | d z => exact c _ _ _ _ B q' y R2 (Rep.anti x'.sub r')
    | v u => exact q'.elim
    | c i =>
      obtain ⟨a, ea, rfl⟩ := r'
      have q2 : (match h'[i]? with | some (.l xs) => h.length ≤ i ∧ kk (.list xs) (h'.take h.length) | none => False) := q'
      cases e : h'[i]? with
      | none => rw [e] at q2; exact q2.elim
      | some cc =>
        cases cc with
        | l xs =>
          rw [e] at q2
          obtain ⟨hi, q3⟩ := q2
          obtain ⟨vs, hv, rr⟩ := R'.val i a xs ea e
          refine c _ _ _ _ B q3 y R2 ?_
          rw [Rep]
          refine ⟨a, vs, rfl, .inl ⟨fun z => ?_, .inl hv⟩, rr.anti x'.sub⟩
          obtain ⟨ν, e1, n⟩ := x'.pre
          rw [e1, List.getElem?_append_right (by rw [R.len]; exact hi)] at ea
          have := n a (List.mem_of_getElem? ea)
          obtain ⟨o, q⟩ := R.trk a z
          rw [this] at q; cases q
/-- .. as its callers take it -/
theorem dfn_mk {x qual : Str} {st : Stmt} {f : Addr} {fd : FuncData} {ps : List Str} {k : Nat} {d : DSp} (h : FnOk P w K mg base CX0 k f fd ps (upSp K d)) (hm : mg x = some (.ref f)) (F : Fun K x qual st f fd) (b : Binds K fd ps []) : DFn P w K mg base k x d := ⟨f, fd, ps, h, hm, F.kp, b⟩
end
end DL

set_option Elab.async false
set_option linter.all false
set_option autoImplicit false
set_option maxRecDepth 100000
set_option maxHeartbeats 4000000
namespace DL
open PySem PySem.Spec PyProof.Rows L2

section
variable {X : Cx} {a b e : Expr} {es : List Expr} {ta tb te : DTE} {t : DTA} {pos p p2 : Pos} {x : Str}
/-! list + list -/
theorem op_catL : OpR X (binaryOp .Add) (fun x y H Q => ∃ a b xs ys, x = .ref a ∧ y = .ref b ∧ SqL X.K H a xs ∧ SqL X.K H b ys ∧ xs.length + ys.length ≤ sizeLine ∧ ∀ p, H p = none → Q (.ref p) (upd H p (.lst (xs ++ ys)))) := by
  intro pins s σ H x y v u Q I rx ry h
  obtain ⟨a, b, xs, ys, rfl, rfl, ha, hb, hz, q⟩ := h
  cases rx
  cases ry
  obtain ⟨its, r1, p1, _⟩ := I.list ha
  obtain ⟨its2, r2, p2, _⟩ := I.list hb
  obtain ⟨⟨cls, dd, data, sl⟩, n, ho, hc, _, hd⟩ := id p1
  obtain ⟨⟨cls2, dd2, data2, sl2⟩, n2, ho2, hc2, _, hd2⟩ := id p2
  simp only at hc hd hc2 hd2
  subst hc hd hc2 hd2
  have l1 := r1.length
  have l2 := r2.length
  have ea : its.toArray ++ its2.toArray = (its ++ its2).toArray := by simp
  refine concat_meets ⟨_, ho, rfl⟩ ⟨_, ho2, rfl⟩ noFill_list_add seq_list_add PySem.F.slot_list_add PySem.F.entry_list_add (PySem.F.args_list_add_2 _ _) (list_addW a b its.toArray its2.toArray n n2 dd dd2 sl sl2 (by rw [List.size_toArray, List.size_toArray]; omega)) ⟨ho, ho2, ?_⟩
  rw [ea]
  exact ⟨.ref _, _, I.lnew (t' := s.toks) (r1.append r2) (by rw [List.length_append]; exact hz), rfl, q _ I.fresh⟩
theorem df_cat (ha : DE X a ta) (hb : DE X b tb) : DF X (.BinOp a .Add b pos) (dCatF ta tb) := pe_mono (pe_op op_catL ha hb) fun σ H Q q => by
  obtain ⟨δ, h, A, μ, k, R, q, c⟩ := q
  refine ⟨δ, h, A, μ, _, R, q, fun u h1 v H1 A1 μ1 q1 x1 R1 r1 => ?_⟩
  refine ⟨δ, h1, A1, μ1, _, ⟨R1, R.2.ext x1 R.1.sub⟩, q1, fun w h2 v2 H2 A2 μ2 q2 x2 R2 r2 => ?_⟩
  split at q2
  · rename_i xs ys
    obtain ⟨p, vs, rfl, s1, rr1⟩ := ref_list R2 (r1.ext x2 R1.sub) rfl
    obtain ⟨p', vs', rfl, s2, rr2⟩ := ref_list R2 r2 rfl
    refine ⟨p, p', vs, vs', rfl, rfl, s1, s2, by rw [rr1.length, rr2.length]; exact q2.1, fun l hl => ?_⟩
    have x12 := x1.trans x2
    obtain ⟨ν, e1, _⟩ := x12.pre
    exact c _ _ _ _ _ _ q2.2 (x12.trans (ext_cell hl)) ⟨ν, e1⟩ (x12.back hl) (heap_cell R2 hl (rr2.append rr1))
  · exact q2.elim
/-! all([..]) of bools -/
def bools : List PyData → Option (List Bool)
  | [] => some []
  | .bool b :: r => (bools r).map (b :: ·)
  | _ :: _ => none
theorem bools_reps {K : PySem.W.Frag} {A : List Addr} {H : Hp} : ∀ {xs : List PyData} {bs : List Bool} {vs : List V}, bools xs = some bs → Reps K A H xs vs → vs = bs.map V.bl
  | [], _, _, e, h => by rw [Reps] at h; cases e; exact h
  | x :: r, bs, vs, e, h => by
    rw [Reps] at h
    obtain ⟨v, rr, rfl, hv, h⟩ := h
    cases x with
    | bool b =>
      unfold bools at e
      cases q : bools r with
      | none => rw [q] at e; cases e
      | some cs =>
        rw [q] at e
        have e' : b :: cs = bs := Option.some.inj e
        subst e'
        rw [Rep] at hv
        rw [hv, bools_reps q h]
        rfl
    | _ => cases e
theorem range_all {f : Nat → Bool} (bs : List Bool) (h : ∀ i b, bs[i]? = some b → f i = b) : (List.range bs.length).all f = bs.all id := by
  rw [Bool.eq_iff_iff, List.all_eq_true, List.all_eq_true]
  constructor
  · intro z b hb
    obtain ⟨i, hi, e⟩ := List.mem_iff_getElem.mp hb
    have := z i (by simpa using hi)
    rw [h i b (by simp [hi, e])] at this
    exact this
  · intro z i hi
    have hi' : i < bs.length := by simpa using hi
    rw [h i bs[i] (by simp [hi'])]
    exact z _ (List.getElem_mem hi')
theorem call_allB (hc : X.calm = true) : CallR X (.builtin "all") (fun xs H Q => ∃ (p : Addr) (bs : List Bool), xs = [.ref p] ∧ SqL X.K H p (bs.map V.bl) ∧ Q (.bl (bs.all id)) H) := by
  intro pins s σ H xs us Q I r h
  obtain ⟨p, bs, rfl, sq, q⟩ := h
  obtain ⟨u, rfl, ru⟩ := vals1 r
  cases ru
  obtain ⟨its, rv, pl, hz⟩ := I.list sq
  have hl := rv.length
  rw [List.length_map] at hl
  have hlt : p < s.heap.objs.size := by obtain ⟨o, n, e, _⟩ := pl; exact Heap.lt_size e
  refine call_all_walk (wpAny_pyIter_list pl.isList ?_)
  refine ⟨s.heap.objs.size, _, _, its.toArray.size, _, _, fun i => (bs[i]?).getD true, rfl, Walks.list (A := X.A.in1) (I.ok.hd hc) s.heap.objs.size p (Nat.ne_of_lt hlt) its.toArray, ⟨⟨_, Heap.get?_push_size _ rfl, rfl, rfl⟩, ?_⟩, fun i v s' Q' E' hP hQ => ?_, fun h' tk hk => ?_⟩
  · obtain ⟨o, ho, r⟩ := pl.isList
    exact ⟨o, Heap.get?_push_of_some _ ho, r⟩
  · have hi : i < its.length := by
      have := (Array.getElem?_eq_some_iff.mp hP).1
      simpa using this
    have eb : bs[i]? = some (bs[i]'(by omega)) := by simp
    obtain ⟨u', e1, e2⟩ := rv.get (i := i) (x := V.bl (bs[i]'(by omega))) (by rw [List.getElem?_map, eb]; rfl)
    have e3 : v = u' := by
      have hP' : its[i]? = some v := by simpa using hP
      rw [hP'] at e1
      exact Option.some.inj e1
    subst e3
    cases e2
    dsimp only at hQ
    rw [eb] at hQ
    exact wpAny_truthy_bool hQ
  · have e : (List.range its.toArray.size).all (fun i => (bs[i]?).getD true) = bs.all id := by
      have := range_all (f := fun i => (bs[i]?).getD true) bs (fun i b e => by simp [e])
      rw [List.size_toArray, ← hl]
      exact this
    refine ⟨.bl (bs.all id), H, I.kept fun b o eo => hk b o ?_ (Heap.get?_push_of_some _ eo), by rw [e]; rfl, q⟩
    intro z
    rw [List.mem_singleton.mp z] at eo
    exact absurd (Heap.lt_size eo) (Nat.lt_irrefl _)
def dAll : DC
  | [w], h, Q => match ref h w with
    | some (.list xs) => (match bools xs with
      | some bs => Q (.d (.bool (bs.all id))) h
      | none => False)
    | _ => False
  | _, _, _ => False
theorem call_dAll (hc : X.calm = true) : CallR X (.builtin "all") (upC X.K dAll) := by
  intro pins s σ H xs us Q I r h
  obtain ⟨ws, h, A, μ, k, R, rw', q, c⟩ := h
  unfold dAll at q
  split at q
  · rename_i w h0 k0
    obtain ⟨v, rfl, rv⟩ := repWs1 rw'
    split at q
    · rename_i ys ey
      split at q
      · rename_i bs eb
        obtain ⟨p, vs, rfl, sq, rr⟩ := ref_list R rv ey
        have ev := bools_reps eb rr
        subst ev
        exact call_allB hc pins s σ H _ us Q I r ⟨p, bs, rfl, sq, c _ _ _ _ _ _ q .refl R repW_bl⟩
      · exact q.elim
    · exact q.elim
  · exact q.elim
/-! isinstance(x, T) -/
def tyOf : PyData → String
  | .none => "NoneType"
  | .bool _ => "bool"
  | .int _ => "int"
  | .str _ => "str"
  | .list _ => "list"
  | .tuple _ => "tuple"
  | .dict _ => "dict"
def isi (d : PyData) (T : String) : Bool := tyOf d == T || (tyOf d == "bool" && T == "int")
def kitOk (T : String) : Prop := ∀ (K : PySem.W.Frag) (d : PyData), PySem.W.kitOne K (.type (tyOf d)) (.type T) = some (isi d T)
theorem kit_int : kitOk "int" := fun K d => by cases d <;> kernel_rfl
theorem kit_bool : kitOk "bool" := fun K d => by cases d <;> kernel_rfl
theorem kit_str : kitOk "str" := fun K d => by cases d <;> kernel_rfl
theorem kit_tuple : kitOk "tuple" := fun K d => by cases d <;> kernel_rfl
theorem kit_list : kitOk "list" := fun K d => by cases d <;> kernel_rfl
def dIsi (T : String) (te : DTE) : DTE := fun δ h Q => te δ h fun w h1 => match ref h1 w with
  | some d => Q (.d (.bool (isi d T))) h1
  | none => False
theorem isi_call {pins : List (Addr × Obj)} {σ : L2.St} {H : Hp} {s : Shared} {A μ : List Addr} {h : Cells} {w : W} {d : PyData} {v : V} {u : Value} {T : String} {Q : Value → Shared → Prop} {Ar : Around} {E : Value → Shared → Prop}
    (I : Inv X pins σ H s) (R : HeapRep X.K A μ h H) (r : RepW X.K A μ H w v) (e : ref h w = some d) (rv : RelV v u) (hk : kitOk T) (q : ∀ tk, Q (.bool (isi d T)) { s with toks := tk }) :
    wpAny (model X.prog X.w) Ar (call (.builtin "isinstance") [u, .type T]) Q E s := by
  have ek := hk X.K d
  cases d with
  | none =>
    have z := ref_see R r e
    rw [See] at z; subst z; cases rv
    exact PySem.W.kia_one PySem.W.kitx_none I.kIn True.intro ek (fun z => nomatch z) q
  | bool b =>
    have z := ref_see R r e
    rw [See] at z; subst z; cases rv
    exact PySem.W.kia_one PySem.W.kitx_bool I.kIn True.intro ek (fun z => nomatch z) q
  | int b =>
    have z := ref_see R r e
    rw [See] at z; subst z; obtain ⟨t, rfl⟩ := rv
    exact PySem.W.kia_one PySem.W.kitx_int I.kIn True.intro ek (fun z => nomatch z) q
  | str b =>
    have z := ref_see R r e
    rw [See] at z; subst z; obtain ⟨t, rfl⟩ := rv
    exact PySem.W.kia_one PySem.W.kitx_str I.kIn True.intro ek (fun z => nomatch z) q
  | list xs =>
    obtain ⟨p, vs, rfl, sq, _⟩ := ref_list R r e
    cases rv
    obtain ⟨its, _, ⟨o, n, ho, hc, _⟩, _⟩ := I.list sq
    exact PySem.W.kia_one PySem.W.kitx_list I.kIn ⟨o, ho, hc⟩ ek (fun z => nomatch z) q
  | tuple xs =>
    obtain ⟨p, vs, rfl, sq, _⟩ := ref_tuple r e
    cases rv
    obtain ⟨its, _, ⟨o, ho, hc, _⟩, _⟩ := I.tuple sq.sq
    exact PySem.W.kia_one PySem.W.kitx_tuple I.kIn ⟨o, ho, hc⟩ ek (fun z => nomatch z) q
  | dict kvs =>
    cases w with
    | v u => cases e
    | c i =>
      dsimp only [DL.ref] at e
      cases q : h[i]? with
      | none => rw [q] at e; cases e
      | some cc => cases cc with | l ys => rw [q] at e; cases e
    | d y =>
      cases e
      have z : Rep X.K A H (.dict kvs) v := r
      rw [Rep] at z
      obtain ⟨p, kv', rfl, _, hp⟩ := z
      cases rv
      obtain ⟨_, _, vs, _, o, es, ep, h1, h2, _⟩ := I.hok p _ hp
      exact PySem.W.kia_one PySem.W.kitx_dict I.kIn ⟨o, h1, h2.1⟩ ek (fun z => nomatch z) q
theorem de_isi {T : Str} {Ts : String} (hk : kitOk Ts) (hm : X.mg "isinstance" = none) (hT : X.mg T = none) (he : DE X e te) (hv : bootBuiltins T = some (.type Ts) := by rfl) (hg : Gl X "isinstance" := by rfl) (hgT : Gl X T := by rfl) (hTn : T ≠ "__name__" := by decide) (hTd : (T == ("__debug__" : Str)) = false := by decide)
    (hs : starEach (e :: [.Name T p2]) X.env = (false, eval e X.env) :: starEach [.Name T p2] X.env := by rfl) (hs2 : starEach ([.Name T p2] : List Expr) X.env = (false, eval (.Name T p2) X.env) :: starEach [] X.env := by rfl)
    (hpl : (backTo pos (starEach ([.Name T p2] : List Expr) X.env)).any (·.1) = false := by rfl) : DE X (.Call (.Name "isinstance" p) [e, .Name T p2] [] pos) (dIsi Ts te) := by
  have hT' : PE X (.Name T p2) (tC (.ty Ts)) := pe_bltn hgT hT hv rfl hTn hTd
  have ha : PA X [e, .Name T p2] (tCons (up X.K te) (tCons (tC (.ty Ts)) tNil)) := pa_cons he (pa_cons hT' pa_nil hs2) hs
  have hc : CallR X (.builtin "isinstance") (fun xs H Q => ∃ x h A μ w d, xs = [x, .ty Ts] ∧ HeapRep X.K A μ h H ∧ RepW X.K A μ H w x ∧ ref h w = some d ∧ Q (.bl (isi d Ts)) H) := by
    intro pins s σ H xs us Q I r h
    obtain ⟨x, h, A, μ, w, d, rfl, R, rx, e, q⟩ := h
    cases r with
    | cons r1 r2 =>
      cases r2 with
      | cons r3 r4 =>
        cases r4
        cases r3
        exact isi_call I R rx e r1 hk fun tk => ⟨.bl _, H, I.tok tk, rfl, q⟩
  refine pe_mono (pe_callB hc hg hm (by rfl) ha (by decide) (by decide) hs hpl) fun σ H Q q => ?_
  obtain ⟨δ, h, A, μ, k, R, q, c⟩ := q
  refine ⟨δ, h, A, μ, _, R, q, fun w h1 v H1 A1 μ1 q1 x1 R1 r1 => ?_⟩
  split at q1
  · rename_i d ed
    exact ⟨v, h1, A1, μ1, w, d, rfl, R1, r1, ed, c _ h1 _ H1 A1 μ1 q1 x1 R1 repW_bl⟩
  · exact q1.elim
end
theorem csc {N N' : List Str} {ixs : List (Option Nat)} {S sc : Scope} (h1 : sc.kind = .function := by rfl) (h2 : ∀ y ∈ sc.names, y.2 ≠ .cell := by decide +kernel) (h3 : ∀ y ∈ sc.names, y.2 = .local → sc.names.lookup y.1 = some .local := by decide +kernel)
    (h4 : ∀ y ∈ sc.names, y.2 = .free → S.names.lookup y.1 = some .cell ∨ S.names.lookup y.1 = some .free := by decide +kernel) (h5 : N'.Nodup := by decide +kernel) (h6 : ixs.length = N'.length := by rfl)
    (h7 : ((ixs.zip N').all fun p => match p.1 with
      | none => true
      | some i => decide (N[i]? = some p.2) && decide (sc.names.lookup p.2 = some NameKind.free)) = true := by decide +kernel) : CompSc N N' ixs S sc := ⟨h1, h2, h3, h4, h5, h6, h7⟩
end DL

set_option linter.all false
set_option maxHeartbeats 4000000
/-! storejudge's plain data (own work) -/
namespace SJ
open PySem
abbrev tup (xs : List PyData) : PyData := .tuple xs
inductive One where
  | read (k : Nat) | write (k : Nat) (v : Int) | add (k : Nat) (n : Int) | swap (k : Nat) (o n : Int)
inductive Call where
  | one (c : One) | span (lo hi : Nat) | deal (cs : List One)
inductive Stp where
  | call (c : Call) | look (c : Call) | lay (ps : List (Nat × Int))
def One.dat : One → PyData
  | .read k => .tuple [.str "read", .int k]
  | .write k v => .tuple [.str "write", .int k, .int v]
  | .add k n => .tuple [.str "add", .int k, .int n]
  | .swap k o n => .tuple [.str "swap", .int k, .int o, .int n]
def One.key : One → Nat
  | .read k => k | .write k _ => k | .add k _ => k | .swap k _ _ => k
def Call.dat : Call → PyData
  | .one c => c.dat
  | .span lo hi => .tuple [.str "span", .int lo, .int hi]
  | .deal cs => .tuple [.str "deal", .tuple (cs.map One.dat)]
def Stp.dat : Stp → PyData
  | .call c => c.dat
  | .look c => .tuple [.str "look", c.dat]
  | .lay ps => .tuple [.str "lay", .tuple (ps.map fun p => .tuple [.int p.1, .int p.2])]
def One.ok (c : One) : Prop := c.key < 8
def Call.ok : Call → Prop
  | .one c => c.ok
  | .span lo hi => lo < hi ∧ hi ≤ 8
  | .deal cs => cs.length ≤ 4 ∧ 1 ≤ cs.length ∧ ∀ c ∈ cs, c.ok
def Stp.ok : Stp → Prop
  | .call c => c.ok
  | .look c => c.ok
  | .lay ps => ps.length ≤ 8 ∧ ∀ p ∈ ps, p.1 < 8
def nums (st : List Int) : List PyData := st.map .int
abbrev stD (st : List Int) : PyData := .tuple (nums st)
def got (v : Int) : PyData := .tuple [.str "got", .int v]
def dn : PyData := .tuple [.str "done"]
def yes : PyData := .tuple [.str "yes"]
def no : PyData := .tuple [.str "no"]
/-- what a plain store does -/
def oneDo (st : List Int) : One → PyData × List Int
  | .read k => (got (st.getD k 0), st)
  | .write k v => (dn, st.set k v)
  | .add k n => (got (st.getD k 0 + n), st.set k (st.getD k 0 + n))
  | .swap k o n => if st.getD k 0 = o then (yes, st.set k n) else (no, st)
def dealDo : List Int → List One → List PyData × List Int
  | st, [] => ([], st)
  | st, c :: r => ((oneDo st c).1 :: (dealDo (oneDo st c).2 r).1, (dealDo (oneDo st c).2 r).2)
def callDo (st : List Int) : Call → PyData × List Int
  | .one c => oneDo st c
  | .span lo hi => (.tuple [.str "all", .tuple (nums ((st.drop lo).take (hi - lo)))], st)
  | .deal cs => (.tuple [.str "each", .tuple (dealDo st cs).1], (dealDo st cs).2)
def layDo (st : List Int) (ps : List (Nat × Int)) : List Int := ps.foldl (fun s p => s.set p.1 p.2) st
def stpDo (st : List Int) : Stp → PyData × List Int
  | .call c => callDo st c
  | .look c => ((callDo st c).1, st)
  | .lay ps => (dn, layDo st ps)
theorem oneDo_len (st : List Int) (c : One) : (oneDo st c).2.length = st.length := by
  cases c <;> simp [oneDo] <;> split <;> simp
theorem dealDo_len : ∀ (cs : List One) (st : List Int), (dealDo st cs).2.length = st.length
  | [], _ => rfl
  | c :: r, st => by rw [dealDo, dealDo_len r, oneDo_len]
theorem callDo_len (st : List Int) (c : Call) : (callDo st c).2.length = st.length := by
  cases c with
  | one c => exact oneDo_len st c
  | span => rfl
  | deal cs => exact dealDo_len cs st
theorem layDo_len : ∀ (ps : List (Nat × Int)) (st : List Int), (layDo st ps).length = st.length
  | [], _ => rfl
  | p :: r, st => by
    show (layDo (st.set p.1 p.2) r).length = _
    rw [layDo_len r, List.length_set]
theorem stpDo_len (st : List Int) (s : Stp) : (stpDo st s).2.length = st.length := by
  cases s with
  | call c => exact callDo_len st c
  | look c => rfl
  | lay ps => exact layDo_len ps st

/-! data that compare: at most n deep, texts in order -/
mutual
def fit : Nat → PyData → Bool
  | _, .none => true
  | _, .bool _ => true
  | _, .int _ => true
  | _, .str x => PyData.strOk x
  | 0, .list _ => false
  | 0, .tuple _ => false
  | n + 1, .list xs => fits n xs
  | n + 1, .tuple xs => fits n xs
  | _, .dict _ => false
def fits : Nat → List PyData → Bool
  | _, [] => true
  | n, x :: xs => fit n x && fits n xs
end

mutual
theorem fit_lay : ∀ (d : PyData) (n : Nat), fit n d = true → d.canLay0 = true ∧ d.depth ≤ n
  | .none, n, _ => by simp [PyData.canLay0, PyData.depth]
  | .bool _, n, _ => by simp [PyData.canLay0, PyData.depth]
  | .int _, n, _ => by simp [PyData.canLay0, PyData.depth]
  | .str x, n, h => by
    have h' : PyData.strOk x = true := by cases n <;> simpa [fit] using h
    simp [PyData.canLay0, PyData.depth, h']
  | .list xs, 0, h => by simp [fit] at h
  | .tuple xs, 0, h => by simp [fit] at h
  | .list xs, n + 1, h => by
    have h' : fits n xs = true := by simpa [fit] using h
    have := fits_lay xs n h'
    simp [PyData.canLay0, PyData.depth, this.1, this.2]
  | .tuple xs, n + 1, h => by
    have h' : fits n xs = true := by simpa [fit] using h
    have := fits_lay xs n h'
    simp [PyData.canLay0, PyData.depth, this.1, this.2]
  | .dict _, n, h => by cases n <;> simp [fit] at h
theorem fits_lay : ∀ (d : List PyData) (n : Nat), fits n d = true → PyData.canLayAll0 d = true ∧ PyData.depthAll d ≤ n
  | [], n, _ => by simp [PyData.canLayAll0, PyData.depthAll]
  | x :: xs, n, h => by
    have h' : fit n x = true ∧ fits n xs = true := by simpa [fits] using h
    have a := fit_lay x n h'.1
    have b := fits_lay xs n h'.2
    simp [PyData.canLayAll0, PyData.depthAll, a.1, b.1]
    omega
end
theorem fit_shaped {d : PyData} {n : Nat} (h : fit n d = true) (hn : n ≤ 64 := by decide) : SeqAt.shaped d = true := by
  have := fit_lay d n h
  unfold SeqAt.shaped
  rw [this.1]
  simp
  omega
mutual
theorem fit_up : ∀ (d : PyData) (n : Nat), fit n d = true → fit (n + 1) d = true
  | .none, n, _ => by simp [fit]
  | .bool _, n, _ => by simp [fit]
  | .int _, n, _ => by simp [fit]
  | .str x, n, h => by cases n <;> simpa [fit] using h
  | .list xs, 0, h => by simp [fit] at h
  | .tuple xs, 0, h => by simp [fit] at h
  | .list xs, n + 1, h => by
    have h' : fits n xs = true := by simpa [fit] using h
    simpa [fit] using fits_up xs n h'
  | .tuple xs, n + 1, h => by
    have h' : fits n xs = true := by simpa [fit] using h
    simpa [fit] using fits_up xs n h'
  | .dict _, n, h => by cases n <;> simp [fit] at h
theorem fits_up : ∀ (d : List PyData) (n : Nat), fits n d = true → fits (n + 1) d = true
  | [], n, _ => by simp [fits]
  | x :: xs, n, h => by
    have h' : fit n x = true ∧ fits n xs = true := by simpa [fits] using h
    simpa [fits] using ⟨fit_up x n h'.1, fits_up xs n h'.2⟩
end
theorem fits_iff (n : Nat) : ∀ (xs : List PyData), fits n xs = true ↔ ∀ x ∈ xs, fit n x = true
  | [] => by simp [fits]
  | x :: xs => by simp [fits, fits_iff n xs]
mutual
theorem eqv_refl : ∀ (d : PyData) (n : Nat), fit n d = true → PyData.eqv d d = true
  | .none, n, _ => by simp [PyData.eqv]
  | .bool _, n, _ => by simp [PyData.eqv]
  | .int _, n, _ => by simp [PyData.eqv]
  | .str x, n, h => by simp [PyData.eqv]
  | .list xs, 0, h => by simp [fit] at h
  | .tuple xs, 0, h => by simp [fit] at h
  | .list xs, n + 1, h => by
    have h' : fits n xs = true := by simpa [fit] using h
    simpa [PyData.eqv] using eqvs_refl xs n h'
  | .tuple xs, n + 1, h => by
    have h' : fits n xs = true := by simpa [fit] using h
    simpa [PyData.eqv] using eqvs_refl xs n h'
  | .dict _, n, h => by cases n <;> simp [fit] at h
theorem eqvs_refl : ∀ (d : List PyData) (n : Nat), fits n d = true → PyData.eqvAll d d = true
  | [], n, _ => by simp [PyData.eqvAll]
  | x :: xs, n, h => by
    have h' : fit n x = true ∧ fits n xs = true := by simpa [fits] using h
    simpa [PyData.eqvAll] using ⟨eqv_refl x n h'.1, eqvs_refl xs n h'.2⟩
end
theorem fits_ints (n : Nat) (st : List Int) : fits n (nums st) = true := by
  rw [fits_iff]
  intro x hx
  obtain ⟨i, _, rfl⟩ := List.mem_map.mp hx
  cases n <;> rfl
theorem fit_stD (n : Nat) (st : List Int) : fit (n + 1) (stD st) = true := by simpa [stD, fit] using fits_ints n st
theorem fit_int (n : Nat) (i : Int) : fit n (.int i) = true := by cases n <;> rfl
theorem fit_str (n : Nat) {x : Str} (h : PyData.strOk x = true) : fit n (.str x) = true := by cases n <;> exact h
theorem fit_tup (n : Nat) (xs : List PyData) : fit (n + 1) (.tuple xs) = fits n xs := by rw [fit]
theorem ok_read : PyData.strOk "read" = true := by decide +kernel
theorem ok_write : PyData.strOk "write" = true := by decide +kernel
theorem ok_add : PyData.strOk "add" = true := by decide +kernel
theorem ok_swap : PyData.strOk "swap" = true := by decide +kernel
theorem ok_span : PyData.strOk "span" = true := by decide +kernel
theorem ok_deal : PyData.strOk "deal" = true := by decide +kernel
theorem ok_look : PyData.strOk "look" = true := by decide +kernel
theorem ok_lay : PyData.strOk "lay" = true := by decide +kernel
theorem ok_got : PyData.strOk "got" = true := by decide +kernel
theorem ok_done : PyData.strOk "done" = true := by decide +kernel
theorem ok_yes : PyData.strOk "yes" = true := by decide +kernel
theorem ok_no : PyData.strOk "no" = true := by decide +kernel
theorem ok_all : PyData.strOk "all" = true := by decide +kernel
theorem ok_each : PyData.strOk "each" = true := by decide +kernel
theorem fit_one (c : One) : fit 1 c.dat = true := by cases c <;> simp [One.dat, fit, fits, ok_read, ok_write, ok_add, ok_swap]
theorem fit_call (c : Call) : fit 3 c.dat = true := by
  cases c with
  | one c => exact fit_up _ _ (fit_up _ _ (fit_one c))
  | span lo hi => simp [Call.dat, fit, fits, ok_span]
  | deal cs =>
    simp only [Call.dat, fit, fits, ok_deal, Bool.true_and, Bool.and_true]
    rw [fits_iff]
    intro x hx
    obtain ⟨c, _, rfl⟩ := List.mem_map.mp hx
    exact fit_one c
theorem fit_oneDo (st : List Int) (c : One) : fit 1 (oneDo st c).1 = true := by
  cases c with
  | swap k o n =>
    by_cases e : st.getD k 0 = o
    · simp only [oneDo, if_pos e]
      simp [yes, fit, fits, ok_yes]
    · simp only [oneDo, if_neg e]
      simp [no, fit, fits, ok_no]
  | _ => simp [oneDo, got, dn, fit, fits, ok_got, ok_done]
theorem fits_dealDo : ∀ (cs : List One) (st : List Int), fits 1 (dealDo st cs).1 = true
  | [], _ => by simp [dealDo, fits]
  | c :: r, st => by simp [dealDo, fits, fit_oneDo, fits_dealDo r]
theorem fit_callDo (st : List Int) (c : Call) : fit 3 (callDo st c).1 = true := by
  cases c with
  | one c => exact fit_up _ _ (fit_up _ _ (fit_oneDo st c))
  | span lo hi => simp [callDo, fit, fits, ok_all, fits_ints]
  | deal cs => simp [callDo, fit, fits, ok_each, fits_dealDo]
theorem fit_stpDo (st : List Int) (s : Stp) : fit 3 (stpDo st s).1 = true := by
  cases s with
  | call c => exact fit_callDo st c
  | look c => exact fit_callDo st c
  | lay ps => simp [stpDo, dn, fit, fits, ok_done]
end SJ

set_option Elab.async false
set_option linter.all false
set_option autoImplicit false
set_option maxRecDepth 100000
set_option maxHeartbeats 4000000
namespace DL
open PySem PySem.Spec PyProof.Rows L2
@[simp] theorem sh_int (i : Int) : SeqAt.shaped (.int i) = true := by simp [SeqAt.shaped, PyData.canLay0, PyData.depth]
@[simp] theorem sh_bool (i : Bool) : SeqAt.shaped (.bool i) = true := by simp [SeqAt.shaped, PyData.canLay0, PyData.depth]
@[simp] theorem sh_none : SeqAt.shaped .none = true := by simp [SeqAt.shaped, PyData.canLay0, PyData.depth]
theorem sh_str {x : Str} (h : PyData.strOk x = true) : SeqAt.shaped (.str x) = true := by simp [SeqAt.shaped, PyData.canLay0, PyData.depth, h]
@[simp] theorem ev_int (i j : Int) : PyData.eqv (.int i) (.int j) = decide (i = j) := by rw [PyData.eqv]; exact Bool.beq_eq_decide_eq i j
@[simp] theorem ev_str (i j : Str) : PyData.eqv (.str i) (.str j) = (i == j) := by rw [PyData.eqv]
@[simp] theorem w_read_write : ((Str.ofString "read") == (Str.ofString "write")) = false := by decide +kernel
@[simp] theorem w_read_add : ((Str.ofString "read") == (Str.ofString "add")) = false := by decide +kernel
@[simp] theorem w_read_swap : ((Str.ofString "read") == (Str.ofString "swap")) = false := by decide +kernel
@[simp] theorem w_read_span : ((Str.ofString "read") == (Str.ofString "span")) = false := by decide +kernel
@[simp] theorem w_read_deal : ((Str.ofString "read") == (Str.ofString "deal")) = false := by decide +kernel
@[simp] theorem w_read_look : ((Str.ofString "read") == (Str.ofString "look")) = false := by decide +kernel
@[simp] theorem w_read_lay : ((Str.ofString "read") == (Str.ofString "lay")) = false := by decide +kernel
@[simp] theorem w_write_read : ((Str.ofString "write") == (Str.ofString "read")) = false := by decide +kernel
@[simp] theorem w_write_add : ((Str.ofString "write") == (Str.ofString "add")) = false := by decide +kernel
@[simp] theorem w_write_swap : ((Str.ofString "write") == (Str.ofString "swap")) = false := by decide +kernel
@[simp] theorem w_write_span : ((Str.ofString "write") == (Str.ofString "span")) = false := by decide +kernel
@[simp] theorem w_write_deal : ((Str.ofString "write") == (Str.ofString "deal")) = false := by decide +kernel
@[simp] theorem w_write_look : ((Str.ofString "write") == (Str.ofString "look")) = false := by decide +kernel
@[simp] theorem w_write_lay : ((Str.ofString "write") == (Str.ofString "lay")) = false := by decide +kernel
@[simp] theorem w_add_read : ((Str.ofString "add") == (Str.ofString "read")) = false := by decide +kernel
@[simp] theorem w_add_write : ((Str.ofString "add") == (Str.ofString "write")) = false := by decide +kernel
@[simp] theorem w_add_swap : ((Str.ofString "add") == (Str.ofString "swap")) = false := by decide +kernel
@[simp] theorem w_add_span : ((Str.ofString "add") == (Str.ofString "span")) = false := by decide +kernel
@[simp] theorem w_add_deal : ((Str.ofString "add") == (Str.ofString "deal")) = false := by decide +kernel
@[simp] theorem w_add_look : ((Str.ofString "add") == (Str.ofString "look")) = false := by decide +kernel
@[simp] theorem w_add_lay : ((Str.ofString "add") == (Str.ofString "lay")) = false := by decide +kernel
@[simp] theorem w_swap_read : ((Str.ofString "swap") == (Str.ofString "read")) = false := by decide +kernel
@[simp] theorem w_swap_write : ((Str.ofString "swap") == (Str.ofString "write")) = false := by decide +kernel
@[simp] theorem w_swap_add : ((Str.ofString "swap") == (Str.ofString "add")) = false := by decide +kernel
@[simp] theorem w_swap_span : ((Str.ofString "swap") == (Str.ofString "span")) = false := by decide +kernel
@[simp] theorem w_swap_deal : ((Str.ofString "swap") == (Str.ofString "deal")) = false := by decide +kernel
@[simp] theorem w_swap_look : ((Str.ofString "swap") == (Str.ofString "look")) = false := by decide +kernel
@[simp] theorem w_swap_lay : ((Str.ofString "swap") == (Str.ofString "lay")) = false := by decide +kernel
@[simp] theorem w_span_read : ((Str.ofString "span") == (Str.ofString "read")) = false := by decide +kernel
@[simp] theorem w_span_write : ((Str.ofString "span") == (Str.ofString "write")) = false := by decide +kernel
@[simp] theorem w_span_add : ((Str.ofString "span") == (Str.ofString "add")) = false := by decide +kernel
@[simp] theorem w_span_swap : ((Str.ofString "span") == (Str.ofString "swap")) = false := by decide +kernel
@[simp] theorem w_span_deal : ((Str.ofString "span") == (Str.ofString "deal")) = false := by decide +kernel
@[simp] theorem w_span_look : ((Str.ofString "span") == (Str.ofString "look")) = false := by decide +kernel
@[simp] theorem w_span_lay : ((Str.ofString "span") == (Str.ofString "lay")) = false := by decide +kernel
@[simp] theorem w_deal_read : ((Str.ofString "deal") == (Str.ofString "read")) = false := by decide +kernel
@[simp] theorem w_deal_write : ((Str.ofString "deal") == (Str.ofString "write")) = false := by decide +kernel
@[simp] theorem w_deal_add : ((Str.ofString "deal") == (Str.ofString "add")) = false := by decide +kernel
@[simp] theorem w_deal_swap : ((Str.ofString "deal") == (Str.ofString "swap")) = false := by decide +kernel
@[simp] theorem w_deal_span : ((Str.ofString "deal") == (Str.ofString "span")) = false := by decide +kernel
@[simp] theorem w_deal_look : ((Str.ofString "deal") == (Str.ofString "look")) = false := by decide +kernel
@[simp] theorem w_deal_lay : ((Str.ofString "deal") == (Str.ofString "lay")) = false := by decide +kernel
@[simp] theorem w_look_read : ((Str.ofString "look") == (Str.ofString "read")) = false := by decide +kernel
@[simp] theorem w_look_write : ((Str.ofString "look") == (Str.ofString "write")) = false := by decide +kernel
@[simp] theorem w_look_add : ((Str.ofString "look") == (Str.ofString "add")) = false := by decide +kernel
@[simp] theorem w_look_swap : ((Str.ofString "look") == (Str.ofString "swap")) = false := by decide +kernel
@[simp] theorem w_look_span : ((Str.ofString "look") == (Str.ofString "span")) = false := by decide +kernel
@[simp] theorem w_look_deal : ((Str.ofString "look") == (Str.ofString "deal")) = false := by decide +kernel
@[simp] theorem w_look_lay : ((Str.ofString "look") == (Str.ofString "lay")) = false := by decide +kernel
@[simp] theorem w_lay_read : ((Str.ofString "lay") == (Str.ofString "read")) = false := by decide +kernel
@[simp] theorem w_lay_write : ((Str.ofString "lay") == (Str.ofString "write")) = false := by decide +kernel
@[simp] theorem w_lay_add : ((Str.ofString "lay") == (Str.ofString "add")) = false := by decide +kernel
@[simp] theorem w_lay_swap : ((Str.ofString "lay") == (Str.ofString "swap")) = false := by decide +kernel
@[simp] theorem w_lay_span : ((Str.ofString "lay") == (Str.ofString "span")) = false := by decide +kernel
@[simp] theorem w_lay_deal : ((Str.ofString "lay") == (Str.ofString "deal")) = false := by decide +kernel
@[simp] theorem w_lay_look : ((Str.ofString "lay") == (Str.ofString "look")) = false := by decide +kernel
@[simp] theorem at0 {a : PyData} {r : List PyData} : atI (a :: r) 0 = some a := by simp [atI, ixN]
@[simp] theorem at1 {a b : PyData} {r : List PyData} : atI (a :: b :: r) 1 = some b := by
  have : (1 : Int) < (r.length : Int) + 1 + 1 := by omega
  simp [atI, ixN, this]
@[simp] theorem at2 {a b c : PyData} {r : List PyData} : atI (a :: b :: c :: r) 2 = some c := by
  have : (2 : Int) < (r.length : Int) + 1 + 1 + 1 := by omega
  simp [atI, ixN, this]
@[simp] theorem at3 {a b c d : PyData} {r : List PyData} : atI (a :: b :: c :: d :: r) 3 = some d := by
  have : (3 : Int) < (r.length : Int) + 1 + 1 + 1 + 1 := by omega
  simp [atI, ixN, this]
@[simp] theorem ix0 (n : Nat) : ixN (n + 1) 0 = some 0 := by
  have : (0 : Int) < ((n + 1 : Nat) : Int) := by omega
  simp only [ixN, this, Int.le_refl, if_true]
  rfl
theorem ix_nat {n i : Nat} (h : i < n) : ixN n (i : Int) = some i := by
  have h1 : (i : Int) < (n : Int) := by omega
  have h2 : (0 : Int) ≤ (i : Int) := by omega
  simp [ixN, h1, h2]
theorem get_last (h : Cells) (a : Cell) : (h ++ [a])[h.length]? = some a := by simp
theorem set_last (h : Cells) (a b : Cell) : (h ++ [a]).set h.length b = h ++ [b] := by simp
theorem take_last (h r : Cells) : (h ++ r).take h.length = h := by simp
theorem set_set_at (h : Cells) (i : Nat) (a b : Cell) : (h.set i a).set i b = h.set i b := by simp
theorem get_set_at {h : Cells} {i : Nat} {a b : Cell} (e : h[i]? = some a) : (h.set i b)[i]? = some b := by
  have := (List.getElem?_eq_some_iff.mp e).1
  simp [this]
@[simp] theorem take_set (h : Cells) (i : Nat) (a : Cell) : (h.set i a).take h.length = h.set i a := by
  rw [List.take_of_length_le (by simp)]
@[simp] theorem ix32 : ixN 3 2 = some 2 := rfl
@[simp] theorem ix30 : ixN 3 0 = some 0 := rfl
theorem set_same {h : Cells} {i : Nat} {a : Cell} (e : h[i]? = some a) : h.set i a = h := by
  obtain ⟨hi, e⟩ := List.getElem?_eq_some_iff.mp e
  rw [← e]
  exact List.set_getElem_self hi
/-- a def that is never asked -/
theorem dfn_never {P : Program} {w : World} {K : PySem.W.Frag} {mg : Str → Option Value} {base : Heap} {x qual : Str} {st : Stmt} {f : Addr} {fd : FuncData} {ps : List Str} (hm : mg x = some (.ref f)) (F : Fun K x qual st f fd) (b : Binds K fd ps []) : DFn P w K mg base 0 x fun _ _ _ => False :=
  ⟨f, fd, ps, ⟨fun vs H Q E ⟨_, _, _, _, _, _, _, q, _⟩ => q.elim, fun A outer s H args us vs Q E _ _ _ _ ⟨_, _, _, _, _, _, _, q, _⟩ => q.elim⟩, hm, F.kp, b⟩
theorem szl : sizeLine = 16777216 := rfl
/-! ### loops by lemmas -/
theorem compL_map {c : Option Nat} {all : List PyData} {te : DTE} {f : PyData → PyData} {h : Cells} {δ : DSt} (hc : cond c all h) : ∀ (rest : List PyData) (δ' : DSt) (ac : List PyData) (Q : List PyData → Cells → Prop), (∀ y, δ'.set 0 y = δ.set 0 y) →
    (∀ x ∈ rest, ∀ k : DK, k (.d (f x)) h → te (δ.set 0 (some (.d x))) h k) → Q (ac ++ rest.map f) h → compL (dName 0) dYes te c all rest δ' h ac Q
  | [], δ', ac, Q, _, _, hQ => ⟨hc, by simpa using hQ⟩
  | x :: r, δ', ac, Q, hδ, hte, hQ => by
    refine ⟨hc, ?_⟩
    dsimp only [dName, dYes]
    rw [if_pos rfl, hδ]
    refine hte x List.mem_cons_self _ ?_
    exact compL_map hc r _ _ Q (fun y => by rw [List.set_set]) (fun z hz => hte z (List.mem_cons_of_mem _ hz)) (by simpa using hQ)
/-- a comprehension by an invariant of the cells; J after n items -/
theorem compL_inv {c : Option Nat} {all : List PyData} {te : DTE} {δ : DSt} (J : Cells → Prop) (ok : PyData → Prop) (hc : ∀ h, J h → cond c all h) : ∀ (rest : List PyData) (δ' : DSt) (h : Cells) (ac : List PyData) (Q : List PyData → Cells → Prop), (∀ y, δ'.set 0 y = δ.set 0 y) → J h →
    (∀ x ∈ rest, ∀ (h : Cells) (k : DK), J h → (∀ d h', ok d → J h' → k (.d d) h') → te (δ.set 0 (some (.d x))) h k) → (∀ ys h', ys.length = rest.length → (∀ y ∈ ys, ok y) → J h' → Q (ac ++ ys) h') → compL (dName 0) dYes te c all rest δ' h ac Q
  | [], δ', h, ac, Q, _, hJ, _, hQ => ⟨hc h hJ, by simpa using hQ [] h rfl (by simp) hJ⟩
  | x :: r, δ', h, ac, Q, hδ, hJ, hte, hQ => by
    refine ⟨hc h hJ, ?_⟩
    dsimp only [dName, dYes]
    rw [if_pos rfl, hδ]
    refine hte x List.mem_cons_self h _ hJ fun d h' hd hJ' => ?_
    refine compL_inv J ok hc r _ h' _ Q (fun y => by rw [List.set_set]) hJ' (fun z hz => hte z (List.mem_cons_of_mem _ hz)) fun ys h'' hl hy hJ'' => ?_
    have := hQ (d :: ys) h'' (by simp [hl]) (by simpa using ⟨hd, hy⟩) hJ''
    simpa using this
/-- .. with a test that the cells answer -/
theorem compL_filter {c : Option Nat} {all : List PyData} {tt : DTT} {te : DTE} {δ : DSt} (J : Cells → Prop) (hc : ∀ h, J h → cond c all h) : ∀ (rest : List PyData) (δ' : DSt) (h : Cells) (ac : List PyData) (Q : List PyData → Cells → Prop), (∀ y, δ'.set 0 y = δ.set 0 y) → J h →
    (∀ x ∈ rest, ∀ (h : Cells) (k : Bool → Cells → Prop), J h → (∀ b h', J h' → k b h') → tt (δ.set 0 (some (.d x))) h k) →
    (∀ x ∈ rest, ∀ (h : Cells) (k : DK), k (.d x) h → te (δ.set 0 (some (.d x))) h k) → (∀ ys h', ys.Sublist rest → J h' → Q (ac ++ ys) h') → compL (dName 0) tt te c all rest δ' h ac Q
  | [], δ', h, ac, Q, _, hJ, _, _, hQ => ⟨hc h hJ, by simpa using hQ [] h (.slnil) hJ⟩
  | x :: r, δ', h, ac, Q, hδ, hJ, htt, hte, hQ => by
    refine ⟨hc h hJ, ?_⟩
    show tt (δ'.set 0 (some (.d x))) h _
    rw [hδ]
    refine htt x List.mem_cons_self h _ hJ fun b h' hJ' => ?_
    cases b with
    | true =>
      rw [if_pos rfl]
      refine hte x List.mem_cons_self h' _ ?_
      refine compL_filter J hc r _ h' _ Q (fun y => by rw [List.set_set]) hJ' (fun z hz => htt z (List.mem_cons_of_mem _ hz)) (fun z hz => hte z (List.mem_cons_of_mem _ hz)) fun ys h'' hs hJ'' => ?_
      have := hQ (x :: ys) h'' (hs.cons_cons x) hJ''
      simpa using this
    | false =>
      rw [if_neg Bool.false_ne_true]
      exact compL_filter J hc r _ h' _ Q (fun y => by rw [List.set_set]) hJ' (fun z hz => htt z (List.mem_cons_of_mem _ hz)) (fun z hz => hte z (List.mem_cons_of_mem _ hz)) fun ys h'' hs hJ'' => hQ ys h'' (hs.cons x) hJ''
/-- for by an invariant -/
theorem forL_inv {g : DTG} {tb : DTS} {c : Option Nat} {all : List PyData} {E : DEnds} (J : DSt → Cells → Prop) (hc : ∀ δ h, J δ h → cond c all h) (fin : ∀ δ h, J δ h → E.nx δ h) : ∀ (xs : List PyData), (∀ x ∈ xs, ∀ (N : DSt → Cells → Prop), (∀ δ h, J δ h → N δ h) → ∀ δ h, J δ h → g (.d x) δ h fun δ2 h2 => tb { nx := N, ct := N, bk := E.nx, rt := E.rt } δ2 h2) → ∀ δ h, J δ h → forL g tb c all xs E δ h
  | [], _, δ, h, hJ => ⟨hc δ h hJ, fin δ h hJ⟩
  | x :: r, step, δ, h, hJ => ⟨hc δ h hJ, step x List.mem_cons_self _ (fun δ' h' hJ' => forL_inv J hc fin r (fun z hz => step z (List.mem_cons_of_mem _ hz)) δ' h' hJ') δ h hJ⟩
/-- .. by an invariant that knows what is left -/
theorem forL_rest {g : DTG} {tb : DTS} {c : Option Nat} {all : List PyData} {E : DEnds} (J : List PyData → DSt → Cells → Prop) (hc : ∀ r δ h, J r δ h → cond c all h) (fin : ∀ δ h, J [] δ h → E.nx δ h)
    (step : ∀ x r (N : DSt → Cells → Prop), (∀ δ h, J r δ h → N δ h) → ∀ δ h, J (x :: r) δ h → g (.d x) δ h fun δ2 h2 => tb { nx := N, ct := N, bk := E.nx, rt := E.rt } δ2 h2) : ∀ (xs : List PyData) δ h, J xs δ h → forL g tb c all xs E δ h
  | [], δ, h, hJ => ⟨hc _ δ h hJ, fin δ h hJ⟩
  | x :: r, δ, h, hJ => ⟨hc _ δ h hJ, step x r _ (fun δ' h' hJ' => forL_rest J hc fin step r δ' h' hJ') δ h hJ⟩
end DL

set_option Elab.async false
set_option linter.all false
set_option autoImplicit false
set_option maxRecDepth 100000
set_option maxHeartbeats 4000000
namespace DL
open PySem PySem.Spec PyProof.Rows L2
section
variable {X : Cx} {a b c e tg : Expr} {st : Stmt} {ta tb tc te : DTE} {pos : Pos}
/-! ### code that is never come to -/
def dNo : DTE := fun _ _ _ => False
def dNoF : DTF := fun _ _ _ => False
def dNoI : DTI := fun _ _ _ => False
def dNoS : DTS := fun _ _ _ => False
theorem de_no : DE X e dNo := fun pins s σ H Q I ⟨_, _, _, _, _, _, q, _⟩ => q.elim
theorem df_no : DF X e dNoF := fun pins s σ H Q I ⟨_, _, _, _, _, _, q, _⟩ => q.elim
theorem di_no : DI X tg e dNoI := fun pins s σ H R I ⟨_, _, _, _, _, _, q, _⟩ => q.elim
theorem ds_no : DS X st dNoS := fun pins s σ H D I ⟨_, _, _, _, _, _, q, _⟩ => q.elim
/-! ### in, not in -/
def dInN (neg : Bool) : D2 := fun x y h Q => match ref h x, ref h y with
  | some d, some (.list xs) => SeqAt.shaped (.list xs) = true ∧ SeqAt.shaped d = true ∧ Q (.d (.bool (neg ^^ xs.any fun z => PyData.eqv z d))) h
  | some d, some (.tuple xs) => SeqAt.shaped (.tuple xs) = true ∧ SeqAt.shaped d = true ∧ Q (.d (.bool (neg ^^ xs.any fun z => PyData.eqv z d))) h
  | _, _ => False
theorem Room.units65 {k : Nat} {A : Around} (r : Room k A) : A.units + 65 < cLine := by have := r.un; omega
theorem op_dIn {n : Nat} (hr : Room n X.A) : OpR X (compareOp .In) (upR X.K (dInN false)) := by
  intro pins s σ H x y v u Q I rx ry h
  obtain ⟨a, b, h, A, μ, k, R, ra, rb, q, c⟩ := h
  unfold dInN at q
  split at q
  · rename_i d xs ea eb
    obtain ⟨as, z1⟩ := (ref_see R ra ea).reads I (SeqAt.canLay_of_shaped q.2.1) rx
    obtain ⟨bs, z2⟩ := (ref_see R rb eb).reads I (SeqAt.canLay_of_shaped q.1) ry
    exact SeqAt.in_list_reads z2 z1 (SeqAt.canLay_of_shaped q.1) (SeqAt.canLay_of_shaped q.2.1) (room_in_shaped q.2.1 (Room.units65 hr)) ⟨.bl _, H, I, rfl, c _ _ _ _ _ _ q.2.2 .refl R (by simpa using repW_bl)⟩
  · rename_i d xs ea eb
    obtain ⟨as, z1⟩ := (ref_see R ra ea).reads I (SeqAt.canLay_of_shaped q.2.1) rx
    obtain ⟨bs, z2⟩ := (ref_see R rb eb).reads I (SeqAt.canLay_of_shaped q.1) ry
    exact SeqAt.in_tuple_reads z2 z1 (SeqAt.canLay_of_shaped q.1) (SeqAt.canLay_of_shaped q.2.1) (room_in_shaped q.2.1 (Room.units65 hr)) ⟨.bl _, H, I, rfl, c _ _ _ _ _ _ q.2.2 .refl R (by simpa using repW_bl)⟩
  · exact q.elim
theorem op_dNotIn {n : Nat} (hr : Room n X.A) : OpR X (compareOp .NotIn) (upR X.K (dInN true)) := by
  intro pins s σ H x y v u Q I rx ry h
  obtain ⟨a, b, h, A, μ, k, R, ra, rb, q, c⟩ := h
  unfold dInN at q
  split at q
  · rename_i d xs ea eb
    obtain ⟨as, z1⟩ := (ref_see R ra ea).reads I (SeqAt.canLay_of_shaped q.2.1) rx
    obtain ⟨bs, z2⟩ := (ref_see R rb eb).reads I (SeqAt.canLay_of_shaped q.1) ry
    exact SeqAt.notIn_list_reads z2 z1 (SeqAt.canLay_of_shaped q.1) (SeqAt.canLay_of_shaped q.2.1) (room_in_shaped q.2.1 (Room.units65 hr)) ⟨.bl _, H, I, rfl, c _ _ _ _ _ _ q.2.2 .refl R (by simpa using repW_bl)⟩
  · rename_i d xs ea eb
    obtain ⟨as, z1⟩ := (ref_see R ra ea).reads I (SeqAt.canLay_of_shaped q.2.1) rx
    obtain ⟨bs, z2⟩ := (ref_see R rb eb).reads I (SeqAt.canLay_of_shaped q.1) ry
    exact SeqAt.notIn_tuple_reads z2 z1 (SeqAt.canLay_of_shaped q.1) (SeqAt.canLay_of_shaped q.2.1) (room_in_shaped q.2.1 (Room.units65 hr)) ⟨.bl _, H, I, rfl, c _ _ _ _ _ _ q.2.2 .refl R (by simpa using repW_bl)⟩
  · exact q.elim
/-! ### chains of two -/
def dChain (r r' : D2) (ta tb tc : DTE) : DTE := fun δ h Q => ta δ h fun x h1 => tb δ h1 fun y h2 => r x y h2 fun z h3 => match z with
  | .d (.bool k) => if k = true then tc δ h3 fun u h4 => r' y u h4 Q else Q (.d (.bool false)) h3
  | _ => False
theorem up_chain {K : PySem.W.Frag} {r r' : D2} {σ : L2.St} {H : Hp} {Q : VK} (q : up K (dChain r r' ta tb tc) σ H Q) : tChain (upR K r) (upR K r') (up K ta) (up K tb) (up K tc) σ H Q := by
  obtain ⟨δ, h, A, μ, k, R, q, c⟩ := q
  refine ⟨δ, h, A, μ, _, R, q, fun u h1 v H1 A1 μ1 q1 x1 R1 r1 => ?_⟩
  refine ⟨δ, h1, A1, μ1, _, ⟨R1, R.2.ext x1 R.1.sub⟩, q1, fun w h2 v2 H2 A2 μ2 q2 x2 R2 r2 => ?_⟩
  refine ⟨u, w, h2, A2, μ2, _, R2, r1.ext x2 R1.sub, r2, q2, fun z h3 v3 H3 A3 μ3 q3 x3 R3 r3 => ?_⟩
  have x13 := (x1.trans x2).trans x3
  split at q3
  · rename_i kk
    refine ⟨kk, repW_bool r3, ?_⟩
    cases kk with
    | true =>
      rw [if_pos rfl] at q3 ⊢
      refine ⟨δ, h3, A3, μ3, _, ⟨R3, R.2.ext x13 R.1.sub⟩, q3, fun u4 h4 v4 H4 A4 μ4 q4 x4 R4 r4 => ?_⟩
      exact ⟨w, u4, h4, A4, μ4, k, R4, (r2.ext x3 R2.sub).ext x4 R3.sub, r4, q4, fun z h5 v5 H5 A5 μ5 q5 x5 R5 r5 => c z h5 v5 H5 A5 μ5 q5 ((x13.trans x4).trans x5) R5 r5⟩
    | false =>
      rw [if_neg Bool.false_ne_true] at q3 ⊢
      exact c _ h3 _ H3 A3 μ3 q3 x13 R3 repW_bl
  · exact q3.elim
theorem de_chain {op op' : CmpOp} {r r' : D2} (ho : OpR X (compareOp op) (upR X.K r)) (ho' : OpR X (compareOp op') (upR X.K r')) (ha : DE X a ta) (hb : DE X b tb) (hc : DE X c tc)
    (hm : lastMarks [op, op'] [b, c] = false := by with_unfolding_all rfl) : DE X (.Compare a [op, op'] [b, c] pos) (dChain r r' ta tb tc) := pe_mono (pe_chain ho ho' ha hb hc hm) fun _ _ _ q => up_chain q
theorem dt_chain {op op' : CmpOp} {r r' : D2} (ho : OpR X (compareOp op) (upR X.K r)) (ho' : OpR X (compareOp op') (upR X.K r')) (ha : DE X a ta) (hb : DE X b tb) (hc : DE X c tc)
    (hm : lastMarks [op, op'] [b, c] = false := by with_unfolding_all rfl) : DT X (.Compare a [op, op'] [b, c] pos) (dB (dChain r r' ta tb tc)) := pt_mono (pt_chain ho ho' ha hb hc hm) fun σ H Q q => by
    obtain ⟨δ, h, A, μ, k, R, q1, c⟩ := up_bool q
    exact up_chain ⟨δ, h, A, μ, k, R, q1, c⟩
/-! ### minus, shifts -/
def dNeg (ta : DTE) : DTE := fun δ h Q => ta δ h fun w h1 => match w with
  | .d (.int i) => Q (.d (.int (-i))) h1
  | _ => False
theorem de_neg (ha : DE X a ta) : DE X (.UnaryOp .USub a pos) (dNeg ta) := pe_mono (pe_un un_neg ha) fun σ H Q q => by
  obtain ⟨δ, h, A, μ, k, R, q, c⟩ := q
  refine ⟨δ, h, A, μ, _, R, q, fun w h1 v H1 A1 μ1 q1 x1 R1 r1 => ?_⟩
  split at q1
  · exact ⟨_, repW_int r1, c _ h1 _ H1 A1 μ1 q1 x1 R1 repW_i⟩
  · exact q1.elim
def dShr : D2
  | .d (.int i), .d (.int j), h, Q => 0 ≤ j ∧ Q (.d (.int (i / 2 ^ j.toNat))) h
  | _, _, _, _ => False
def dBand : D2
  | .d (.int i), .d (.int j), h, Q => Q (.d (.int (Builtin.bitAnd i j))) h
  | _, _, _, _ => False
theorem op_dShr : OpR X (binaryOp .RShift) (upR X.K dShr) := int_op (f := fun i j => .int (i / 2 ^ j.toNat)) op_shr (fun _ _ _ _ => repI) fun u w h k q => by
  unfold dShr at q
  split at q
  · exact ⟨_, _, rfl, rfl, q.1, q.2⟩
  · exact q.elim
theorem op_dBand : OpR X (binaryOp .BitAnd) (upR X.K dBand) := int_op (f := fun i j => .int (Builtin.bitAnd i j)) (OpR.i0 op_and) (fun _ _ _ _ => repI) fun u w h k q => by
  unfold dBand at q
  split at q
  · exact ⟨_, _, rfl, rfl, trivial, q⟩
  · exact q.elim
end
end DL

set_option Elab.async false
set_option linter.all false
set_option autoImplicit false
set_option maxRecDepth 100000
set_option maxHeartbeats 4000000
namespace DL
open PySem PySem.Spec PyProof.Rows L2
/-! ### a dict of the top, keys texts, values ints; asked by texts and None -/
def oIs : Option Str → Value → Bool
  | some x, v => Value.isStrOf x v
  | none, .none => true
  | none, _ => false
theorem oIs_shape {k : Option Str} {v : Value} (h : oIs k v = true) : (∃ x t, k = some x ∧ v = .str x t) ∨ (k = none ∧ v = .none) := by
  cases k with
  | some x =>
    obtain ⟨t, e⟩ := Value.isStrOf_shape (x := x) (v := v) h
    exact .inl ⟨x, t, rfl, e⟩
  | none => cases v <;> first | exact .inr ⟨rfl, rfl⟩ | cases h
theorem oIs_str (x : Str) (t : Tok) : oIs (some x) (.str x t) = true := by simp [oIs, Value.isStrOf]
def oHash (w : World) : Option Str → Int
  | some x => hashStr w x
  | none => reduceHash 0xFCA86420
def oKind (prog : Program) (w : World) : PySem.KeyKind prog w (Option Str) where
  is := oIs
  hash := oHash w
  inj := fun v a b ha hb => by
    rcases oIs_shape ha with ⟨x, t, rfl, rfl⟩ | ⟨rfl, rfl⟩
    · rcases oIs_shape hb with ⟨y, u, rfl, e⟩ | ⟨rfl, e⟩
      · injection e with e1 _; rw [e1]
      · exact nomatch e
    · rcases oIs_shape hb with ⟨y, u, rfl, e⟩ | ⟨rfl, e⟩
      · exact nomatch e
      · rfl
  byValue := fun k v h => by
    rcases oIs_shape h with ⟨x, t, rfl, rfl⟩ | ⟨rfl, rfl⟩ <;> rfl
  pyHash := fun {A E s k v Q} hv h => by
    rcases oIs_shape hv with ⟨x, t, rfl, rfl⟩ | ⟨rfl, rfl⟩
    · exact wpAny_pyHash_str h
    · exact PySem.W.pyHash_slot (T := "NoneType") rfl PySem.F.slot_NoneType_hash PySem.F.entry_NoneType_hash (PySem.F.args_NoneType_hash_1 _) (by decide) (.inl rfl) (wpAny_bind (wpAny_pure (wpAny_bind (wpAny_mkInt (wpAny_pure ⟨_, _, rfl, h⟩)))))
  eqBool := fun {A E s a b u v Q} hu hv h => by
    rcases oIs_shape hu with ⟨x, t, rfl, rfl⟩ | ⟨rfl, rfl⟩
    · rcases oIs_shape hv with ⟨y, u, rfl, rfl⟩ | ⟨rfl, rfl⟩
      · refine wpAny_eqBool_str ?_
        have e : decide (some x = some y) = decide (x = y) := by simp
        rwa [e] at h
      · exact SeqAt.EqAt.str_none x t _ _ _ _ (by simpa using h)
    · rcases oIs_shape hv with ⟨y, u, rfl, rfl⟩ | ⟨rfl, rfl⟩
      · exact SeqAt.EqAt.none_str y u _ _ _ _ (by simpa using h)
      · exact SeqAt.EqAt.same _ _ _ _ _ (by simpa using h)
  «strs» := fun k x t v h => by
    rcases oIs_shape h with ⟨y, u, rfl, e⟩ | ⟨rfl, e⟩
    · injection e with e1 _
      subst e1
      cases v <;> rfl
    · exact nomatch e
structure TabK (w : World) (K : PySem.W.Frag) (p : Addr) (f : Str → Option Int) : Prop where
  lk : ∃ es n, K.lookup p = some ⟨.type "dict", none, .dict es n, #[]⟩ ∧ PySem.W.KeysLit w.params es.toList ∧ (∀ x i, f x = some i → ∃ t, findBy Value.isStrOf es x = some (.int i t)) ∧ ∀ x, f x = none → findBy Value.isStrOf es x = none
  sm : (p == sysModules) = false
theorem TabK.map {w : World} {K : PySem.W.Frag} {p : Addr} {f : Str → Option Int} {prog : Program} {h : Heap} (T : TabK w K p f) (X : K.In h) : ∃ g : Option Str → Option Value, h.MapOf (oKind prog w) p g ∧ g none = none ∧ (∀ x i, f x = some i → ∃ t, g (some x) = some (.int i t)) ∧ ∀ x, f x = none → g (some x) = none := by
  obtain ⟨es, n, l, hk, h1, h2⟩ := T.lk
  refine ⟨fun k => findBy oIs es k, ⟨_, es, n, X _ _ l, ⟨rfl, rfl, rfl⟩, rfl, fun e he => ?_, fun _ => rfl⟩, ?_, h1, h2⟩
  · obtain ⟨x, t, e1, e2⟩ := hk.all e (Array.mem_toList_iff.mpr he)
    exact ⟨some x, by rw [e1]; exact oIs_str x t, e2⟩
  · unfold findBy
    have e : es.find? (fun e => oIs none e.key) = none := by
      rw [Array.find?_eq_none]
      intro e he
      obtain ⟨x, t, e1, _⟩ := hk.all e (Array.mem_toList_iff.mpr he)
      rw [e1]
      exact Bool.false_ne_true
    show Option.map _ (es.find? fun e => oIs none e.key) = none
    rw [e]
    rfl
section
variable {X : Cx} {a b c d e : Expr} {ta tb tc td : DTE} {pos : Pos}
theorem op_notInK {p : Addr} {f : Str → Option Int} (T : TabK X.w X.K p f) : OpR X (compareOp .NotIn) (fun x y H Q => y = .ref p ∧ ((∃ s, x = .str s ∧ Q (.bl (!(f s).isSome)) H) ∨ (x = .non ∧ Q (.bl true) H))) := by
  intro pins s σ H x y v u Q I rx ry h
  obtain ⟨rfl, h⟩ := h
  cases ry
  obtain ⟨g, m, g0, g1, g2⟩ := T.map (prog := X.prog) I.kIn
  rcases h with ⟨z, rfl, q⟩ | ⟨rfl, q⟩
  · obtain ⟨t, rfl⟩ := rx
    refine wpAny_notIn_of (k := some z) (oIs_str z t) T.sm m ⟨.bl _, H, I.tok _, ?_, q⟩
    cases e : f z with
    | none => rw [g2 z e]; rfl
    | some i => obtain ⟨t', e'⟩ := g1 z i e; rw [e']; rfl
  · cases rx
    exact wpAny_notIn_of (k := none) rfl T.sm m ⟨.bl _, H, I.tok _, by rw [g0]; rfl, q⟩
theorem ix_K {p : Addr} {f : Str → Option Int} (T : TabK X.w X.K p f) : IxR X (fun x y H Q => x = .ref p ∧ ∃ s i, y = .str s ∧ f s = some i ∧ Q (.int i) H) := by
  intro value slice pins s σ H x y v u Q I rx ry h hs
  obtain ⟨rfl, z, i, rfl, e, q⟩ := h
  cases rx
  obtain ⟨t, rfl⟩ := ry
  obtain ⟨g, m, g0, g1, g2⟩ := T.map (prog := X.prog) I.kIn
  obtain ⟨t', e'⟩ := g1 z i e
  exact tail_any m.typeIs slot_dict_getitem.lookup (wpAny_getItem_of (k := some z) (oIs_str z t) m e' ⟨.int i, H, I.tok _, ⟨t', rfl⟩, q⟩) hs
def dNotInK (f : Str → Option Int) (ta : DTE) : DTE := fun δ h Q => ta δ h fun w h1 => match w with
  | .d (.str s) => Q (.d (.bool (!(f s).isSome))) h1
  | .d .none => Q (.d (.bool true)) h1
  | _ => False
theorem repW_str {K : PySem.W.Frag} {A μ : List Addr} {H : Hp} {x : Str} {v : V} (r : RepW K A μ H (.d (.str x)) v) : v = .str x := by
  have z : Rep K A H (.str x) v := r
  rw [Rep] at z; exact z.1
theorem repW_non {K : PySem.W.Frag} {A μ : List Addr} {H : Hp} {v : V} (r : RepW K A μ H (.d .none) v) : v = .non := by
  have z : Rep K A H .none v := r
  rw [Rep] at z; exact z
theorem up_notInK {p : Addr} {f : Str → Option Int} {σ : L2.St} {H : Hp} {Q : VK} (q : up X.K (dNotInK f ta) σ H Q) :
    tOp (fun x y H Q => y = .ref p ∧ ((∃ s, x = .str s ∧ Q (.bl (!(f s).isSome)) H) ∨ (x = .non ∧ Q (.bl true) H))) (up X.K ta) (tC (.ref p)) σ H Q := by
  obtain ⟨δ, h, A, μ, k, R, q, c⟩ := q
  refine ⟨δ, h, A, μ, _, R, q, fun w h1 v H1 A1 μ1 q1 x1 R1 r1 => ?_⟩
  show _ ∧ _
  refine ⟨rfl, ?_⟩
  split at q1
  · exact .inl ⟨_, repW_str r1, c _ h1 _ H1 A1 μ1 q1 x1 R1 repW_bl⟩
  · exact .inr ⟨repW_non r1, c _ h1 _ H1 A1 μ1 q1 x1 R1 repW_bl⟩
  · exact q1.elim
theorem de_notInK {p : Addr} {f : Str → Option Int} {x : Str} {pos' : Pos} (T : TabK X.w X.K p f) (hm : X.mg x = some (.ref p)) (ha : DE X a ta) (hg : Gl X x := by rfl) (hd : (x == ("__debug__" : Str)) = false := by decide) (hb : behindInMarks .NotIn (.Name x pos') = false := by rfl) :
    DE X (.Compare a [.NotIn] [.Name x pos'] pos) (dNotInK f ta) := pe_mono (pe_cmpR (op_notInK T) ha (pe_glob (v := .ref p) hg hm rfl hd) hb) fun _ _ _ q => up_notInK q
theorem dt_notInK {p : Addr} {f : Str → Option Int} {x : Str} {pos' : Pos} (T : TabK X.w X.K p f) (hm : X.mg x = some (.ref p)) (ha : DE X a ta) (hg : Gl X x := by rfl) (hd : (x == ("__debug__" : Str)) = false := by decide) (hb : behindInMarks .NotIn (.Name x pos') = false := by rfl) :
    DT X (.Compare a [.NotIn] [.Name x pos'] pos) (dB (dNotInK f ta)) := pt_mono (pt_cmpR (op_notInK T) ha (pe_glob (v := .ref p) hg hm rfl hd) hb) fun σ H Q q => by
    obtain ⟨δ, h, A, μ, k, R, q1, c⟩ := up_bool q
    exact up_notInK ⟨δ, h, A, μ, k, R, q1, c⟩
def dIxK (f : Str → Option Int) (ta : DTE) : DTE := fun δ h Q => ta δ h fun w h1 => match w with
  | .d (.str s) => (match f s with
    | some i => Q (.d (.int i)) h1
    | none => False)
  | _ => False
theorem de_ixK {p : Addr} {f : Str → Option Int} {x : Str} {pos' : Pos} (T : TabK X.w X.K p f) (hm : X.mg x = some (.ref p)) (ha : DE X a ta) (hg : Gl X x := by rfl) (hd : (x == ("__debug__" : Str)) = false := by decide) (hs : PlainIx a := by intro _ _; rfl) :
    DE X (.Subscript (.Name x pos') a pos) (dIxK f ta) := pe_mono (pe_ix (ix_K T) (pe_glob (v := .ref p) hg hm rfl hd) ha hs) fun σ H Q q => by
  obtain ⟨δ, h, A, μ, k, R, q, c⟩ := q
  show up X.K ta σ H _
  refine ⟨δ, h, A, μ, _, R, q, fun w h1 v H1 A1 μ1 q1 x1 R1 r1 => ?_⟩
  refine ⟨rfl, ?_⟩
  split at q1
  · split at q1
    · rename_i e
      exact ⟨_, _, repW_str r1, e, c _ h1 _ H1 A1 μ1 q1 x1 R1 repW_i⟩
    · exact q1.elim
  · exact q1.elim
/-! ### chains of three -/
def dChain3 (r r' r'' : D2) (ta tb tc td : DTE) : DTE := fun δ h Q => ta δ h fun x h1 => tb δ h1 fun y h2 => r x y h2 fun z h3 => match z with
  | .d (.bool k) => if k = true then tc δ h3 fun u h4 => r' y u h4 fun z' h5 => (match z' with
      | .d (.bool k') => if k' = true then td δ h5 fun u' h6 => r'' u u' h6 Q else Q (.d (.bool false)) h5
      | _ => False) else Q (.d (.bool false)) h3
  | _ => False
def tChain3 (r r' r'' : R2) (ta tb tc td : TE) : TE := fun σ H Q => ta σ H fun x H1 => tb σ H1 fun y H2 => r x y H2 fun z H3 => ∃ k, z = .bl k ∧
  (if k = true then tc σ H3 fun u H4 => r' y u H4 fun z' H5 => ∃ k', z' = .bl k' ∧ (if k' = true then td σ H5 fun u' H6 => r'' u u' H6 Q else Q (.bl false) H5) else Q (.bl false) H3)
theorem pe_chain3 {ta tb tc td : TE} {op op' op'' : CmpOp} {r r' r'' : R2} (ho : OpR X (compareOp op) r) (ho' : OpR X (compareOp op') r') (ho'' : OpR X (compareOp op'') r'') (ha : PE X a ta) (hb : PE X b tb) (hc : PE X c tc) (hd : PE X d td)
    (hm : lastMarks [op, op', op''] [b, c, d] = false := by with_unfolding_all rfl) : PE X (.Compare a [op, op', op''] [b, c, d] pos) (tChain3 r r' r'' ta tb tc td) := by
  intro pins s σ H Q I h
  refine Compare_chain (thn (ha pins s σ H _ I h) fun v s1 ⟨x, H1, I1, r1, q1⟩ => chain_link (thn (hb pins s1 σ H1 _ I1 q1) fun u s2 ⟨y, H2, I2, r2, q2⟩ =>
    thn (ho pins s2 σ H2 x y v u _ I2 r1 r2 q2) fun d' s3 ⟨z, H3, I3, r3, k, e, q3⟩ => ?_)) hm
  subst e
  cases r3
  refine wpAny_truthy_bool ?_
  cases k with
  | false => exact ite_ff ⟨.bl false, H3, I3, rfl, q3⟩
  | true =>
    refine ite_tt (chain_link (thn (hc pins s3 σ H3 _ I3 q3) fun w' s4 ⟨z', H4, I4, r4, q4⟩ => thn (ho' pins s4 σ H4 y z' u w' _ I4 r2 r4 q4) fun d2 s5 ⟨z2, H5, I5, r5, k2, e2, q5⟩ => ?_))
    subst e2
    cases r5
    refine wpAny_truthy_bool ?_
    cases k2 with
    | false => exact ite_ff ⟨.bl false, H5, I5, rfl, q5⟩
    | true => exact ite_tt (chain_last (thn (hd pins s5 σ H5 _ I5 q5) fun w6 s6 ⟨z6, H6, I6, r6, q6⟩ => ho'' pins s6 σ H6 z' z6 w' w6 Q I6 r4 r6 q6))
theorem de_chain3 {op op' op'' : CmpOp} {r r' r'' : D2} (ho : OpR X (compareOp op) (upR X.K r)) (ho' : OpR X (compareOp op') (upR X.K r')) (ho'' : OpR X (compareOp op'') (upR X.K r'')) (ha : DE X a ta) (hb : DE X b tb) (hc : DE X c tc) (hd : DE X d td)
    (hm : lastMarks [op, op', op''] [b, c, d] = false := by with_unfolding_all rfl) : DE X (.Compare a [op, op', op''] [b, c, d] pos) (dChain3 r r' r'' ta tb tc td) := pe_mono (pe_chain3 ho ho' ho'' ha hb hc hd hm) fun σ H Q q => by
  obtain ⟨δ, h, A, μ, k, R, q, c⟩ := q
  refine ⟨δ, h, A, μ, _, R, q, fun u h1 v H1 A1 μ1 q1 x1 R1 r1 => ?_⟩
  refine ⟨δ, h1, A1, μ1, _, ⟨R1, R.2.ext x1 R.1.sub⟩, q1, fun w h2 v2 H2 A2 μ2 q2 x2 R2 r2 => ?_⟩
  refine ⟨u, w, h2, A2, μ2, _, R2, r1.ext x2 R1.sub, r2, q2, fun z h3 v3 H3 A3 μ3 q3 x3 R3 r3 => ?_⟩
  have x13 := (x1.trans x2).trans x3
  split at q3
  · rename_i kk
    refine ⟨kk, repW_bool r3, ?_⟩
    cases kk with
    | true =>
      rw [if_pos rfl] at q3 ⊢
      refine ⟨δ, h3, A3, μ3, _, ⟨R3, R.2.ext x13 R.1.sub⟩, q3, fun u4 h4 v4 H4 A4 μ4 q4 x4 R4 r4 => ?_⟩
      refine ⟨w, u4, h4, A4, μ4, _, R4, (r2.ext x3 R2.sub).ext x4 R3.sub, r4, q4, fun z h5 v5 H5 A5 μ5 q5 x5 R5 r5 => ?_⟩
      have x15 := (x13.trans x4).trans x5
      split at q5
      · rename_i k5
        refine ⟨k5, repW_bool r5, ?_⟩
        cases k5 with
        | true =>
          rw [if_pos rfl] at q5 ⊢
          refine ⟨δ, h5, A5, μ5, _, ⟨R5, R.2.ext x15 R.1.sub⟩, q5, fun u6 h6 v6 H6 A6 μ6 q6 x6 R6 r6 => ?_⟩
          exact ⟨u4, u6, h6, A6, μ6, k, R6, (r4.ext x5 R4.sub).ext x6 R5.sub, r6, q6, fun z h7 v7 H7 A7 μ7 q7 x7 R7 r7 => c z h7 v7 H7 A7 μ7 q7 ((x15.trans x6).trans x7) R7 r7⟩
        | false =>
          rw [if_neg Bool.false_ne_true] at q5 ⊢
          exact c _ h5 _ H5 A5 μ5 q5 x15 R5 repW_bl
      · exact q5.elim
    | false =>
      rw [if_neg Bool.false_ne_true] at q3 ⊢
      exact c _ h3 _ H3 A3 μ3 q3 x13 R3 repW_bl
  · exact q3.elim
end
end DL

set_option Elab.async false
set_option linter.all false
set_option autoImplicit false
set_option maxRecDepth 100000
set_option maxHeartbeats 4000000
/-! errors of one's own: raised, passed on, caught (own work) -/
namespace L2
open PySem PySem.Spec PyProof.Rows
section
variable {P : Program} {w : World} {H H' : Hp} {h h' : Heap} {a : Addr} {o : HO}
theorem ObjOk.ex (x : ObjOk P w H h a o) : ∃ u, h.get? a = some u := by
  cases o with
  | lst xs => obtain ⟨_, _, _, _, e⟩ := x; exact ⟨_, e⟩
  | tup xs => obtain ⟨_, _, _, ob, e, _⟩ := x; exact ⟨_, e⟩
  | dK kvs => obtain ⟨_, _, _, _, ob, _, _, e, _⟩ := x; exact ⟨_, e⟩
  | dT kvs => obtain ⟨_, _, _, _, ob, _, _, e, _⟩ := x; exact ⟨_, e⟩
  | set S n => obtain ⟨ob, _, _, _, e, _⟩ := x; exact ⟨_, e⟩
  | ins C dx fs => obtain ⟨_, _, _, e, _⟩ := x; exact ⟨_, e⟩
  | own y => exact x
  | xd fs => obtain ⟨_, ⟨ob, _, _, e, _⟩, _⟩ := x; exact ⟨_, e⟩
  | rng lo hi => obtain ⟨_, _, _, e⟩ := x; exact ⟨_, e⟩
  | frz ob u => exact ⟨_, x.1⟩
  | tbl ps => exact ⟨_, show h.get? a = some _ from x⟩
  | met f y => exact ⟨_, show h.get? a = some _ from x⟩
  | ext φ => exact x.2.1
/-- what is tracked is kept -/
theorem HOk.keptT (x : HOk P w H h) (k : ∀ b u, H b ≠ none → h.get? b = some u → h'.get? b = some u) : HOk P w H h' := fun a o e =>
  (x a o e).stay (fun b u hb q => k b u (by
    rcases hb with z | z
    · rw [z, e]; exact fun n => nomatch n
    · rw [z]; exact fun n => nomatch n) q) (fun _ q => q) fun _ _ q => q
theorem HOk.exT (x : HOk P w H h) (n : H a ≠ none) : ∃ u, h.get? a = some u := by
  cases z : H a with
  | none => exact absurd z n
  | some o' => exact (x a o' z).ex
end
theorem frs_cons {env : Env} {l : List Env} {L : Addr} (hf : env.frame = some L) : frs (env :: l) = L :: frs l := by
  show List.filterMap _ _ = _
  rw [List.filterMap_cons, hf]
  rfl
/-- an error of the class at C on its way: what it left, and that all else of the heap stands in B -/
structure Flies (P : Program) (w : World) (C : Addr) (outer : List Env) (H : Hp) (s : Shared) (E : XK) (ea : Addr) (H' : Hp) (s' : Shared) : Prop where
  os : s'.os = s.os
  bare : AllBare s'.gens
  un : Un (frs outer) [] H H' s.heap s'.heap
  hok : HOk P w H' s'.heap
  want : E (.ref C) none H'
  fly : ∃ B t, Heap.FlyingW B outer ea (.ref C) (.ref t) s'.heap ∧ ∀ b o, s'.heap.get? b = some o → b ∉ frs outer → (H' b ≠ none ∨ ∃ u, s.heap.get? b = some u) → B.get? b = some o
def CXN (P : Program) (w : World) (C : Addr) : CXT := fun outer H s E e s' => ∃ ea H', e = .ref ea ∧ Flies P w C outer H s E ea H' s'
/-- the context of a def's body -/
structure Cx.Body (X : Cx) : Prop where
  st : X.stack = X.env :: X.outer
  fr : X.env.frame = some X.env.locals
  ex : X.ex = []
section
variable {X : Cx} {C : Addr} {E E' : XK} {Ex : Value → Shared → Prop} {pins : List (Addr × Obj)} {σ : St} {H H' : Hp} {s s' : Shared} {h1 : Heap} {e : Addr} {vs : List Value}
theorem Inv.neL (I : Inv X pins σ H s) {b : Addr} {o : Obj} (q : X.s₀.heap.get? b = some o) : b ≠ X.env.locals := Nat.ne_of_lt (Nat.lt_of_lt_of_le (Heap.lt_size q) I.ok.above)
theorem Cx.Body.fs (b : X.Body) : frs X.stack = X.env.locals :: frs X.outer := by rw [b.st]; exact frs_cons b.fr
theorem Cx.Body.out (b : X.Body) {a : Addr} (h1 : a ≠ X.env.locals) (h2 : a ∉ frs X.outer) : a ∉ frs X.stack := fun z => by
  rw [b.fs] at z
  exact (List.mem_cons.mp z).elim h1 h2
/-- raised here: it leaves the frame -/
theorem fly_made (I : Inv X pins σ H s) (b : X.Body) (hx : Heap.MadeExcOf s.heap h1 e (.ref C) vs) (want : E (.ref C) none H) :
    wpAny (model X.prog X.w) X.A (leaving X.env (.ref e)) (fun _ s'' => CXN X.prog X.w C X.outer X.H₀ X.s₀ E (.ref e) s'') Ex { s with heap := h1 } := by
  have hst := I.stack
  have fr : s.heap.FunFrames (PySem.W.hideAll s.heap (frs X.stack)) (X.env :: X.outer) := by
    have := PySem.W.funFrames_hide (as := frs X.stack) hst fun env he a ha => List.mem_filterMap.mpr ⟨env, he, ha⟩
    rwa [b.st] at this ⊢
  have kB : ∀ a o, s.heap.get? a = some o → a ∉ frs X.stack → (PySem.W.hideAll s.heap (frs X.stack)).get? a = some o := fun a o q n => PySem.W.hideAll_get _ q n
  have ub : Un X.fs [] X.H₀ H X.s₀.heap s.heap := by have := I.base; rwa [b.ex] at this
  have nil : ∀ a : Addr, a ∉ ([] : List Addr) := fun a z => nomatch z
  refine wpAny_leaves_madeW (base := PySem.W.hideAll s.heap (frs X.stack)) (h := s.heap) (env := X.env) (outer := X.outer) (by rw [I.ok.frames, b.st]) b.fr (fun a o q => PySem.W.of_hideAll _ q) fr hx fun h' t fl _ _ up => ?_
  have kh : ∀ a o, s.heap.get? a = some o → a ∉ frs X.stack → h'.get? a = some o := fun a o q n => fl.1 a o (kB a o q n)
  have sl : ∀ a o, s.heap.get? a = some o → a ∈ frs X.stack → ∃ sl, h'.get? a = some { o with slots := sl } := fun a o q m => by
    obtain ⟨_, o', ho', hd⟩ := hst.mem m
    rw [q] at ho'; cases ho'
    exact up a o (hx.keeps a o q) hd
  have tr : ∀ a, H a ≠ none → a ∉ frs X.stack := fun a n m => n (I.stkFree a m)
  refine ⟨e, H, rfl, ⟨I.os, I.bare, ⟨fun a o q n ha _ => kh a o (ub.keep a o q n ha (nil a)) (b.out (I.neL q) ha), fun a o q n ha _ => ?_, fun a o q n _ => ub.free a o q n (nil a), fun a o q _ => ?_, ub.tups, ub.frzs, ub.tbls⟩, I.hok.keptT fun a u n q => kh a u q (tr a n), want, _, t, fl, fun a o q na hc => ?_⟩⟩
  · obtain ⟨s1, e1⟩ := ub.slot a o q n ha (nil a)
    obtain ⟨s2, e2⟩ := sl a _ e1 (by rw [b.fs]; exact List.mem_cons_of_mem _ ha)
    exact ⟨s2, e2⟩
  · obtain ⟨o', e1⟩ := ub.there a o q (nil a)
    by_cases m : a ∈ frs X.stack
    · obtain ⟨s2, e2⟩ := sl a o' e1 m; exact ⟨_, e2⟩
    · exact ⟨o', kh a o' e1 m⟩
  · obtain ⟨u, hu⟩ : ∃ u, s.heap.get? a = some u := hc.elim (fun n => I.hok.exT n) fun ⟨u, q0⟩ => ub.there a u q0 (nil a)
    have na' : a ∉ frs X.stack := hc.elim (tr a) fun ⟨u, q0⟩ => b.out (I.neL q0) na
    have z := kh a u hu na'
    rw [q] at z; cases z
    exact kB a _ hu na'
/-- raised by a callee: it leaves this frame too -/
theorem fly_on {ea : Addr} (I : Inv X pins σ H s) (b : X.Body) (F : Flies X.prog X.w C X.stack H s E ea H' s') (want : E' (.ref C) none H') :
    wpAny (model X.prog X.w) X.A (leaving X.env (.ref ea)) (fun _ s'' => CXN X.prog X.w C X.outer X.H₀ X.s₀ E' (.ref ea) s'') Ex s' := by
  obtain ⟨B, t, fl, pr⟩ := F.fly
  have ub : Un X.fs [] X.H₀ H X.s₀.heap s.heap := by have := I.base; rwa [b.ex] at this
  have nil : ∀ a : Addr, a ∉ ([] : List Addr) := fun a z => nomatch z
  have fl0 : Heap.FlyingW B (X.env :: X.outer) ea (.ref C) (.ref t) s'.heap := by rw [← b.st]; exact fl
  refine wpAny_leaves_onW (env := X.env) (outer := X.outer) (by rw [I.ok.frames, b.st]) b.fr fl0 fun h' fl' up => ?_
  have kh : ∀ a o, s'.heap.get? a = some o → a ∉ frs X.stack → (H' a ≠ none ∨ ∃ u, s.heap.get? a = some u) → h'.get? a = some o := fun a o q n hc => fl'.1 a o (pr a o q n hc)
  have sl : ∀ a o, s'.heap.get? a = some o → a ∈ frs X.stack → ∃ sl, h'.get? a = some { o with slots := sl } := fun a o q m => by
    obtain ⟨_, o', ho', hd⟩ := fl.2.2.1.mem m
    rw [q] at ho'; cases ho'
    exact up a o q hd
  have tr : ∀ a, H' a ≠ none → a ∉ frs X.stack := fun a n m => by
    obtain ⟨_, o', ho', _⟩ := I.stack.mem m
    exact n (F.un.free a o' ho' (I.stkFree a m) (nil a))
  have hv : ∀ a u, X.s₀.heap.get? a = some u → ∃ u', s'.heap.get? a = some u' ∧ ∃ u'', s.heap.get? a = some u'' := fun a u q => by
    obtain ⟨o1, e1⟩ := ub.there a u q (nil a)
    obtain ⟨o2, e2⟩ := F.un.there a o1 e1 (nil a)
    exact ⟨o2, e2, o1, e1⟩
  refine ⟨ea, H', rfl, ⟨F.os.trans I.os, F.bare, ⟨fun a o q n ha _ => ?_, fun a o q n ha _ => ?_, fun a o q n _ => ?_, fun a o q _ => ?_, fun a xs q => F.un.tups a xs (ub.tups a xs q), fun a o u q => F.un.frzs a o u (ub.frzs a o u q), fun a ps q => ?_⟩, F.hok.keptT fun a u n q => kh a u q (tr a n) (.inl n), want, B, t, fl', fun a o q na hc => ?_⟩⟩
  · have e1 := ub.keep a o q n ha (nil a)
    have na := b.out (I.neL q) ha
    exact kh a o (F.un.keep a o e1 (ub.free a o q n (nil a)) na (nil a)) na (.inr ⟨o, e1⟩)
  · obtain ⟨s1, e1⟩ := ub.slot a o q n ha (nil a)
    have m : a ∈ frs X.stack := by rw [b.fs]; exact List.mem_cons_of_mem _ ha
    obtain ⟨s2, e2⟩ := F.un.slot a _ e1 (ub.free a o q n (nil a)) m (nil a)
    obtain ⟨s3, e3⟩ := sl a _ e2 m
    exact ⟨s3, e3⟩
  · obtain ⟨o1, e1⟩ := ub.there a o q (nil a)
    exact F.un.free a o1 e1 (ub.free a o q n (nil a)) (nil a)
  · obtain ⟨u', e', ou⟩ := hv a o q
    by_cases m : a ∈ frs X.stack
    · obtain ⟨s2, e2⟩ := sl a u' e' m; exact ⟨_, e2⟩
    · exact ⟨u', kh a u' e' m (.inr ou)⟩
  · obtain ⟨m1, e1⟩ := ub.tbls a ps q
    obtain ⟨m2, e2⟩ := F.un.tbls a _ e1
    exact ⟨m1 ++ m2, by rw [e2, Array.append_assoc]⟩
  · have na' : a ∉ frs X.stack := hc.elim (tr a) fun ⟨u, q0⟩ => b.out (I.neL q0) na
    have hc' : H' a ≠ none ∨ ∃ u, s.heap.get? a = some u := hc.elim .inl fun ⟨u, q0⟩ => by obtain ⟨_, _, u2, e2⟩ := hv a u q0; exact .inr ⟨u2, e2⟩
    obtain ⟨u, hu⟩ : ∃ u, s'.heap.get? a = some u := hc.elim (fun n => F.hok.exT n) fun ⟨u, q0⟩ => by obtain ⟨u', e', _⟩ := hv a u q0; exact ⟨u', e'⟩
    have z := kh a u hu na' hc'
    rw [q] at z; cases z
    exact pr a _ hu na' hc'
end
section
variable {X : Cx} {CX : CXT} {k : Nat} {f C : Addr} {fd : FuncData} {ps : List Str} {sp : Sp} {E : XK} {Ex : Value → Shared → Prop} {x : Str} {p pos epos : Pos} {e : Expr} {es : List Expr} {t : TA}
/-- f(..), which raises -/
theorem call_raises {pins : List (Addr × Obj)} {σ : St} {H : Hp} {s : Shared} (F : FnOk X.prog X.w X.K X.mg X.base CX k f fd ps sp) (hr : Room k X.A) (hg : Gl X x) (hm : X.mg x = some (.ref f)) (hk : PySem.W.keepIn X.K (.ref f) = true) (hb : Binds X.K fd ps [])
    (ha : PA (X.wish Ex) (e :: es) t) (I : Inv X pins σ H s) (q : t σ H fun vs H1 => sp vs H1 (fun _ _ => False) E) (hE : ∀ H1 s1 ex s', Inv X pins σ H1 s1 → CX X.stack H1 s1 E ex s' → Ex ex s')
    (hdb : (x == ("__debug__" : Str)) = false := by decide) (he : starEach (e :: es) X.env = (false, eval e X.env) :: starEach es X.env := by rfl) (hpl : (backTo pos (starEach es X.env)).any (·.1) = false := by rfl) :
    wpAny (model X.prog X.w) X.A (eval (.Call (.Name x p) (e :: es) [] pos) X.env) (fun _ _ => False) Ex s := by
  refine wpAny_Call_Name_kw (ld_glob I hg hm ?_ hdb)
  refine PySem.W.callWith_K (h₀ := X.base) I.ok.mod.kin hk (thn (ha pos pins s σ H _ (I.wish Ex) q) fun us s1 ⟨vs, H1, I1, r, q1⟩ => ⟨I1.kIn, ?_⟩) he hpl
  have I2 : Inv X pins σ H1 s1 := I1.unwish
  have hl : us.length = ps.length := by rw [← r.length]; exact F.len _ _ _ _ q1
  have hb2 : BindsTo s1 fd ⟨us, []⟩ (ps.zip us) := by
    have := hb s1 us I2.kIn (by rw [List.append_nil]; exact hl)
    rwa [List.append_nil] at this
  refine wpAny_call (codeAny_mono (F.run X.A X.stack s1 H1 ⟨us, []⟩ us vs _ E hr I2.env0 hb2 r q1) fun r s' hq => ?_)
  cases r with
  | error ex => exact hE H1 s1 ex s' I2 hq
  | ok fl =>
    cases fl with
    | ret u => obtain ⟨_, _, _, _, _, _, _, z⟩ := hq; exact False.elim z
    | next => exact False.elim hq
    | brk => exact False.elim hq
    | cont => exact False.elim hq
theorem ps_callX (F : FnOk X.prog X.w X.K X.mg X.base CX k f fd ps sp) (hr : Room k X.A) (hm : X.mg x = some (.ref f)) (hk : PySem.W.keepIn X.K (.ref f) = true) (hb : Binds X.K fd ps []) (ha : PA X (e :: es) t)
    (hx : ∀ pins σ H1 s1 ex s', Inv X pins σ H1 s1 → CX X.stack H1 s1 E ex s' → X.xe ex s') (hg : Gl X x := by rfl) (hs : swapsWith (.Call (.Name x p) (e :: es) [] pos) none epos.line X.env = pure false := by rfl)
    (hdb : (x == ("__debug__" : Str)) = false := by decide) (he : starEach (e :: es) X.env = (false, eval e X.env) :: starEach es X.env := by rfl) (hpl : (backTo pos (starEach es X.env)).any (·.1) = false := by rfl) :
    PS X (.Expr (.Call (.Name x p) (e :: es) [] pos) epos) (fun _ σ H => t σ H fun vs H1 => sp vs H1 (fun _ _ => False) E) := by
  intro pins s σ H D I q
  exact wpAny_Expr_any (wpAny_mono (call_raises (Ex := X.xe) F hr hg hm hk hb ha I q (fun H1 s1 ex s' I1 z => hx pins σ H1 s1 ex s' I1 z) hdb he hpl) (fun _ _ z => z.elim) fun _ _ z => z) I.quiet hs
/-- raise C(..) -/
theorem ps_raise {np : Pos} {B newId initId : String} {bmB : List Value} {EX : Hp → Prop} (O : OwnCls x C bmB newId X.mg X.base) (FB : ExcBaseFacts B newId initId bmB) (ha : PA X (e :: es) t)
    (hx : ∀ pins σ H s h' ea vs, Inv X pins σ H s → EX H → Heap.MadeExcOf s.heap h' ea (.ref C) vs → X.xe (.ref ea) { s with heap := h' }) (hc : X.calm = true := by rfl)
    (hg : Gl X x := by rfl) (hdb : (x == ("__debug__" : Str)) = false := by decide) (he : starEach (e :: es) X.env = (false, eval e X.env) :: starEach es X.env := by rfl) (hpl : (backTo pos (starEach es X.env)).any (·.1) = false := by rfl) :
    PS X (.Raise (some (.Call (.Name x np) (e :: es) [] pos)) none epos) (fun _ σ H => t σ H fun vs H1 => vs.length ≤ sizeLine ∧ EX H1) := by
  intro pins s σ H D I q
  obtain ⟨tl, N, nm, qn, bs, hdct, sn, sub, ab, col, dd, k0, k1, k2, k3, k5, mN, hC, hN, hni, T⟩ := O.obj
  have hall : (backTo pos (starEach (e :: es) X.env)).any (·.1) = false := by
    rw [he]
    show (false || (backTo pos (starEach es X.env)).any (·.1)) = false
    rw [hpl]; rfl
  refine wpAny_Raise_call_subT (C := C) (N := N) (nm := nm) (q := qn) (bs := bs) (bm := tl) (hdct := hdct) (sn := sn) (sub := sub) (ab := ab) (col := col) (dd := dd) (k0 := k0) (k1 := k1) (k2 := k2) (k3 := k3) (k5 := k5) (mN := mN) FB (T.hasType FB.hasBase) (I.ok.hd hc) hall hni (ld_glob I hg O.bound ⟨rfl, ?_⟩ hdb)
  have hq := ha pos pins s σ H _ I q
  rw [he] at hq ⊢
  exact Calls.evalArgs_plain (thn hq fun us s2 ⟨vs, H2, I2, r, z, w⟩ => ⟨rfl, by rw [← r.length]; exact z, I2.bk _ _ hC, hN.keeps I2.bk, T.keeps I2.bk, fun h' ea hm => hx pins σ H2 s2 h' ea us I2 w hm⟩)
end
/-! ### within an except suite -/
abbrev Cx.suite (X : Cx) (ea : Addr) (oe : Obj) : Cx := { X with A := X.A.mark (some (.ref ea)), calm := false, pn := (ea, oe) :: X.pn, xe := fun _ _ => False }
theorem Cx.Ok.suite {X : Cx} (ok : X.Ok) (ea : Addr) (oe : Obj) : (X.suite ea oe).Ok :=
  ⟨ok.mod, ok.kind, ok.glob, ok.blt, ok.above, ok.inj, ok.has, ok.cab, (fun z => nomatch z), ok.frames, ok.stk, ok.exf, ok.bs, ok.bsz, ok.noex, ok.exfs, ok.funs, ok.frf⟩
section
variable {X : Cx} {pins : List (Addr × Obj)} {σ : St} {H : Hp} {s : Shared} {ea : Addr} {oe : Obj}
theorem Inv.suite (I : Inv X pins σ H s) (h1 : s.heap.get? ea = some oe) (h2 : H ea = none) (h3 : ea ≠ X.env.locals) (h4 : ea ∉ X.fs) (h5 : ∀ v, oe.data ≠ .cell v) : Inv (X.suite ea oe) pins σ H s :=
  ⟨I.ok.suite ea oe, I.os, I.bare, I.base, I.loc, I.cell, I.free, I.freeC, fun p hp => by
    rcases List.mem_cons.mp hp with z | z
    · rw [z]; exact ⟨h1, h2, h3, h4, h5⟩
    · exact I.pin p z, I.hok, I.len⟩
theorem Inv.unsuite (I : Inv (X.suite ea oe) pins σ H s) (ok : X.Ok) : Inv X pins σ H s :=
  ⟨ok, I.os, I.bare, I.base, I.loc, I.cell, I.free, I.freeC, fun p hp => I.pin p (List.mem_cons_of_mem _ hp), I.hok, I.len⟩
/-- the name of an except clause goes -/
theorem goes_ok {A : Around} {Ex : Value → Shared → Prop} {i : Nat} {n : Str} {pos : Pos} {Q : Unit → Shared → Prop} (I : Inv X pins σ H s) (hN : X.N.Nodup) (hi : X.N[i]? = some n) (hk : X.env.scope.names.lookup n = some .local)
    (h : ∀ s', Inv X pins (σ.set i none) H s' → Q () s') : wpAny (model X.prog X.w) A (do bindName X.env n .none; unbindBehindTheSuite X.env n pos) Q Ex s := by
  obtain ⟨m, hn, hl⟩ := id I.loc
  refine wpAny_nameGoes_keeps (m := m) hk hn (by rw [I.ok.kind]; rfl) fun h' v hn' hs => h _ ?_
  have far : ∀ a, a ≠ X.env.locals → h'.get? a = s.heap.get? a := fun a z => hs.2 a z
  have trk : ∀ a, H a ≠ none → a ≠ X.env.locals := fun a z q => z (by rw [q]; exact I.free)
  refine ⟨I.ok, I.os, I.bare, ⟨fun a o q n1 ha hx => ?_, fun a o q n1 ha hx => ?_, I.base.free, fun a o q hx => ?_, I.base.tups, I.base.frzs, I.base.tbls⟩, ⟨_, hn', fun j y v' e1 e2 e3 => ?_⟩, fun y c e => ?_, I.free, I.freeC, fun p hp => ?_,
    I.hok.keptT fun a u z q => by rw [far a (trk a z)]; exact q, by rw [List.length_set]; exact I.len⟩
  · rw [far a (I.neL q)]; exact I.base.keep a o q n1 ha hx
  · rw [far a (I.neL q)]; exact I.base.slot a o q n1 ha hx
  · rw [far a (I.neL q)]; exact I.base.there a o q hx
  · have hj : i ≠ j := by
      intro z
      subst z
      have hlt : i < σ.length := by
        have := (List.getElem?_eq_some_iff.mp e2).1
        rwa [List.length_set] at this
      rw [List.getElem?_set_self hlt] at e2
      cases e2
    rw [List.getElem?_set_ne hj] at e2
    obtain ⟨u, r, lk⟩ := hl j y v' e1 e2 e3
    refine ⟨u, r, ?_⟩
    rcases lk with ⟨z1, z2⟩ | ⟨z1, c, z2, o, z3, z4⟩
    · refine .inl ⟨z1, ?_⟩
      have ny : y ≠ n := by
        intro z
        subst z
        have a1 := List.getElem?_eq_some_iff.mp e1
        have a2 := List.getElem?_eq_some_iff.mp hi
        exact hj ((List.getElem_inj hN).mp (a2.2.trans a1.2.symm))
      show (if y = n then v else m y) = some u
      rw [if_neg ny]; exact z2
    · exact .inr ⟨z1, c, z2, o, by rw [far c (I.cne y c z2)]; exact z3, z4⟩
  · obtain ⟨v, o, ho, hd⟩ := I.cell y c e
    exact ⟨v, o, by rw [far c (I.cne y c e)]; exact ho, hd⟩
  · obtain ⟨p1, p2, p3, p4, p5⟩ := I.pin p hp
    exact ⟨by rw [far _ p3]; exact p1, p2, p3, p4, p5⟩
end
def offI (i : Nat) (D : Ends) : Ends where
  nx := fun σ H => D.nx (σ.set i none) H
  rt := D.rt
  bk := fun σ H => D.bk (σ.set i none) H
  ct := fun σ H => D.ct (σ.set i none) H
section
variable {X : Cx} {k : Nat} {f C CJ : Addr} {fd : FuncData} {ps : List Str} {sp : Sp} {x n J : Str} {p pos epos jp hpos tpos : Pos} {e : Expr} {es : List Expr} {t : TA} {i : Nat} {b₀ : Stmt} {su : List Stmt} {ts : Addr → TS}
/-- try: f(..) except J as n: suite, where f raises -/
theorem ps_try (F : FnOk X.prog X.w X.K X.mg X.base (CXN X.prog X.w C) k f fd ps sp) (b : X.Body) (hr : Room k X.A) (hm : X.mg x = some (.ref f)) (hk : PySem.W.keepIn X.K (.ref f) = true) (hb : Binds X.K fd ps [])
    (ha : ∀ Ex, PA (X.wish Ex) (e :: es) t) (hmJ : X.mg J = some (.ref CJ)) (hJ : PySem.W.exmOne X.K (.ref C) (.ref CJ) = some true) (hN : X.N.Nodup) (hi : X.N[i]? = some n) (hl : X.env.scope.names.lookup n = some .local)
    (hsu : ∀ ea oe, oe.cls = .ref C → (∃ vs, oe.data = .fields vs) → PSs (X.suite ea oe) (b₀ :: su) (ts ea)) (hg : Gl X x := by rfl) (hgJ : Gl X J := by rfl)
    (hs : swapsWith (.Call (.Name x p) (e :: es) [] pos) none epos.line X.env = pure false := by rfl) (hdb : (x == ("__debug__" : Str)) = false := by decide) (hdJ : (J == ("__debug__" : Str)) = false := by decide)
    (he : starEach (e :: es) X.env = (false, eval e X.env) :: starEach es X.env := by rfl) (hpl : (backTo pos (starEach es X.env)).any (·.1) = false := by rfl) :
    PS X (.Try [.Expr (.Call (.Name x p) (e :: es) [] pos) epos] [.ExceptHandler (some (.Name J jp)) (some n) (b₀ :: su) hpos] [] [] tpos)
      (fun D σ H => ∃ E : XK, (t σ H fun vs H1 => sp vs H1 (fun _ _ => False) E) ∧ ∀ H2, E (.ref C) none H2 → ∀ ea, ts ea (offI i D) (σ.set i (some (.ref ea))) H2) := by
  intro pins s σ H D I ⟨E, q, hE⟩
  refine wpAny_Try_except ?_
  refine wpAny_execs_cons (wpAny_Expr_any (wpAny_mono (call_raises F hr hg hm hk hb (ha _) I q (fun H1 s1 ex s' I1 hq => ?_) hdb he hpl) (fun _ _ z => z.elim) fun _ _ z => z) I.quiet hs)
  obtain ⟨ea, H2, rfl, Fl⟩ := hq
  obtain ⟨B, tt, fl, pr⟩ := Fl.fly
  have nil : ∀ a : Addr, a ∉ ([] : List Addr) := fun a z => nomatch z
  have fl0 : Heap.FlyingW B (X.env :: X.outer) ea (.ref C) (.ref tt) s'.heap := by rw [← b.st]; exact fl
  have tr : ∀ a, H2 a ≠ none → a ∉ frs X.stack := fun a z m => by
    obtain ⟨_, o', ho', _⟩ := I1.stack.mem m
    exact z (Fl.un.free a o' ho' (I1.stkFree a m) (nil a))
  have inv : ∀ h' tk, B.StaysIn h' → s'.heap.UpToSlots h' → Inv X pins σ H2 { s' with heap := h', toks := tk } := fun h' tk hB up => by
    have sl : ∀ a o, s'.heap.get? a = some o → a ∈ frs X.stack → ∃ sl, h'.get? a = some { o with slots := sl } := fun a o q m => by
      obtain ⟨_, o', ho', hd⟩ := fl.2.2.1.mem m
      rw [q] at ho'; cases ho'
      exact up a o q hd
    refine I1.call' (ch := []) Fl.os ⟨fun a o q z ha _ => ?_, fun a o q z ha _ => ?_, Fl.un.free, fun a o q _ => ?_, Fl.un.tups, Fl.un.frzs, Fl.un.tbls⟩ (Fl.hok.keptT fun a u z q => hB a u (pr a u q (tr a z) (.inl z))) Fl.bare fun a z => nomatch z
    · exact hB a o (pr a o (Fl.un.keep a o q z ha (nil a)) ha (.inr ⟨o, q⟩))
    · obtain ⟨s2, e2⟩ := Fl.un.slot a o q z ha (nil a)
      obtain ⟨s3, e3⟩ := sl a _ e2 ha
      exact ⟨s3, e3⟩
    · obtain ⟨o2, e2⟩ := Fl.un.there a o q (nil a)
      by_cases m : a ∈ frs X.stack
      · obtain ⟨s3, e3⟩ := sl a o2 e2 m; exact ⟨_, e3⟩
      · exact ⟨o2, hB a o2 (pr a o2 e2 m (.inr ⟨o, q⟩))⟩
  have nS : ea ∉ frs X.stack := fun m => by
    obtain ⟨_, o, ho, hd⟩ := fl.2.2.1.mem m
    obtain ⟨oe, vs, he, _, hd', _⟩ := fl.first
    rw [he] at ho; cases ho
    exact hd vs hd'
  have nH : H2 ea = none := by
    cases z : H2 ea with
    | none => rfl
    | some o =>
      have z' : H2 ea ≠ none := by rw [z]; exact fun y => nomatch y
      obtain ⟨u, hu⟩ := Fl.hok.exT z'
      have y := pr ea u hu nS (.inl z')
      rw [fl.2.1] at y; cases y
  have nL : ea ≠ X.env.locals := fun z => nS (by rw [b.fs, z]; exact List.mem_cons_self)
  have nF : ea ∉ X.fs := fun z => nS (by rw [b.fs]; exact List.mem_cons_of_mem _ z)
  refine wpAny_looks_onW (env := X.env) (outer := X.outer) (by rw [I.ok.frames, b.st]) b.fr fl0 fun h4 held4 up4 => ?_
  refine wpAny_landsW held4 fun h5 fl5 up5 => ?_
  have I5 := inv h5 s'.toks fl5.1 (up4.trans up5)
  obtain ⟨oe5, ws5, he5, hc5, hd5, _⟩ := fl5.first
  have I5s := I5.suite (ea := ea) (oe := oe5) he5 nH nL nF (fun v z => by rw [hd5] at z; cases z)
  refine wpAny_handleBy_cons (codeAny_handlers_test (ld_glob (X := X.suite ea oe5) I5s hgJ hmJ ?_ hdJ)) (by intro q; cases q)
  have LT : PySem.W.Looks (model X.prog X.w) h5 (typeOf (.ref ea)) (.ref C) := hc5 ▸ (PySem.W.Looks.ld he5).andThen .now
  refine (PySem.W.exm_one (K := X.K) I5.kIn LT hJ).here ?_
  refine codeAny_handlers_suite_as ?_
  refine lands_againW fl5 fun h6 fl6 up6 => ?_
  have I6 := inv h6 s'.toks fl6.1 ((up4.trans up5).trans up6)
  obtain ⟨oe, ws, he6, hc6, hd6, _⟩ := fl6.first
  have I6s := I6.suite (ea := ea) (oe := oe) he6 nH nL nF (fun v z => by rw [hd6] at z; cases z)
  refine store_ok (X := X.suite ea oe) (v := .ref ea) I6s hN hi (.inl hl) rfl (fun s7 I7 => ?_) (.inr hl)
  refine wpAny_mono (hsu ea oe hc6 ⟨ws, hd6⟩ pins s7 _ H2 (offI i D) I7 (hE H2 Fl.want ea)) (fun fl s8 hq => ?_) fun _ _ z => z.elim
  cases fl with
  | next => obtain ⟨σ8, H8, I8, q8⟩ := hq; exact goes_ok (I8.unsuite I.ok) hN hi hl fun s9 I9 => ⟨_, H8, I9, q8⟩
  | brk => obtain ⟨σ8, H8, I8, q8⟩ := hq; exact goes_ok (I8.unsuite I.ok) hN hi hl fun s9 I9 => ⟨_, H8, I9, q8⟩
  | cont => obtain ⟨σ8, H8, I8, q8⟩ := hq; exact goes_ok (I8.unsuite I.ok) hN hi hl fun s9 I9 => ⟨_, H8, I9, q8⟩
  | ret u => obtain ⟨v, σ8, H8, I8, rv, q8⟩ := hq; exact goes_ok (I8.unsuite I.ok) hN hi hl fun s9 I9 => ⟨v, _, H8, I9, rv, q8⟩
end
end L2

set_option Elab.async false
set_option linter.all false
set_option autoImplicit false
set_option maxRecDepth 100000
set_option maxHeartbeats 4000000
namespace L2
open PySem PySem.Spec PyProof.Rows
/-! ### isinstance of an error of one's own -/
section
variable {prog : Program} {w : World} {A : Around} {E : Value → Shared → Prop} {h : Heap} {g : Array GenState} {d : Drawn} {t : Nat} {os : OsState} {K : PySem.W.Frag} {x C : Addr} {ox : Obj}
/-- what is asked of the class at C -/
structure XCls (K : PySem.W.Frag) (C : Addr) : Prop where
  ga : PySem.W.findIn K (.ref C) "__getattribute__" = some (some (.builtin "BaseException.__getattribute__"))
  gn : PySem.W.findIn K (.ref C) "__getattr__" = some none
  cl : PySem.W.findIn K (.ref C) "__class__" = some (some (.builtin "object.__class__"))
  be : PySem.W.mroIn K C (.type "BaseException") = some true
  ob : PySem.W.mroIn K C (.type "object") = some true
theorem xc_get {tp : Value} {R : Result → Shared → Prop} (Z : XCls K C) (X : K.In h) (hx : h.get? x = some ox) (hc : ox.cls = .ref C) (hq : R (.ok (.ret (.ref C))) ⟨h, g, d, t, os⟩) :
    codeAny (model prog w) A (.call (.builtin "getset_descriptor.__get__") ⟨[.builtin "object.__class__", .ref x, tp], []⟩) R ⟨h, g, d, t, os⟩ := by
  have L0 : PySem.W.Looks (model prog w) h (typeOf (.ref x)) (.ref C) := hc ▸ (PySem.W.Looks.ld hx).andThen .now
  have L1 : PySem.W.Looks (model prog w) h (isSubtype (.ref C) (.type "object")) true := PySem.W.looks_mroIn X Z.ob
  have hT5 : (⟨h, g, d, t, os⟩ : Shared).TypeIs (.builtin "object.__class__") "getset_descriptor" := F.typeOf_object_class
  have ow := F.owner_object_class
  refine codeAny_call_builtin F.slot_gs_get.plain F.entry_gs_get ?_
  refine F.slot_gs_get.check _ _ _ _ _ _ _ _ hT5 (F.args_gs_get _ _ _) ?_
  repeat (any_goals (first | assumption | (with_reducible refine wpAny_loadPart_at hx ?_; rw [hc]) | (rw [ow]; with_reducible refine L1.at ?_) | with_reducible refine L1.at ?_ | wp_step))
  refine ⟨Code.quiet_builtin _ (by decide +kernel), codeAny_builtin F.entry_object_class ?_⟩
  repeat (any_goals (first | assumption | (with_reducible refine wpAny_loadPart_at hx ?_; rw [hc]) | wp_step))
theorem xc_entry {tk : Tok} {Q : Fin → Shared → Prop} (Z : XCls K C) (X : K.In h) (hx : h.get? x = some ox) (hc : ox.cls = .ref C) (hq : Q (.done (.ret (.ref C))) ⟨h, g, d, t, os⟩) :
    wpAny (model prog w) A (Builtin.«object.__getattribute__» ⟨[.ref x, .str "__class__" tk], []⟩) Q E ⟨h, g, d, t, os⟩ := by
  have L6 : PySem.W.Looks (model prog w) h (typeLookup (.ref C) "__class__") (some (.builtin "object.__class__")) := PySem.W.looks_findIn X Z.cl
  have hT5 : (⟨h, g, d, t, os⟩ : Shared).TypeIs (.builtin "object.__class__") "getset_descriptor" := F.typeOf_object_class
  have f5 := F.typeOf_object_class
  have f6 := F.slot_gs_get.lookup
  have f7 := F.slot_gs_set.lookup
  repeat (any_goals (first | assumption | (with_reducible refine wpAny_loadPart_at hx ?_; rw [hc]) | with_reducible refine L6.at ?_ | wp_step))
  refine xc_get Z X hx hc ?_
  repeat (any_goals (first | assumption | wp_step))
theorem xc_check {M : Model} {nameV : Value} {Q : Unit → Shared → Prop} (Z : XCls K C) (X : K.In h) (hx : h.get? x = some ox) (hc : ox.cls = .ref C) (hq : Q () ⟨h, g, d, t, os⟩) :
    wpAny M A (checkBuiltinCall "BaseException.__getattribute__" ⟨[.ref x, nameV], []⟩) Q E ⟨h, g, d, t, os⟩ := by
  have k1 : builtinKind "BaseException.__getattribute__" = some .slot := by decide +kernel
  have k2 : splitId "BaseException.__getattribute__" = some ("BaseException", "__getattribute__") := by decide +kernel
  have L3 : PySem.W.Looks M h (isSubtype (.ref C) (.type "BaseException")) true := PySem.W.looks_mroIn X Z.be
  have k3 := F.args_bexc_ga (.ref x) nameV
  simp only [checkBuiltinCall, k1, k2]
  unfold isInstance
  repeat (any_goals (first | assumption | (with_reducible refine wpAny_loadPart_at hx ?_; rw [hc]) | with_reducible refine L3.at ?_ | wp_step))
theorem xc_by {tk : Tok} {Q : Value → Shared → Prop} (FB : Slot "ValueError" "__getattribute__" "BaseException.__getattribute__") (Z : XCls K C) (X : K.In h) (hx : h.get? x = some ox) (hc : ox.cls = .ref C) (hq : Q (.ref C) ⟨h, g, d, t, os⟩) :
    wpAny (model prog w) A (getAttrBy (.ref x) (.str "__class__" tk) false) Q E ⟨h, g, d, t, os⟩ := by
  have L4 : PySem.W.Looks (model prog w) h (typeLookup (.ref C) "__getattribute__") (some (.builtin "BaseException.__getattribute__")) := PySem.W.looks_findIn X Z.ga
  have L5 : PySem.W.Looks (model prog w) h (typeLookup (.ref C) "__getattr__") none := PySem.W.looks_findIn X Z.gn
  have f3 := FB.bind (.ref x)
  have y2 : (Value.builtin "BaseException.__getattribute__" == Value.builtin "object.__getattribute__") = false := by decide +kernel
  have y1 : (onTheHeap (Value.ref C) && Value.builtin "BaseException.__getattribute__" == Value.builtin "object.__getattribute__") = false := by rw [y2]; rfl
  repeat (any_goals (first | assumption | (with_reducible refine wpAny_loadPart_at hx ?_; rw [hc]) | with_reducible refine L4.at ?_ | with_reducible refine L5.at ?_ | wp_step))
  refine codeAny_call_builtin FB.plain F.entry_bexc_ga ?_
  refine xc_check Z X hx hc (xc_entry Z X hx hc ?_)
  repeat (any_goals (first | assumption | wp_step))
theorem xc_attr {Q : Option Value → Shared → Prop} (FB : Slot "ValueError" "__getattribute__" "BaseException.__getattribute__") (Z : XCls K C) (X : K.In h) (hx : h.get? x = some ox) (hc : ox.cls = .ref C) (hq : Q (some (.ref C)) ⟨h, g, d, t + 1, os⟩) :
    wpAny (model prog w) A (getAttr? (.ref x) "__class__") Q E ⟨h, g, d, t, os⟩ := by
  unfold getAttr? getAttrBy?
  repeat (any_goals (first | assumption | with_reducible apply xc_by FB Z X hx hc | wp_step))
theorem kitx_exc (FB : Slot "ValueError" "__getattribute__" "BaseException.__getattribute__") (Z : XCls K C) (hc : ox.cls = .ref C) : PySem.W.KitX K (.ref x) (.ref C) (fun h => h.get? x = some ox) where
  ty := fun M h _ hx => hc ▸ (PySem.W.Looks.ld hx).andThen .now
  it := fun M h X _ => by
    have z := Z.ob
    unfold PySem.W.mroIn at z
    obtain ⟨cd, a, _⟩ := Option.bind_eq_some_iff.mp z
    unfold PySem.W.clsIn at a
    split at a
    · rename_i ho
      intro A' Q' E' s' k q
      unfold isType loadHead
      exact wpAny_bind (wpAny_loadPart (k _ _ (X _ _ ho)) (wpAny_pure q))
    · cases a
  ne := fun h tp dd its n sl X htp => by
    refine Bool.eq_false_iff.mpr fun q => ?_
    have e : C = tp := Value.ref.inj (beq_iff_eq.mp q)
    subst e
    have z := Z.ob
    unfold PySem.W.mroIn at z
    obtain ⟨cd, a, _⟩ := Option.bind_eq_some_iff.mp z
    unfold PySem.W.clsIn at a
    split at a
    · rename_i ho
      cases (X _ _ ho).symm.trans htp
    · cases a
  ca := fun {_ _ _ _ _ s} X hx q => by
    obtain ⟨h, g, d, t, os⟩ := s
    exact xc_attr FB Z X hx hc q
end
end L2

set_option Elab.async false
set_option linter.all false
set_option autoImplicit false
set_option maxRecDepth 100000
set_option maxHeartbeats 4000000
namespace DL
open PySem PySem.Spec PyProof.Rows L2
/-! ### raised errors over plain data -/
/-- what is wanted of an error that leaves from here -/
def Wx (K : PySem.W.Frag) (C : Addr) (E : XK) (A μ : List Addr) (h : Cells) (H : Hp) : Prop := ∀ H', Ext A A μ μ H H' → HeapRep K A μ h H' → E (.ref C) none H'
theorem Wx.step {K : PySem.W.Frag} {C : Addr} {E : XK} {A A' μ μ' : List Addr} {h : Cells} {H H' : Hp} (W : Wx K C E A μ h H) (R : HeapRep K A μ h H) (x : Ext A A' μ μ' H H') : Wx K C E A' μ' h H' := fun H'' y R'' => by
  obtain ⟨z, R2⟩ := leave_ext R R'' (x.trans y)
  rw [List.take_length] at R2
  exact W H'' z R2
def upX (K : PySem.W.Frag) (C : Addr) (pre : List W → Prop) : Sp := fun vs H _ E => ∃ (ws : List W) (h : Cells) (A μ : List Addr), HeapRep K A μ h H ∧ RepWs K A μ H ws vs ∧ pre ws ∧ Wx K C E A μ h H
abbrev DTR := DSt → Cells → Prop
def upRR (K : PySem.W.Frag) (C : Addr) (E : XK) (tr : DTR) : TS := fun _ σ H => ∃ (δ : DSt) (h : Cells) (A μ : List Addr), Ab K A μ δ h σ H ∧ tr δ h ∧ Wx K C E A μ h H
/-- statements that raise -/
def DR (X : Cx) (C : Addr) (E : XK) (st : List Stmt) (tr : DTR) : Prop := PSs X st (upRR X.K C E tr)
section
variable {X : Cx} {C : Addr} {E : XK} {st : Stmt} {rest sa : List Stmt} {e c : Expr} {es : List Expr} {t : DTA} {tr : DTR} {x : Str} {p np pos epos : Pos} {f : Addr} {fd : FuncData} {ps : List Str} {k : Nat} {pre : List W → Prop} {tc : DTT} {t1 : DTS}
/-- an error leaves as E wants it -/
structure Leaves (X : Cx) (C : Addr) (E : XK) : Prop where
  made : ∀ pins σ H s h' ea vs, Inv X pins σ H s → E (.ref C) none H → Heap.MadeExcOf s.heap h' ea (.ref C) vs → X.xe (.ref ea) { s with heap := h' }
  on : ∀ pins σ H1 s1 ex s', Inv X pins σ H1 s1 → CXN X.prog X.w C X.stack H1 s1 E ex s' → X.xe ex s'
theorem leaves_cx {P : Program} {w : World} {K : PySem.W.Frag} {mg : Str → Option Value} {base : Heap} {N : List Str} {qual : Str} {scope : Scope} {cdv : Value} {A : Around} {outer : List Env} {s : Shared} {H : Hp} :
    Leaves (cxOf (CXN P w C) P w K mg base N qual scope f cdv A outer s H E) C E where
  made := fun pins σ H s h' ea vs I want hx => fly_made I ⟨rfl, rfl, rfl⟩ hx want
  on := fun pins σ H1 s1 ex s' I ⟨ea, H', e, F⟩ => by
    subst e
    exact fly_on I ⟨rfl, rfl, rfl⟩ F F.want
theorem dr_raise {B newId initId : String} {bmB : List Value} (O : OwnCls x C bmB newId X.mg X.base) (FB : ExcBaseFacts B newId initId bmB) (L : Leaves X C E) (ha : DA X (e :: es) t) (hc : X.calm = true := by rfl) (hg : Gl X x := by rfl) (hdb : (x == ("__debug__" : Str)) = false := by decide)
    (he : starEach (e :: es) X.env = (false, eval e X.env) :: starEach es X.env := by rfl) (hpl : (backTo pos (starEach es X.env)).any (·.1) = false := by rfl) :
    DR X C E [.Raise (some (.Call (.Name x np) (e :: es) [] pos)) none epos] (fun δ h => t δ h fun ws h1 => h1 = h ∧ ws.length ≤ sizeLine) :=
  pss_one (ps_mono (ps_raise (EX := fun H => E (.ref C) none H) O FB ha L.made hc hg hdb he hpl) fun D σ H ⟨δ, h, A, μ, R, q, W⟩ => ⟨δ, h, A, μ, _, R, q, fun ws h1 vs H1 A1 μ1 ⟨e1, l⟩ x1 R1 r1 => by
    subst e1
    exact ⟨by rw [repWs_len r1]; exact l, W.step R.1 x1 H1 .refl R1⟩⟩)
theorem ps_callR (F : FnOk X.prog X.w X.K X.mg X.base (CXN X.prog X.w C) k f fd ps (upX X.K C pre)) (hr : Room k X.A) (hm : X.mg x = some (.ref f)) (hk : PySem.W.keepIn X.K (.ref f) = true) (hb : Binds X.K fd ps []) (L : Leaves X C E) (ha : DA X (e :: es) t)
    (hg : Gl X x := by rfl) (hs : swapsWith (.Call (.Name x p) (e :: es) [] pos) none epos.line X.env = pure false := by rfl) (hdb : (x == ("__debug__" : Str)) = false := by decide)
    (he : starEach (e :: es) X.env = (false, eval e X.env) :: starEach es X.env := by rfl) (hpl : (backTo pos (starEach es X.env)).any (·.1) = false := by rfl) :
    PS X (.Expr (.Call (.Name x p) (e :: es) [] pos) epos) (upRR X.K C E fun δ h => t δ h fun ws h1 => h1 = h ∧ pre ws) :=
  ps_mono (ps_callX (E := E) F hr hm hk hb ha L.on hg hs hdb he hpl) fun D σ H ⟨δ, h, A, μ, R, q, W⟩ => ⟨δ, h, A, μ, _, R, q, fun ws h1 vs H1 A1 μ1 ⟨e1, l⟩ x1 R1 r1 => by
    subst e1
    exact ⟨ws, _, A1, μ1, R1, r1, l, W.step R.1 x1⟩⟩
/-- the first statement raises -/
theorem dr_first (h : PS X st (upRR X.K C E tr)) : DR X C E (st :: rest) tr := pss_mono (pss_cons (u := fun _ _ _ => False) h fun _ _ _ _ _ _ q => q.elim) fun D σ H q => q
/-- a statement that does not, then those that do -/
theorem dr_seq (h1 : DS X st t1) (h2 : DR X C E rest tr) : DR X C E (st :: rest) (fun δ h => t1 { nx := fun δ' h' => h' = h ∧ tr δ' h', rt := fun _ _ => False } δ h) :=
  pss_mono (pss_cons h1 h2) fun D σ H ⟨δ, h, A, μ, R, q, W⟩ => ⟨δ, h, A, μ, _, R, q, ⟨fun δ' h' σ' H' A' μ' ⟨e1, q'⟩ x' R' => by
    subst e1
    exact ⟨δ', _, A', μ', R', q', W.step R.1 x'⟩, fun _ _ _ _ _ _ q' => q'.elim, fun _ _ _ _ _ _ q' => q'.elim, fun _ _ _ _ _ _ q' => q'.elim⟩⟩
theorem dr_if (hc : DT X c tc) (ha : DR X C E sa tr) : DR X C E [.If c sa [] pos] (fun δ h => tc δ h fun b h1 => h1 = h ∧ b = true ∧ tr δ h) :=
  pss_one (ps_mono (ps_if (u := fun _ _ _ => False) hc ha fun _ _ _ _ _ _ q => q.elim) fun D σ H ⟨δ, h, A, μ, R, q, W⟩ => ⟨δ, h, A, μ, _, R, q, fun b h1 H1 A1 μ1 ⟨e1, eb, q'⟩ x1 R1 => by
    subst e1 eb
    rw [if_pos rfl]
    exact ⟨δ, _, A1, μ1, ⟨R1, R.2.ext x1 R.1.sub⟩, q', W.step R.1 x1⟩⟩)
end
section
variable {P : Program} {w : World} {K : PySem.W.Frag} {mg : Str → Option Value} {base : Heap}
/-- a def that raises, by its body -/
theorem dfnR {x qual : Str} {st : Stmt} {f C : Addr} {fd : FuncData} {N ps : List Str} {k : Nat} {pre : List W → Prop} (F : Fun K x qual st f fd) (S : FnScope N ps (defScope st)) (len : ∀ ws, pre ws → ws.length = ps.length)
    (hbody : ∀ (cdv : Value) (A : Around) (outer : List Env) (s : Shared) (H : Hp) (E : XK), Room k (A.deeper (envOfC qual (defScope st) s.heap.objs.size f cdv)) → ∀ ws h, pre ws →
      ∃ tr, DR (cxOf (CXN P w C) P w K mg base N qual (defScope st) f cdv A outer s H E) C E (defBody st) tr ∧ tr (dstart N ws) h) : FnOk P w K mg base (CXN P w C) (k + 1) f fd ps (upX K C pre) := by
  obtain ⟨oc, od, kV, doc, pm, an, cdv, ct, osl, rfl, lk, hcd⟩ := F.ex
  refine fn_of lk hcd S (fun vs H Q E ⟨ws, h, A, μ, R, r, q, c⟩ => by rw [repWs_len r]; exact len _ q) fun A outer s H vs Q E hr hsp => ?_
  obtain ⟨ws, h, B, μ, R, r, q, c⟩ := hsp
  obtain ⟨tr, h1, h2⟩ := hbody cdv A outer s H E hr ws h q
  exact ⟨_, h1, dstart N ws, h, B, μ, ⟨R, start_rep r⟩, h2, c⟩
end
/-! ### caught -/
theorem EnvRep.unset {K : PySem.W.Frag} {A μ : List Addr} {H : Hp} {δ : DSt} {σ : L2.St} (r : EnvRep K A μ H δ σ) (i : Nat) : EnvRep K A μ H (δ.set i none) (σ.set i none) := by
  refine ⟨by rw [List.length_set, List.length_set]; exact r.len, fun j u e => ?_⟩
  by_cases hj : i = j
  · subst hj
    have hi : i < δ.length := by
      have := (List.getElem?_eq_some_iff.mp e).1
      rwa [List.length_set] at this
    rw [List.getElem?_set_self hi] at e
    cases e
  · rw [List.getElem?_set_ne hj] at e ⊢
    exact r.val j u e
def doff (i : Nat) (E : DEnds) : DEnds where
  nx := fun δ h => E.nx (δ.set i none) h
  rt := E.rt
  bk := fun δ h => E.bk (δ.set i none) h
  ct := fun δ h => E.ct (δ.set i none) h
def dTry (pre : List W → Prop) (i : Nat) (t : DTA) (ts : Addr → DTS) : DTS := fun E δ h => t δ h fun ws h1 => pre ws ∧ ∀ ea, ts ea (doff i E) (δ.set i (some (.v (.ref ea)))) h1
section
variable {X : Cx} {k : Nat} {f C CJ : Addr} {fd : FuncData} {ps : List Str} {x n J : Str} {p pos epos jp hpos tpos : Pos} {e : Expr} {es : List Expr} {t : DTA} {i : Nat} {b₀ : Stmt} {su : List Stmt} {ts : Addr → DTS} {pre : List W → Prop}
theorem ds_try (F : FnOk X.prog X.w X.K X.mg X.base (CXN X.prog X.w C) k f fd ps (upX X.K C pre)) (b : X.Body) (hr : Room k X.A) (hm : X.mg x = some (.ref f)) (hk : PySem.W.keepIn X.K (.ref f) = true) (hb : Binds X.K fd ps [])
    (ha : ∀ Ex, DA (X.wish Ex) (e :: es) t) (hmJ : X.mg J = some (.ref CJ)) (hJ : PySem.W.exmOne X.K (.ref C) (.ref CJ) = some true) (hN : X.N.Nodup) (hi : X.N[i]? = some n) (hl : X.env.scope.names.lookup n = some .local)
    (hsu : ∀ ea oe, oe.cls = .ref C → (∃ vs, oe.data = .fields vs) → DSs (X.suite ea oe) (b₀ :: su) (ts ea)) (hg : Gl X x := by rfl) (hgJ : Gl X J := by rfl)
    (hs : swapsWith (.Call (.Name x p) (e :: es) [] pos) none epos.line X.env = pure false := by rfl) (hdb : (x == ("__debug__" : Str)) = false := by decide) (hdJ : (J == ("__debug__" : Str)) = false := by decide)
    (he : starEach (e :: es) X.env = (false, eval e X.env) :: starEach es X.env := by rfl) (hpl : (backTo pos (starEach es X.env)).any (·.1) = false := by rfl) :
    DS X (.Try [.Expr (.Call (.Name x p) (e :: es) [] pos) epos] [.ExceptHandler (some (.Name J jp)) (some n) (b₀ :: su) hpos] [] [] tpos) (dTry pre i t ts) :=
  ps_mono (ps_try (ts := fun ea => upS X.K (ts ea)) (t := upA X.K t) F b hr hm hk hb (fun Ex => ha Ex) hmJ hJ hN hi hl hsu hg hgJ hs hdb hdJ he hpl) fun D σ H q => by
    obtain ⟨δ, h, A, μ, E, R, q, L⟩ := q
    refine ⟨fun _ _ H2 => ∃ h1 A1 μ1, Ext A A1 μ μ1 H H2 ∧ HeapRep X.K A1 μ1 h1 H2 ∧ ∀ ea, ts ea (doff i E) (δ.set i (some (.v (.ref ea)))) h1, ⟨δ, h, A, μ, _, R, q, fun ws h1 vs H1 A1 μ1 q1 x1 R1 r1 => ?_⟩, fun H2 ⟨h1, A1, μ1, x, R2, q2⟩ ea => ?_⟩
    · exact ⟨ws, h1, A1, μ1, R1, r1, q1.1, fun H' x' R' => ⟨h1, A1, μ1, x1.trans x', R', q1.2⟩⟩
    · have L1 := L.ext x
      exact ⟨δ.set i (some (.v (.ref ea))), h1, A1, μ1, doff i E, ⟨R2, (R.2.ext x R.1.sub).set i rfl⟩, q2 ea, ⟨fun δ' h' σ' H' A' μ' q y r => L1.nx _ h' _ H' A' μ' q y ⟨r.1, r.2.unset i⟩, fun δ' h' σ' H' A' μ' q y r => L1.bk _ h' _ H' A' μ' q y ⟨r.1, r.2.unset i⟩, fun δ' h' σ' H' A' μ' q y r => L1.ct _ h' _ H' A' μ' q y ⟨r.1, r.2.unset i⟩, L1.rt⟩⟩
end
/-! isinstance(e, C) in the suite -/
def dIsx (ea : Addr) (i : Nat) (b : Bool) : DTE := fun δ h Q => δ[i]? = some (some (.v (.ref ea))) ∧ Q (.d (.bool b)) h
section
variable {X : Cx} {C : Addr} {ea : Addr} {oe : Obj} {i : Nat} {n Cn : Str} {b : Bool} {p p1 p2 pos : Pos} {cv : V} {cu : Value}
theorem de_isx (Z : XCls X.K C) (hc : oe.cls = .ref C) (hp : (ea, oe) ∈ X.pn) (hm : X.mg "isinstance" = none) (hC : PE X (.Name Cn p2) (tC cv)) (hr : ∀ u, RelV cv u → u = cu) (hk : PySem.W.kitOne X.K (.ref C) cu = some b) (hN : X.N[i]? = some n := by rfl)
    (hv : Vis X.env.scope n := by exact Or.inl rfl) (hg : Gl X "isinstance" := by rfl) (hd : (n == ("__debug__" : Str)) = false := by decide) (hcd : (n == ("__classdict__" : Str)) = false := by decide)
    (hs : starEach (.Name n p1 :: [.Name Cn p2]) X.env = (false, eval (.Name n p1) X.env) :: starEach [.Name Cn p2] X.env := by rfl) (hs2 : starEach ([.Name Cn p2] : List Expr) X.env = (false, eval (.Name Cn p2) X.env) :: starEach [] X.env := by rfl)
    (hpl : (backTo pos (starEach ([.Name Cn p2] : List Expr) X.env)).any (·.1) = false := by rfl) : DE X (.Call (.Name "isinstance" p) [.Name n p1, .Name Cn p2] [] pos) (dIsx ea i b) := by
  have ha : PA X [.Name n p1, .Name Cn p2] (tCons (tVar i) (tCons (tC cv) tNil)) := pa_cons (pe_var hN hv hd hcd) (pa_cons hC pa_nil hs2) hs
  have hcl : CallR X (.builtin "isinstance") (fun xs H Q => xs = [.ref ea, cv] ∧ Q (.bl b) H) := by
    intro pins s σ H xs us Q I r h
    obtain ⟨rfl, q⟩ := h
    cases r with
    | cons r1 r2 =>
      cases r2 with
      | cons r3 r4 =>
        cases r4
        cases r1
        obtain rfl := hr _ r3
        exact PySem.W.kia_one (kitx_exc PySem.F.excAttr_ValueError.ga Z hc) I.kIn (I.pin (ea, oe) (List.mem_append_left _ hp)).1 hk (fun z => nomatch z) fun tk => ⟨.bl b, H, I.tok tk, rfl, q⟩
  refine pe_mono (pe_callB hcl hg hm (by rfl) ha (by decide) (by decide) hs hpl) fun σ H Q q => ?_
  obtain ⟨δ, h, A, μ, k, R, ⟨e1, q⟩, c⟩ := q
  obtain ⟨v, e2, r⟩ := R.2.val i _ e1
  have r' : v = .ref ea := r
  subst r'
  exact ⟨_, e2, rfl, c _ h _ H A μ q .refl R.1 repW_bl⟩
/-- not in, by its units alone -/
theorem op_dNotInU (hu : X.A.units + 65 < cLine) : OpR X (compareOp .NotIn) (upR X.K (dInN true)) := by
  intro pins s σ H x y v u Q I rx ry h
  obtain ⟨a, b, h, A, μ, k, R, ra, rb, q, c⟩ := h
  unfold dInN at q
  split at q
  · rename_i d xs ea eb
    obtain ⟨as, z1⟩ := (ref_see R ra ea).reads I (SeqAt.canLay_of_shaped q.2.1) rx
    obtain ⟨bs, z2⟩ := (ref_see R rb eb).reads I (SeqAt.canLay_of_shaped q.1) ry
    exact SeqAt.notIn_list_reads z2 z1 (SeqAt.canLay_of_shaped q.1) (SeqAt.canLay_of_shaped q.2.1) (room_in_shaped q.2.1 hu) ⟨.bl _, H, I, rfl, c _ _ _ _ _ _ q.2.2 .refl R (by simpa using repW_bl)⟩
  · rename_i d xs ea eb
    obtain ⟨as, z1⟩ := (ref_see R ra ea).reads I (SeqAt.canLay_of_shaped q.2.1) rx
    obtain ⟨bs, z2⟩ := (ref_see R rb eb).reads I (SeqAt.canLay_of_shaped q.1) ry
    exact SeqAt.notIn_tuple_reads z2 z1 (SeqAt.canLay_of_shaped q.1) (SeqAt.canLay_of_shaped q.2.1) (room_in_shaped q.2.1 hu) ⟨.bl _, H, I, rfl, c _ _ _ _ _ _ q.2.2 .refl R (by simpa using repW_bl)⟩
  · exact q.elim
end
/-! max, min of two ints -/
section
variable {X : Cx}
def dMax : DC
  | [.d (.int a), .d (.int b)], h, Q => Q (.d (.int (max a b))) h
  | _, _, _ => False
def dMin : DC
  | [.d (.int a), .d (.int b)], h, Q => Q (.d (.int (min a b))) h
  | _, _, _ => False
theorem repWs2 {K : PySem.W.Frag} {A μ : List Addr} {H : Hp} {a b : W} {vs : List V} (r : RepWs K A μ H [a, b] vs) : ∃ u v, vs = [u, v] ∧ RepW K A μ H a u ∧ RepW K A μ H b v := by
  obtain ⟨u, r', rfl, h1, h2⟩ := r
  obtain ⟨v, rfl, h3⟩ := repWs1 h2
  exact ⟨u, v, rfl, h1, h3⟩
theorem call_dMax (hc : X.calm = true) : CallR X (.builtin "max") (upC X.K dMax) := by
  intro pins s σ H xs us Q I r h
  obtain ⟨ws, h, A, μ, k, R, rw', q, c⟩ := h
  unfold dMax at q
  split at q
  · rename_i h0 k0 a b
    obtain ⟨u, v, rfl, r1, r2⟩ := repWs2 rw'
    obtain rfl := repW_int r1
    obtain rfl := repW_int r2
    cases r with
    | cons q1 q2 =>
      cases q2 with
      | cons q3 q4 =>
        cases q4
        obtain ⟨t1, rfl⟩ := q1
        obtain ⟨t2, rfl⟩ := q3
        refine max_two_ints (I.ok.hd hc) fun h' tk hk => ⟨.int (max a b), H, I.kept hk, ?_, c _ _ _ _ _ _ q .refl R repW_i⟩
        by_cases z : b > a
        · rw [if_pos z]; exact ⟨t2, by rw [Int.max_eq_right (Int.le_of_lt z)]⟩
        · rw [if_neg z]; exact ⟨t1, by rw [Int.max_eq_left (Int.not_lt.mp z)]⟩
  · exact q.elim
theorem call_dMin (hc : X.calm = true) : CallR X (.builtin "min") (upC X.K dMin) := by
  intro pins s σ H xs us Q I r h
  obtain ⟨ws, h, A, μ, k, R, rw', q, c⟩ := h
  unfold dMin at q
  split at q
  · rename_i h0 k0 a b
    obtain ⟨u, v, rfl, r1, r2⟩ := repWs2 rw'
    obtain rfl := repW_int r1
    obtain rfl := repW_int r2
    cases r with
    | cons q1 q2 =>
      cases q2 with
      | cons q3 q4 =>
        cases q4
        obtain ⟨t1, rfl⟩ := q1
        obtain ⟨t2, rfl⟩ := q3
        refine min_two_ints (I.ok.hd hc) fun h' tk hk => ⟨.int (min a b), H, I.kept hk, ?_, c _ _ _ _ _ _ q .refl R repW_i⟩
        by_cases z : b < a
        · rw [if_pos z]; exact ⟨t2, by rw [Int.min_eq_right (Int.le_of_lt z)]⟩
        · rw [if_neg z]; exact ⟨t1, by rw [Int.min_eq_left (Int.not_lt.mp z)]⟩
  · exact q.elim
end
/-! ### a dict of the top, keys texts, values plain data -/
structure TabD (w : World) (K : PySem.W.Frag) (p : Addr) (f : Str → Option PyData) : Prop where
  lk : ∃ es n, K.lookup p = some ⟨.type "dict", none, .dict es n, #[]⟩ ∧ PySem.W.KeysLit w.params es.toList ∧ ∀ x d, f x = some d → ∃ u v, findBy Value.isStrOf es x = some u ∧ RelV v u ∧ ∀ A H, Rep K A H d v
  sm : (p == sysModules) = false
section
variable {X : Cx} {a : Expr} {ta : DTE} {pos : Pos}
theorem ix_D {p : Addr} {f : Str → Option PyData} (T : TabD X.w X.K p f) : IxR X (fun x y H Q => x = .ref p ∧ ∃ s d, y = .str s ∧ f s = some d ∧ ∀ v, (∀ A H, Rep X.K A H d v) → Q v H) := by
  intro value slice pins s σ H x y v u Q I rx ry h hs
  obtain ⟨rfl, z, d, rfl, e, q⟩ := h
  cases rx
  obtain ⟨t, rfl⟩ := ry
  obtain ⟨es, n, l, hk, h1⟩ := T.lk
  obtain ⟨u', v', e', r', rep⟩ := h1 z d e
  have m : s.heap.MapOf (oKind X.prog X.w) p (fun k => findBy oIs es k) := ⟨_, es, n, I.kIn _ _ l, ⟨rfl, rfl, rfl⟩, rfl, fun en he => by
    obtain ⟨y, ty, e1, e2⟩ := hk.all en (Array.mem_toList_iff.mpr he)
    exact ⟨some y, by rw [e1]; exact oIs_str y ty, e2⟩, fun _ => rfl⟩
  exact tail_any m.typeIs slot_dict_getitem.lookup (wpAny_getItem_of (k := some z) (oIs_str z t) m e' ⟨v', H, I.tok _, r', q v' rep⟩) hs
def dIxD (f : Str → Option PyData) (ta : DTE) : DTE := fun δ h Q => ta δ h fun w h1 => match w with
  | .d (.str s) => (match f s with
    | some d => Q (.d d) h1
    | none => False)
  | _ => False
theorem de_ixD {p : Addr} {f : Str → Option PyData} {x : Str} {pos' : Pos} (T : TabD X.w X.K p f) (hm : X.mg x = some (.ref p)) (ha : DE X a ta) (hg : Gl X x := by rfl) (hd : (x == ("__debug__" : Str)) = false := by decide) (hs : PlainIx a := by intro _ _; rfl) :
    DE X (.Subscript (.Name x pos') a pos) (dIxD f ta) := pe_mono (pe_ix (ix_D T) (pe_glob (v := .ref p) hg hm rfl hd) ha hs) fun σ H Q q => by
  obtain ⟨δ, h, A, μ, k, R, q, c⟩ := q
  show up X.K ta σ H _
  refine ⟨δ, h, A, μ, _, R, q, fun w h1 v H1 A1 μ1 q1 x1 R1 r1 => ?_⟩
  refine ⟨rfl, ?_⟩
  split at q1
  · split at q1
    · rename_i d e
      exact ⟨_, d, repW_str r1, e, fun v rep => c _ h1 _ H1 A1 μ1 q1 x1 R1 (rep A1 H1)⟩
    · exact q1.elim
  · exact q1.elim
end
end DL

set_option Elab.async false
set_option linter.all false
set_option autoImplicit false
set_option maxRecDepth 100000
set_option maxHeartbeats 4000000
/-! plain data of the promises (own work) -/
namespace K52
open PySem PySem.Spec PyProof.Rows L2 DL SJ
def promS : List Str := ["real", "row", "any", "snap", "stand", "hand", "thing", "kept"]
def prom : List PyData := promS.map .str
def tabI : Str → Option PyData := fun s =>
  if s = "real" then some (.tuple [.str "row", .str "any", .str "snap", .str "stand", .str "hand", .str "thing", .str "kept"])
  else if s = "row" then some (.tuple [.str "any", .str "snap", .str "stand", .str "hand", .str "kept"])
  else if s = "any" then some (.tuple [.str "snap", .str "stand", .str "kept"])
  else if s = "snap" then some (.tuple [.str "stand", .str "kept"])
  else if s = "thing" then some (.tuple [.str "kept"])
  else if s = "stand" ∨ s = "hand" ∨ s = "kept" then some (.tuple [])
  else none
def tabT (a : Str) : List PyData := match tabI a with
  | some (.tuple t) => t
  | _ => []
def rowsL : List PyData := [.tuple [.str "row", .str "any"], .tuple [.str "row", .str "snap"], .tuple [.str "row", .str "stand"], .tuple [.str "row", .str "hand"], .tuple [.str "row", .str "kept"], .tuple [.str "any", .str "snap"],
  .tuple [.str "any", .str "stand"], .tuple [.str "any", .str "kept"], .tuple [.str "snap", .str "stand"], .tuple [.str "snap", .str "kept"], .tuple [.str "thing", .str "kept"]]
def due (a b : Str) : Bool := (a == b) || (a == "real") || rowsL.any fun z => PyData.eqv z (.tuple [.str a, .str b])
theorem k1 : (promS.all fun a => promS.all fun b => ((a == b) || ((tabT a).any fun z => PyData.eqv z (.str b))) == due a b) = true := by decide +kernel
theorem k2 : (promS.all fun a => match tabI a with | some (.tuple _) => true | _ => false) = true := by decide +kernel
theorem k3 : (promS.all fun a => SeqAt.shaped (.tuple (tabT a)) && (SeqAt.shaped (.str a) && (prom.any fun z => PyData.eqv z (.str a)))) = true := by decide +kernel
theorem k4 : SeqAt.shaped (.list rowsL) = true := by decide +kernel
theorem k5 : SeqAt.shaped (.tuple prom) = true := by decide +kernel
theorem k6 : (promS.all fun a => promS.all fun b => SeqAt.shaped (.tuple [.str a, .str b])) = true := by decide +kernel
section
variable {a b : Str}
theorem tab_ok (ha : a ∈ promS) : tabI a = some (.tuple (tabT a)) := by
  have z := List.all_eq_true.mp k2 a ha
  unfold tabT
  split at z
  · rename_i t e; rw [e]
  · cases z
theorem imp_ok (ha : a ∈ promS) (hb : b ∈ promS) : ((a == b) || ((tabT a).any fun z => PyData.eqv z (.str b))) = due a b := by
  have z := List.all_eq_true.mp (List.all_eq_true.mp k1 a ha) b hb
  exact eq_of_beq z
theorem sh_t (ha : a ∈ promS) : SeqAt.shaped (.tuple (tabT a)) = true := (Bool.and_eq_true_iff.mp (List.all_eq_true.mp k3 a ha)).1
theorem sh_a (ha : a ∈ promS) : SeqAt.shaped (.str a) = true := (Bool.and_eq_true_iff.mp (Bool.and_eq_true_iff.mp (List.all_eq_true.mp k3 a ha)).2).1
theorem in_p (ha : a ∈ promS) : (prom.any fun z => PyData.eqv z (.str a)) = true := (Bool.and_eq_true_iff.mp (Bool.and_eq_true_iff.mp (List.all_eq_true.mp k3 a ha)).2).2
theorem sh_2 (ha : a ∈ promS) (hb : b ∈ promS) : SeqAt.shaped (.tuple [.str a, .str b]) = true := List.all_eq_true.mp (List.all_eq_true.mp k6 a ha) b hb
end
theorem at_nth {xs : List PyData} {i : Int} (h0 : 0 ≤ i) (h1 : i < xs.length) : ∃ x ∈ xs, atI xs i = some x := by
  obtain ⟨n, rfl⟩ : ∃ n : Nat, i = (n : Int) := ⟨i.toNat, by omega⟩
  have hn : n < xs.length := by omega
  refine ⟨xs[n], List.getElem_mem hn, ?_⟩
  simp only [atI, ix_nat hn, Option.bind_some]
  exact List.getElem?_eq_getElem hn
theorem at_prom {i : Int} (h0 : 0 ≤ i) (h1 : i < 8) : ∃ a ∈ promS, atI prom i = some (.str a) := by
  obtain ⟨x, hx, e⟩ := at_nth (xs := prom) h0 (by simpa [prom, promS] using h1)
  obtain ⟨a, ha, rfl⟩ := List.mem_map.mp hx
  exact ⟨a, ha, e⟩
/-- things that are no promise -/
def wrS : List Str := ["", "Real", "all", "real "]
def wr : List PyData := [.str "", .str "Real", .str "all", .none, .int 0, .tuple [.str "real"], .str "real "]
theorem k7 : (wrS.all fun a => SeqAt.shaped (.str a) && !(prom.any fun z => PyData.eqv z (.str a))) = true := by decide +kernel
def Bad (x : PyData) : Prop := (∃ a ∈ wrS, x = .str a) ∨ x = .none ∨ x = .int 0 ∨ x = .tuple [.str "real"]
theorem bad_wr {x : PyData} (h : x ∈ wr) : Bad x := by
  simp only [wr, List.mem_cons, List.not_mem_nil, or_false] at h
  rcases h with rfl | rfl | rfl | rfl | rfl | rfl | rfl
  · exact .inl ⟨"", by simp [wrS], rfl⟩
  · exact .inl ⟨"Real", by simp [wrS], rfl⟩
  · exact .inl ⟨"all", by simp [wrS], rfl⟩
  · exact .inr (.inl rfl)
  · exact .inr (.inr (.inl rfl))
  · exact .inr (.inr (.inr rfl))
  · exact .inl ⟨"real ", by simp [wrS], rfl⟩
theorem sh_w {a : Str} (ha : a ∈ wrS) : SeqAt.shaped (.str a) = true := (Bool.and_eq_true_iff.mp (List.all_eq_true.mp k7 a ha)).1
theorem out_p {a : Str} (ha : a ∈ wrS) : (prom.any fun z => PyData.eqv z (.str a)) = false := by
  have z := (Bool.and_eq_true_iff.mp (List.all_eq_true.mp k7 a ha)).2
  simpa using z
@[simp] theorem ev_bool (a b : Bool) : PyData.eqv (.bool a) (.bool b) = (a == b) := by rw [PyData.eqv]
end K52

set_option Elab.async false
set_option linter.all false
set_option autoImplicit false
set_option maxRecDepth 100000
set_option maxHeartbeats 4000000
namespace K52
open PySem PySem.Spec PyProof.Rows L2 DL SJ
def top (i : Nat) : Stmt := PySem.Challenge.pw_storejudge_k52_what_implies_what.main.body.getD i (.Pass ⟨0, 0, 0, 0⟩)
abbrev s_check_promise : Stmt := top 10
theorem sc_check_promise : FnScope ["promise"] ["promise"] (defScope s_check_promise) := ⟨rfl, rfl, rfl, by decide +kernel, rfl, by decide +kernel, by decide +kernel⟩
abbrev s_implies : Stmt := top 13
theorem sc_implies : FnScope ["strong", "weak"] ["strong", "weak"] (defScope s_implies) := ⟨rfl, rfl, rfl, by decide +kernel, rfl, by decide +kernel, by decide +kernel⟩
abbrev s_Lcell_at : Stmt := top 15
theorem sc_Lcell_at : FnScope ["_law_script", "_law_k"] ["_law_script", "_law_k"] (defScope s_Lcell_at) := ⟨rfl, rfl, rfl, by decide +kernel, rfl, by decide +kernel, by decide +kernel⟩
abbrev s_Ldrawn : Stmt := top 16
theorem sc_Ldrawn : FnScope ["_law_cell", "_law_k", "_law_digits", "_law_number"] ["_law_cell", "_law_k"] (defScope s_Ldrawn) := ⟨rfl, rfl, rfl, by decide +kernel, rfl, by decide +kernel, by decide +kernel⟩
abbrev s_Ldue : Stmt := top 17
theorem sc_Ldue : FnScope ["_law_strong", "_law_weak", "_law_rows"] ["_law_strong", "_law_weak"] (defScope s_Ldue) := ⟨rfl, rfl, rfl, by decide +kernel, rfl, by decide +kernel, by decide +kernel⟩
abbrev s_Lrefused : Stmt := top 18
theorem sc_Lrefused : FnScope ["_law_strong", "_law_weak", "_law_right", "e", "_law_others"] ["_law_strong", "_law_weak"] (defScope s_Lrefused) := ⟨rfl, rfl, rfl, by decide +kernel, rfl, by decide +kernel, by decide +kernel⟩
abbrev s_law : Stmt := top 19
theorem sc_law : FnScope ["_law_script", "_law_k", "_law_draw", "_law_strong", "_law_weak", "_law_told", "_law_wrong"] ["_law_script"] (defScope s_law) := ⟨rfl, rfl, rfl, by decide +kernel, rfl, by decide +kernel, by decide +kernel⟩
structure Bl (mg : Str → Option Value) : Prop where
  len : mg "len" = none
  isinstance : mg "isinstance" = none
  str : mg "str" = none
  bool : mg "bool" = none
  range : mg "range" = none
  max : mg "max" = none
  min : mg "min" = none
abbrev bmV : List Value := [.type "ValueError", .type "Exception", .type "BaseException", .type "object"]
/-- the errors as they stand behind the top -/
structure Er (K : PySem.W.Frag) (mg : Str → Option Value) (base : Heap) (C CJ cH cL cP cS cT : Addr) : Prop where
  O : OwnCls "NoPromise" C bmV "ValueError.__new__" mg base
  Z : XCls K C
  mJ : mg "JudgeError" = some (.ref CJ)
  hJ : PySem.W.exmOne K (.ref C) (.ref CJ) = some true
  mNoHistory : mg "NoHistory" = some (.ref cH)
  kNoHistory : PySem.W.kitOne K (.ref C) (.ref cH) = some false
  mNoLine : mg "NoLine" = some (.ref cL)
  kNoLine : PySem.W.kitOne K (.ref C) (.ref cL) = some false
  mNoProblem : mg "NoProblem" = some (.ref cP)
  kNoProblem : PySem.W.kitOne K (.ref C) (.ref cP) = some false
  mNoStore : mg "NoStore" = some (.ref cS)
  kNoStore : PySem.W.kitOne K (.ref C) (.ref cS) = some false
  mNoText : mg "NoText" = some (.ref cT)
  kNoText : PySem.W.kitOne K (.ref C) (.ref cT) = some false
  mNoPromise : mg "NoPromise" = some (.ref C)
  kNoPromise : PySem.W.kitOne K (.ref C) (.ref C) = some true
  mValueError : mg "ValueError" = none
  kValueError : PySem.W.kitOne K (.ref C) (.type "ValueError") = some true
section
variable {P : Program} {w : World} {K : PySem.W.Frag} {mg : Str → Option Value} {base : Heap} {C CJ cH cL cP cS cT : Addr} {uP : Value} {vP : V}
def sp_check : DSp := fun ws h k => ∃ a ∈ promS, ws = [.d (.str a)] ∧ k .none h
theorem ok_check {f : Addr} {fd : FuncData} (F : Fun K "check_promise" "check_promise" s_check_promise f fd) (B : Bl mg) (hP : mg "PROMISES" = some uP) (rP : RelV vP uP) (dP : ∀ A H, Rep K A H (.tuple prom) vP) :
    FnOk P w K mg base CX0 1 f fd ["promise"] (upSp K sp_check) := by
  have m_isinstance := B.isinstance; have m_str := B.str
  refine dfn F sc_check_promise (fun ws h k ⟨_, _, e, _⟩ => by subst e; rfl) fun cdv A outer s H E hr => ⟨_, (dss_one (ds_if (DW.dt (dw_or (dt_not (dt_val (de_isi kit_str m_isinstance m_str (dv 0)))) (dw_or1 (dt_cmp (op_dNotIn hr) (dv 0) (de_glob hP rP dP))))) (dss_one ds_no) dss_nil)), ?_⟩
  rintro ws h kk ⟨a, ha, rfl, hk⟩
  simp [dRet, dSeq, dNext, dAsg, dName, dIfS, dDrop, dC, dVar, dOp, dAdd, dSub, dMul, dDiv, dMod, dPow, dCmpI, dLt, dLe, dGt, dGe, dEq, dNe, dIs, DL.isSame, dIx, dSlT, dSlL, dSl3, dNoPart, dPart, dCB, dLen, dTuple, dListF, dCatF, dAll, dIsi, dCall, dTup, dLst, dCons, dNil, plains, dFrz, dCel, dB, dNot, dAnd, dOr, dAndV, dOrV, dNotV, dIf, dTTup, dTCons, dTNil, dSetI, dApp, DL.ref, dstart, dends, dpick, dComp, dYes, dFor, dEach, dRange1, dRange2, DL.cond, szl, dChain, dChain3, dNotInK, dIxK, dNeg, dInN, dIxD, dMax, dMin, dShr, dInN, dNoS, isi, tyOf, k5, sh_a ha, in_p ha]
  exact hk
def preC : List W → Prop := fun ws => ∃ x, ws = [.d x] ∧ Bad x
theorem no_check {f : Addr} {fd : FuncData} (F : Fun K "check_promise" "check_promise" s_check_promise f fd) (B : Bl mg) (X : Er K mg base C CJ cH cL cP cS cT) (hP : mg "PROMISES" = some uP) (rP : RelV vP uP) (dP : ∀ A H, Rep K A H (.tuple prom) vP) :
    FnOk P w K mg base (CXN P w C) 1 f fd ["promise"] (upX K C preC) := by
  have m_isinstance := B.isinstance; have m_str := B.str
  refine dfnR F sc_check_promise (fun ws ⟨_, e, _⟩ => by subst e; rfl) fun cdv A outer s H E hr ws h hw => ⟨_, dr_if (DW.dt (dw_or (dt_not (dt_val (de_isi kit_str m_isinstance m_str (dv 0)))) (dw_or1 (dt_cmp (op_dNotIn hr) (dv 0) (de_glob hP rP dP))))) (dr_raise X.O PySem.F.excBase_ValueError leaves_cx (da_cons de_str da_nil)), ?_⟩
  obtain ⟨x, rfl, hx⟩ := hw
  rcases hx with ⟨a, ha, rfl⟩ | rfl | rfl | rfl
  · simp [dRet, dSeq, dNext, dAsg, dName, dIfS, dDrop, dC, dVar, dOp, dAdd, dSub, dMul, dDiv, dMod, dPow, dCmpI, dLt, dLe, dGt, dGe, dEq, dNe, dIs, DL.isSame, dIx, dSlT, dSlL, dSl3, dNoPart, dPart, dCB, dLen, dTuple, dListF, dCatF, dAll, dIsi, dCall, dTup, dLst, dCons, dNil, plains, dFrz, dCel, dB, dNot, dAnd, dOr, dAndV, dOrV, dNotV, dIf, dTTup, dTCons, dTNil, dSetI, dApp, DL.ref, dstart, dends, dpick, dComp, dYes, dFor, dEach, dRange1, dRange2, DL.cond, szl, dChain, dChain3, dNotInK, dIxK, dNeg, dInN, dIxD, dMax, dMin, dShr, dInN, dNoS, isi, tyOf, k5, sh_w ha, out_p ha]
  · simp [dRet, dSeq, dNext, dAsg, dName, dIfS, dDrop, dC, dVar, dOp, dAdd, dSub, dMul, dDiv, dMod, dPow, dCmpI, dLt, dLe, dGt, dGe, dEq, dNe, dIs, DL.isSame, dIx, dSlT, dSlL, dSl3, dNoPart, dPart, dCB, dLen, dTuple, dListF, dCatF, dAll, dIsi, dCall, dTup, dLst, dCons, dNil, plains, dFrz, dCel, dB, dNot, dAnd, dOr, dAndV, dOrV, dNotV, dIf, dTTup, dTCons, dTNil, dSetI, dApp, DL.ref, dstart, dends, dpick, dComp, dYes, dFor, dEach, dRange1, dRange2, DL.cond, szl, dChain, dChain3, dNotInK, dIxK, dNeg, dInN, dIxD, dMax, dMin, dShr, dInN, dNoS, isi, tyOf]
  · simp [dRet, dSeq, dNext, dAsg, dName, dIfS, dDrop, dC, dVar, dOp, dAdd, dSub, dMul, dDiv, dMod, dPow, dCmpI, dLt, dLe, dGt, dGe, dEq, dNe, dIs, DL.isSame, dIx, dSlT, dSlL, dSl3, dNoPart, dPart, dCB, dLen, dTuple, dListF, dCatF, dAll, dIsi, dCall, dTup, dLst, dCons, dNil, plains, dFrz, dCel, dB, dNot, dAnd, dOr, dAndV, dOrV, dNotV, dIf, dTTup, dTCons, dTNil, dSetI, dApp, DL.ref, dstart, dends, dpick, dComp, dYes, dFor, dEach, dRange1, dRange2, DL.cond, szl, dChain, dChain3, dNotInK, dIxK, dNeg, dInN, dIxD, dMax, dMin, dShr, dInN, dNoS, isi, tyOf]
  · simp [dRet, dSeq, dNext, dAsg, dName, dIfS, dDrop, dC, dVar, dOp, dAdd, dSub, dMul, dDiv, dMod, dPow, dCmpI, dLt, dLe, dGt, dGe, dEq, dNe, dIs, DL.isSame, dIx, dSlT, dSlL, dSl3, dNoPart, dPart, dCB, dLen, dTuple, dListF, dCatF, dAll, dIsi, dCall, dTup, dLst, dCons, dNil, plains, dFrz, dCel, dB, dNot, dAnd, dOr, dAndV, dOrV, dNotV, dIf, dTTup, dTCons, dTNil, dSetI, dApp, DL.ref, dstart, dends, dpick, dComp, dYes, dFor, dEach, dRange1, dRange2, DL.cond, szl, dChain, dChain3, dNotInK, dIxK, dNeg, dInN, dIxD, dMax, dMin, dShr, dInN, dNoS, isi, tyOf]
def sp_implies : DSp := fun ws h k => ∃ a b, a ∈ promS ∧ b ∈ promS ∧ ws = [.d (.str a), .d (.str b)] ∧ k (.bool (due a b)) h
theorem ok_implies {f pI : Addr} {fd : FuncData} (F : Fun K "implies" "implies" s_implies f fd) (B : Bl mg) (F_check_promise : DFn P w K mg base 1 "check_promise" sp_check) (TI : TabD w K pI tabI) (hI : mg "IMPLIED" = some (.ref pI)) :
    FnOk P w K mg base CX0 2 f fd ["strong", "weak"] (upSp K sp_implies) := by
  skip
  refine dfn F sc_implies (fun ws h k ⟨_, _, _, _, e, _⟩ => by subst e; rfl) fun cdv A outer s H E hr => ⟨_, (dss_cons (ds_expr (de_call F_check_promise (hr.mono (by omega)) (da_cons (dv 0) da_nil)))
      (dss_cons (ds_expr (de_call F_check_promise (hr.mono (by omega)) (da_cons (dv 1) da_nil)))
      (dss_one (ds_ret (de_or (de_cmp (op_dEq hr) (dv 0) (dv 1)) (de_one (de_cmp (op_dIn hr) (dv 1) (de_ixD TI hI (dv 0))))))))), ?_⟩
  rintro ws h kk ⟨a, b, ha, hb, rfl, hk⟩
  have e := imp_ok ha hb
  simp [dRet, dSeq, dNext, dAsg, dName, dIfS, dDrop, dC, dVar, dOp, dAdd, dSub, dMul, dDiv, dMod, dPow, dCmpI, dLt, dLe, dGt, dGe, dEq, dNe, dIs, DL.isSame, dIx, dSlT, dSlL, dSl3, dNoPart, dPart, dCB, dLen, dTuple, dListF, dCatF, dAll, dIsi, dCall, dTup, dLst, dCons, dNil, plains, dFrz, dCel, dB, dNot, dAnd, dOr, dAndV, dOrV, dNotV, dIf, dTTup, dTCons, dTNil, dSetI, dApp, DL.ref, dstart, dends, dpick, dComp, dYes, dFor, dEach, dRange1, dRange2, DL.cond, szl, dChain, dChain3, dNotInK, dIxK, dNeg, dInN, dIxD, dMax, dMin, dShr, dInN, dNoS]
  refine ⟨a, ha, rfl, ?_⟩
  simp [dRet, dSeq, dNext, dAsg, dName, dIfS, dDrop, dC, dVar, dOp, dAdd, dSub, dMul, dDiv, dMod, dPow, dCmpI, dLt, dLe, dGt, dGe, dEq, dNe, dIs, DL.isSame, dIx, dSlT, dSlL, dSl3, dNoPart, dPart, dCB, dLen, dTuple, dListF, dCatF, dAll, dIsi, dCall, dTup, dLst, dCons, dNil, plains, dFrz, dCel, dB, dNot, dAnd, dOr, dAndV, dOrV, dNotV, dIf, dTTup, dTCons, dTNil, dSetI, dApp, DL.ref, dstart, dends, dpick, dComp, dYes, dFor, dEach, dRange1, dRange2, DL.cond, szl, dChain, dChain3, dNotInK, dIxK, dNeg, dInN, dIxD, dMax, dMin, dShr, dInN, dNoS]
  refine ⟨b, hb, rfl, ?_⟩
  by_cases hab : a = b
  · simp [dRet, dSeq, dNext, dAsg, dName, dIfS, dDrop, dC, dVar, dOp, dAdd, dSub, dMul, dDiv, dMod, dPow, dCmpI, dLt, dLe, dGt, dGe, dEq, dNe, dIs, DL.isSame, dIx, dSlT, dSlL, dSl3, dNoPart, dPart, dCB, dLen, dTuple, dListF, dCatF, dAll, dIsi, dCall, dTup, dLst, dCons, dNil, plains, dFrz, dCel, dB, dNot, dAnd, dOr, dAndV, dOrV, dNotV, dIf, dTTup, dTCons, dTNil, dSetI, dApp, DL.ref, dstart, dends, dpick, dComp, dYes, dFor, dEach, dRange1, dRange2, DL.cond, szl, dChain, dChain3, dNotInK, dIxK, dNeg, dInN, dIxD, dMax, dMin, dShr, dInN, dNoS, sh_a ha, sh_a hb, hab]
    have d : due a b = true := by rw [← e]; simp [hab]
    rw [d] at hk
    subst hab
    simpa [sh_a ha] using hk
  · simp [dRet, dSeq, dNext, dAsg, dName, dIfS, dDrop, dC, dVar, dOp, dAdd, dSub, dMul, dDiv, dMod, dPow, dCmpI, dLt, dLe, dGt, dGe, dEq, dNe, dIs, DL.isSame, dIx, dSlT, dSlL, dSl3, dNoPart, dPart, dCB, dLen, dTuple, dListF, dCatF, dAll, dIsi, dCall, dTup, dLst, dCons, dNil, plains, dFrz, dCel, dB, dNot, dAnd, dOr, dAndV, dOrV, dNotV, dIf, dTTup, dTCons, dTNil, dSetI, dApp, DL.ref, dstart, dends, dpick, dComp, dYes, dFor, dEach, dRange1, dRange2, DL.cond, szl, dChain, dChain3, dNotInK, dIxK, dNeg, dInN, dIxD, dMax, dMin, dShr, dInN, dNoS, sh_a ha, sh_a hb, hab, tab_ok ha, sh_t ha]
    have d : ((tabT a).any fun z => PyData.eqv z (.str b)) = due a b := by rw [← e]; simp [hab]
    rw [d]
    exact hk
def preI : List W → Prop := fun ws => ∃ x y, ws = [.d x, .d y] ∧ (Bad x ∨ ((∃ a ∈ promS, x = .str a) ∧ Bad y))
theorem no_implies {f fc : Addr} {fd fdc : FuncData} (F : Fun K "implies" "implies" s_implies f fd) (Fc : Fun K "check_promise" "check_promise" s_check_promise fc fdc) (mc : mg "check_promise" = some (.ref fc)) (bc : Binds K fdc ["promise"] [])
    (F_check_promise : DFn P w K mg base 1 "check_promise" sp_check) (N : FnOk P w K mg base (CXN P w C) 1 fc fdc ["promise"] (upX K C preC)) : FnOk P w K mg base (CXN P w C) 2 f fd ["strong", "weak"] (upX K C preI) := by
  refine dfnR F sc_implies (fun ws ⟨_, _, e, _⟩ => by subst e; rfl) fun cdv A outer s H E hr ws h hw => ?_
  obtain ⟨x, y, rfl, hx⟩ := hw
  rcases hx with hx | ⟨⟨a, ha, rfl⟩, hy⟩
  · refine ⟨_, dr_first (ps_callR N (hr.mono (by omega)) mc Fc.kp bc leaves_cx (da_cons (dv 0) da_nil)), ?_⟩
    simp [dRet, dSeq, dNext, dAsg, dName, dIfS, dDrop, dC, dVar, dOp, dAdd, dSub, dMul, dDiv, dMod, dPow, dCmpI, dLt, dLe, dGt, dGe, dEq, dNe, dIs, DL.isSame, dIx, dSlT, dSlL, dSl3, dNoPart, dPart, dCB, dLen, dTuple, dListF, dCatF, dAll, dIsi, dCall, dTup, dLst, dCons, dNil, plains, dFrz, dCel, dB, dNot, dAnd, dOr, dAndV, dOrV, dNotV, dIf, dTTup, dTCons, dTNil, dSetI, dApp, DL.ref, dstart, dends, dpick, dComp, dYes, dFor, dEach, dRange1, dRange2, DL.cond, szl, dChain, dChain3, dNotInK, dIxK, dNeg, dInN, dIxD, dMax, dMin, dShr, dInN, dNoS]
    exact ⟨x, rfl, hx⟩
  · refine ⟨_, dr_seq (ds_expr (de_call F_check_promise (hr.mono (by omega)) (da_cons (dv 0) da_nil))) (dr_first (ps_callR N (hr.mono (by omega)) mc Fc.kp bc leaves_cx (da_cons (dv 1) da_nil))), ?_⟩
    simp [dRet, dSeq, dNext, dAsg, dName, dIfS, dDrop, dC, dVar, dOp, dAdd, dSub, dMul, dDiv, dMod, dPow, dCmpI, dLt, dLe, dGt, dGe, dEq, dNe, dIs, DL.isSame, dIx, dSlT, dSlL, dSl3, dNoPart, dPart, dCB, dLen, dTuple, dListF, dCatF, dAll, dIsi, dCall, dTup, dLst, dCons, dNil, plains, dFrz, dCel, dB, dNot, dAnd, dOr, dAndV, dOrV, dNotV, dIf, dTTup, dTCons, dTNil, dSetI, dApp, DL.ref, dstart, dends, dpick, dComp, dYes, dFor, dEach, dRange1, dRange2, DL.cond, szl, dChain, dChain3, dNotInK, dIxK, dNeg, dInN, dIxD, dMax, dMin, dShr, dInN, dNoS]
    refine ⟨a, ha, rfl, ?_⟩
    simp [dRet, dSeq, dNext, dAsg, dName, dIfS, dDrop, dC, dVar, dOp, dAdd, dSub, dMul, dDiv, dMod, dPow, dCmpI, dLt, dLe, dGt, dGe, dEq, dNe, dIs, DL.isSame, dIx, dSlT, dSlL, dSl3, dNoPart, dPart, dCB, dLen, dTuple, dListF, dCatF, dAll, dIsi, dCall, dTup, dLst, dCons, dNil, plains, dFrz, dCel, dB, dNot, dAnd, dOr, dAndV, dOrV, dNotV, dIf, dTTup, dTCons, dTNil, dSetI, dApp, DL.ref, dstart, dends, dpick, dComp, dYes, dFor, dEach, dRange1, dRange2, DL.cond, szl, dChain, dChain3, dNotInK, dIxK, dNeg, dInN, dIxD, dMax, dMin, dShr, dInN, dNoS]
    exact ⟨y, rfl, hy⟩
end
end K52

set_option Elab.async false
set_option linter.all false
set_option autoImplicit false
set_option maxRecDepth 100000
set_option maxHeartbeats 4000000
namespace K52
open PySem PySem.Spec PyProof.Rows L2 DL SJ
section
variable {P : Program} {w : World} {K : PySem.W.Frag} {mg : Str → Option Value} {base : Heap} {C CJ cH cL cP cS cT : Addr} {uP : Value} {vP : V}
theorem at_num {st : List Int} {k : Nat} (h : k < st.length) : atI (nums st) (k : Int) = some (.int (st.getD k 0)) := by
  have hn : (nums st).length = st.length := by simp [nums]
  unfold atI ixN
  rw [if_pos (by omega), hn, if_pos (by omega)]
  simp [nums, h]
def sp_Lcell_at : DSp := fun ws h k => ∃ (ns : List Int) (i : Nat), ws = [.d (.list (nums ns)), .d (.int i)] ∧ ∀ v : Int, k (.int v) h
theorem ok_Lcell_at {f : Addr} {fd : FuncData} (F : Fun K "_law_cell_at" "_law_cell_at" s_Lcell_at f fd) (B : Bl mg) : FnOk P w K mg base CX0 1 f fd ["_law_script", "_law_k"] (upSp K sp_Lcell_at) := by
  have m_len := B.len
  refine dfn F sc_Lcell_at (fun ws h k ⟨_, _, e, _⟩ => by subst e; rfl) fun cdv A outer s H E hr => ⟨_, (dss_cons (ds_if (dt_cmp op_dLt (dv 1) (de_callB call_dLen m_len (da_cons (dv 0) da_nil))) (dss_one (ds_ret (de_ix (dv 0) (dv 1)))) dss_nil)
      (dss_one (ds_ret de_int))), ?_⟩
  rintro ws h kk ⟨ns, i, rfl, hk⟩
  have hn : (nums ns).length = ns.length := by simp [nums]
  by_cases hi : i < ns.length
  · have e := at_num (st := ns) (k := i) hi
    simp [dRet, dSeq, dNext, dAsg, dName, dIfS, dDrop, dC, dVar, dOp, dAdd, dSub, dMul, dDiv, dMod, dPow, dCmpI, dLt, dLe, dGt, dGe, dEq, dNe, dIs, DL.isSame, dIx, dSlT, dSlL, dSl3, dNoPart, dPart, dCB, dLen, dTuple, dListF, dCatF, dAll, dIsi, dCall, dTup, dLst, dCons, dNil, plains, dFrz, dCel, dB, dNot, dAnd, dOr, dAndV, dOrV, dNotV, dIf, dTTup, dTCons, dTNil, dSetI, dApp, DL.ref, dstart, dends, dpick, dComp, dYes, dFor, dEach, dRange1, dRange2, DL.cond, szl, dChain, dChain3, dNotInK, dIxK, dNeg, dInN, dIxD, dMax, dMin, dShr, dInN, dNoS, hn, hi, e]
    exact hk _
  · simp [dRet, dSeq, dNext, dAsg, dName, dIfS, dDrop, dC, dVar, dOp, dAdd, dSub, dMul, dDiv, dMod, dPow, dCmpI, dLt, dLe, dGt, dGe, dEq, dNe, dIs, DL.isSame, dIx, dSlT, dSlL, dSl3, dNoPart, dPart, dCB, dLen, dTuple, dListF, dCatF, dAll, dIsi, dCall, dTup, dLst, dCons, dNil, plains, dFrz, dCel, dB, dNot, dAnd, dOr, dAndV, dOrV, dNotV, dIf, dTTup, dTCons, dTNil, dSetI, dApp, DL.ref, dstart, dends, dpick, dComp, dYes, dFor, dEach, dRange1, dRange2, DL.cond, szl, dChain, dChain3, dNotInK, dIxK, dNeg, dInN, dIxD, dMax, dMin, dShr, dInN, dNoS, hn, hi]
    exact hk 0
theorem mul_small {i j : Int} (h0 : 0 ≤ i) (h1 : i < 18446744073709551616) : CMul i j := .inl ⟨by omega, by omega⟩
def sp_Ldrawn : DSp := fun ws h k => ∃ (n : Int) (i : Nat), ws = [.d (.int n), .d (.int i)] ∧ i < 64 ∧ ∀ v : Int, k (.int v) h
theorem ok_Ldrawn {f : Addr} {fd : FuncData} (F : Fun K "_law_drawn" "_law_drawn" s_Ldrawn f fd) (B : Bl mg) : FnOk P w K mg base CX0 1 f fd ["_law_cell", "_law_k"] (upSp K sp_Ldrawn) := by
  skip
  refine dfn F sc_Ldrawn (fun ws h k ⟨_, _, e, _⟩ => by subst e; rfl) fun cdv A outer s H E hr => ⟨_, (dss_cons (ds_set (i := 2) sc_Ldrawn.nd (de_op op_dShr (dv 0) (de_op op_dAdd de_int (de_op op_dMul de_int (de_op op_dMod (dv 1) de_int)))))
      (dss_cons (ds_if (DW.dt (dw_and (dt_cmp (op_dEq hr) (de_op op_dMod (dv 0) de_int) de_int) (dw_and1 (dt_cmp op_dGt (dv 2) de_int)))) (dss_one (ds_ret (de_op op_dMod (dv 2) (de_op op_dPow de_int de_int)))) dss_nil)
      (dss_cons (ds_set (i := 3) sc_Ldrawn.nd (de_op op_dMod (de_op op_dMul (de_op op_dAdd (de_op op_dAdd (de_op op_dMod (de_op op_dDiv (dv 0) de_int) de_int) (de_op op_dMul de_int (dv 1))) de_int) de_int) de_int))
      (dss_cons (ds_set (i := 3) sc_Ldrawn.nd (de_op op_dMod (de_op op_dMul (dv 3) (de_op op_dAdd (de_op op_dDiv (dv 3) de_int) de_int)) de_int))
      (dss_one (ds_ret (de_op op_dMod (de_op op_dMul (dv 3) (de_op op_dAdd (de_op op_dDiv (dv 3) de_int) de_int)) de_int))))))), ?_⟩
  rintro ws h kk ⟨n, i, rfl, hi, hk⟩
  simp [dRet, dSeq, dNext, dAsg, dName, dIfS, dDrop, dC, dVar, dOp, dAdd, dSub, dMul, dDiv, dMod, dPow, dCmpI, dLt, dLe, dGt, dGe, dEq, dNe, dIs, DL.isSame, dIx, dSlT, dSlL, dSl3, dNoPart, dPart, dCB, dLen, dTuple, dListF, dCatF, dAll, dIsi, dCall, dTup, dLst, dCons, dNil, plains, dFrz, dCel, dB, dNot, dAnd, dOr, dAndV, dOrV, dNotV, dIf, dTTup, dTCons, dTNil, dSetI, dApp, DL.ref, dstart, dends, dpick, dComp, dYes, dFor, dEach, dRange1, dRange2, DL.cond, szl, dChain, dChain3, dNotInK, dIxK, dNeg, dInN, dIxD, dMax, dMin, dShr, dInN, dNoS, CDiv, CPow]
  refine ⟨mul_small (by omega) (by omega), by omega, ?_⟩
  by_cases h1 : n % 2 = 1
  · simp [dRet, dSeq, dNext, dAsg, dName, dIfS, dDrop, dC, dVar, dOp, dAdd, dSub, dMul, dDiv, dMod, dPow, dCmpI, dLt, dLe, dGt, dGe, dEq, dNe, dIs, DL.isSame, dIx, dSlT, dSlL, dSl3, dNoPart, dPart, dCB, dLen, dTuple, dListF, dCatF, dAll, dIsi, dCall, dTup, dLst, dCons, dNil, plains, dFrz, dCel, dB, dNot, dAnd, dOr, dAndV, dOrV, dNotV, dIf, dTTup, dTCons, dTNil, dSetI, dApp, DL.ref, dstart, dends, dpick, dComp, dYes, dFor, dEach, dRange1, dRange2, DL.cond, szl, dChain, dChain3, dNotInK, dIxK, dNeg, dInN, dIxD, dMax, dMin, dShr, dInN, dNoS, h1]
    split
    · exact hk _
    · try simp [dRet, dSeq, dNext, dAsg, dName, dIfS, dDrop, dC, dVar, dOp, dAdd, dSub, dMul, dDiv, dMod, dPow, dCmpI, dLt, dLe, dGt, dGe, dEq, dNe, dIs, DL.isSame, dIx, dSlT, dSlL, dSl3, dNoPart, dPart, dCB, dLen, dTuple, dListF, dCatF, dAll, dIsi, dCall, dTup, dLst, dCons, dNil, plains, dFrz, dCel, dB, dNot, dAnd, dOr, dAndV, dOrV, dNotV, dIf, dTTup, dTCons, dTNil, dSetI, dApp, DL.ref, dstart, dends, dpick, dComp, dYes, dFor, dEach, dRange1, dRange2, DL.cond, szl, dChain, dChain3, dNotInK, dIxK, dNeg, dInN, dIxD, dMax, dMin, dShr, dInN, dNoS]
      exact ⟨mul_small (by omega) (by omega), mul_small (by omega) (by omega), mul_small (by omega) (by omega), mul_small (by omega) (by omega), hk _⟩
  · simp [dRet, dSeq, dNext, dAsg, dName, dIfS, dDrop, dC, dVar, dOp, dAdd, dSub, dMul, dDiv, dMod, dPow, dCmpI, dLt, dLe, dGt, dGe, dEq, dNe, dIs, DL.isSame, dIx, dSlT, dSlL, dSl3, dNoPart, dPart, dCB, dLen, dTuple, dListF, dCatF, dAll, dIsi, dCall, dTup, dLst, dCons, dNil, plains, dFrz, dCel, dB, dNot, dAnd, dOr, dAndV, dOrV, dNotV, dIf, dTTup, dTCons, dTNil, dSetI, dApp, DL.ref, dstart, dends, dpick, dComp, dYes, dFor, dEach, dRange1, dRange2, DL.cond, szl, dChain, dChain3, dNotInK, dIxK, dNeg, dInN, dIxD, dMax, dMin, dShr, dInN, dNoS, h1]
    exact ⟨mul_small (by omega) (by omega), mul_small (by omega) (by omega), mul_small (by omega) (by omega), mul_small (by omega) (by omega), hk _⟩
end
end K52

set_option Elab.async false
set_option linter.all false
set_option autoImplicit false
set_option maxRecDepth 100000
set_option maxHeartbeats 4000000
namespace K52
open PySem PySem.Spec PyProof.Rows L2 DL SJ
section
variable {P : Program} {w : World} {K : PySem.W.Frag} {mg : Str → Option Value} {base : Heap} {C CJ cH cL cP cS cT : Addr} {uP : Value} {vP : V}
def sp_Ldue : DSp := fun ws h k => ∃ a b, a ∈ promS ∧ b ∈ promS ∧ ws = [.d (.str a), .d (.str b)] ∧ k (.bool (due a b)) h
theorem ok_Ldue {f : Addr} {fd : FuncData} (F : Fun K "_law_due" "_law_due" s_Ldue f fd) (B : Bl mg) : FnOk P w K mg base CX0 1 f fd ["_law_strong", "_law_weak"] (upSp K sp_Ldue) := by
  skip
  refine dfn F sc_Ldue (fun ws h k ⟨_, _, _, _, e, _⟩ => by subst e; rfl) fun cdv A outer s H E hr => ⟨_, (@dss_cons _ _ _ _ _ (@ds_frz _ _ _ _ (@dfs_of _ _ _ _ (2) _ _ sc_Ldue.nd (@df_lst _ _ _ _ (@da_cons _ _ _ _ _ (@de_tup _ _ _ _ _ (@da_cons _ _ _ _ _ (@de_str _ _ _ _ (by decide +kernel)) (@da_cons _ _ _ _ _ (@de_str _ _ _ _ (by decide +kernel)) (@da_nil _) (by first | rfl | decide +kernel | exact Or.inl rfl | exact Or.inr rfl | exact nobehind _ (by decide) (by decide) | (intros; rfl))) (by first | rfl | decide +kernel | exact Or.inl rfl | exact Or.inr rfl | exact nobehind _ (by decide) (by decide) | (intros; rfl)))) (@da_cons _ _ _ _ _ (@de_tup _ _ _ _ _ (@da_cons _ _ _ _ _ (@de_str _ _ _ _ (by decide +kernel)) (@da_cons _ _ _ _ _ (@de_str _ _ _ _ (by decide +kernel)) (@da_nil _) (by first | rfl | decide +kernel | exact Or.inl rfl | exact Or.inr rfl | exact nobehind _ (by decide) (by decide) | (intros; rfl))) (by first | rfl | decide +kernel | exact Or.inl rfl | exact Or.inr rfl | exact nobehind _ (by decide) (by decide) | (intros; rfl)))) (@da_cons _ _ _ _ _ (@de_tup _ _ _ _ _ (@da_cons _ _ _ _ _ (@de_str _ _ _ _ (by decide +kernel)) (@da_cons _ _ _ _ _ (@de_str _ _ _ _ (by decide +kernel)) (@da_nil _) (by first | rfl | decide +kernel | exact Or.inl rfl | exact Or.inr rfl | exact nobehind _ (by decide) (by decide) | (intros; rfl))) (by first | rfl | decide +kernel | exact Or.inl rfl | exact Or.inr rfl | exact nobehind _ (by decide) (by decide) | (intros; rfl)))) (@da_cons _ _ _ _ _ (@de_tup _ _ _ _ _ (@da_cons _ _ _ _ _ (@de_str _ _ _ _ (by decide +kernel)) (@da_cons _ _ _ _ _ (@de_str _ _ _ _ (by decide +kernel)) (@da_nil _) (by first | rfl | decide +kernel | exact Or.inl rfl | exact Or.inr rfl | exact nobehind _ (by decide) (by decide) | (intros; rfl))) (by first | rfl | decide +kernel | exact Or.inl rfl | exact Or.inr rfl | exact nobehind _ (by decide) (by decide) | (intros; rfl)))) (@da_cons _ _ _ _ _ (@de_tup _ _ _ _ _ (@da_cons _ _ _ _ _ (@de_str _ _ _ _ (by decide +kernel)) (@da_cons _ _ _ _ _ (@de_str _ _ _ _ (by decide +kernel)) (@da_nil _) (by first | rfl | decide +kernel | exact Or.inl rfl | exact Or.inr rfl | exact nobehind _ (by decide) (by decide) | (intros; rfl))) (by first | rfl | decide +kernel | exact Or.inl rfl | exact Or.inr rfl | exact nobehind _ (by decide) (by decide) | (intros; rfl)))) (@da_cons _ _ _ _ _ (@de_tup _ _ _ _ _ (@da_cons _ _ _ _ _ (@de_str _ _ _ _ (by decide +kernel)) (@da_cons _ _ _ _ _ (@de_str _ _ _ _ (by decide +kernel)) (@da_nil _) (by first | rfl | decide +kernel | exact Or.inl rfl | exact Or.inr rfl | exact nobehind _ (by decide) (by decide) | (intros; rfl))) (by first | rfl | decide +kernel | exact Or.inl rfl | exact Or.inr rfl | exact nobehind _ (by decide) (by decide) | (intros; rfl)))) (@da_nil _) (by first | rfl | decide +kernel | exact Or.inl rfl | exact Or.inr rfl | exact nobehind _ (by decide) (by decide) | (intros; rfl))) (by first | rfl | decide +kernel | exact Or.inl rfl | exact Or.inr rfl | exact nobehind _ (by decide) (by decide) | (intros; rfl))) (by first | rfl | decide +kernel | exact Or.inl rfl | exact Or.inr rfl | exact nobehind _ (by decide) (by decide) | (intros; rfl))) (by first | rfl | decide +kernel | exact Or.inl rfl | exact Or.inr rfl | exact nobehind _ (by decide) (by decide) | (intros; rfl))) (by first | rfl | decide +kernel | exact Or.inl rfl | exact Or.inr rfl | exact nobehind _ (by decide) (by decide) | (intros; rfl))) (by first | rfl | decide +kernel | exact Or.inl rfl | exact Or.inr rfl | exact nobehind _ (by decide) (by decide) | (intros; rfl)))) (by first | rfl | decide +kernel | exact Or.inl rfl | exact Or.inr rfl | exact nobehind _ (by decide) (by decide) | (intros; rfl)) (by first | rfl | decide +kernel | exact Or.inl rfl | exact Or.inr rfl | exact nobehind _ (by decide) (by decide) | (intros; rfl)) (by first | rfl | decide +kernel | exact Or.inl rfl | exact Or.inr rfl | exact nobehind _ (by decide) (by decide) | (intros; rfl)) (by first | rfl | decide +kernel | exact Or.inl rfl | exact Or.inr rfl | exact nobehind _ (by decide) (by decide) | (intros; rfl)))) (@dss_cons _ _ _ _ _ (@ds_frz _ _ _ _ (@dfs_of _ _ _ _ (2) _ _ sc_Ldue.nd (@df_cat _ _ _ _ _ _ (@dv _ _ 2 _ (by first | rfl | decide +kernel | exact Or.inl rfl | exact Or.inr rfl | exact nobehind _ (by decide) (by decide) | (intros; rfl)) (by first | rfl | decide +kernel | exact Or.inl rfl | exact Or.inr rfl | exact nobehind _ (by decide) (by decide) | (intros; rfl)) (by first | rfl | decide +kernel | exact Or.inl rfl | exact Or.inr rfl | exact nobehind _ (by decide) (by decide) | (intros; rfl)) (by first | rfl | decide +kernel | exact Or.inl rfl | exact Or.inr rfl | exact nobehind _ (by decide) (by decide) | (intros; rfl))) (@de_frz _ _ _ (@df_lst _ _ _ _ (@da_cons _ _ _ _ _ (@de_tup _ _ _ _ _ (@da_cons _ _ _ _ _ (@de_str _ _ _ _ (by decide +kernel)) (@da_cons _ _ _ _ _ (@de_str _ _ _ _ (by decide +kernel)) (@da_nil _) (by first | rfl | decide +kernel | exact Or.inl rfl | exact Or.inr rfl | exact nobehind _ (by decide) (by decide) | (intros; rfl))) (by first | rfl | decide +kernel | exact Or.inl rfl | exact Or.inr rfl | exact nobehind _ (by decide) (by decide) | (intros; rfl)))) (@da_cons _ _ _ _ _ (@de_tup _ _ _ _ _ (@da_cons _ _ _ _ _ (@de_str _ _ _ _ (by decide +kernel)) (@da_cons _ _ _ _ _ (@de_str _ _ _ _ (by decide +kernel)) (@da_nil _) (by first | rfl | decide +kernel | exact Or.inl rfl | exact Or.inr rfl | exact nobehind _ (by decide) (by decide) | (intros; rfl))) (by first | rfl | decide +kernel | exact Or.inl rfl | exact Or.inr rfl | exact nobehind _ (by decide) (by decide) | (intros; rfl)))) (@da_cons _ _ _ _ _ (@de_tup _ _ _ _ _ (@da_cons _ _ _ _ _ (@de_str _ _ _ _ (by decide +kernel)) (@da_cons _ _ _ _ _ (@de_str _ _ _ _ (by decide +kernel)) (@da_nil _) (by first | rfl | decide +kernel | exact Or.inl rfl | exact Or.inr rfl | exact nobehind _ (by decide) (by decide) | (intros; rfl))) (by first | rfl | decide +kernel | exact Or.inl rfl | exact Or.inr rfl | exact nobehind _ (by decide) (by decide) | (intros; rfl)))) (@da_cons _ _ _ _ _ (@de_tup _ _ _ _ _ (@da_cons _ _ _ _ _ (@de_str _ _ _ _ (by decide +kernel)) (@da_cons _ _ _ _ _ (@de_str _ _ _ _ (by decide +kernel)) (@da_nil _) (by first | rfl | decide +kernel | exact Or.inl rfl | exact Or.inr rfl | exact nobehind _ (by decide) (by decide) | (intros; rfl))) (by first | rfl | decide +kernel | exact Or.inl rfl | exact Or.inr rfl | exact nobehind _ (by decide) (by decide) | (intros; rfl)))) (@da_cons _ _ _ _ _ (@de_tup _ _ _ _ _ (@da_cons _ _ _ _ _ (@de_str _ _ _ _ (by decide +kernel)) (@da_cons _ _ _ _ _ (@de_str _ _ _ _ (by decide +kernel)) (@da_nil _) (by first | rfl | decide +kernel | exact Or.inl rfl | exact Or.inr rfl | exact nobehind _ (by decide) (by decide) | (intros; rfl))) (by first | rfl | decide +kernel | exact Or.inl rfl | exact Or.inr rfl | exact nobehind _ (by decide) (by decide) | (intros; rfl)))) (@da_nil _) (by first | rfl | decide +kernel | exact Or.inl rfl | exact Or.inr rfl | exact nobehind _ (by decide) (by decide) | (intros; rfl))) (by first | rfl | decide +kernel | exact Or.inl rfl | exact Or.inr rfl | exact nobehind _ (by decide) (by decide) | (intros; rfl))) (by first | rfl | decide +kernel | exact Or.inl rfl | exact Or.inr rfl | exact nobehind _ (by decide) (by decide) | (intros; rfl))) (by first | rfl | decide +kernel | exact Or.inl rfl | exact Or.inr rfl | exact nobehind _ (by decide) (by decide) | (intros; rfl))) (by first | rfl | decide +kernel | exact Or.inl rfl | exact Or.inr rfl | exact nobehind _ (by decide) (by decide) | (intros; rfl)))))) (by first | rfl | decide +kernel | exact Or.inl rfl | exact Or.inr rfl | exact nobehind _ (by decide) (by decide) | (intros; rfl)) (by first | rfl | decide +kernel | exact Or.inl rfl | exact Or.inr rfl | exact nobehind _ (by decide) (by decide) | (intros; rfl)) (by first | rfl | decide +kernel | exact Or.inl rfl | exact Or.inr rfl | exact nobehind _ (by decide) (by decide) | (intros; rfl)) (by first | rfl | decide +kernel | exact Or.inl rfl | exact Or.inr rfl | exact nobehind _ (by decide) (by decide) | (intros; rfl)))) (@dss_one _ _ _ (@ds_ret _ _ _ _ (@de_or _ _ _ _ _ _ _ (@de_cmp _ _ _ _ _ _ _ _ (op_dEq hr) (@dv _ _ 0 _ (by first | rfl | decide +kernel | exact Or.inl rfl | exact Or.inr rfl | exact nobehind _ (by decide) (by decide) | (intros; rfl)) (by first | rfl | decide +kernel | exact Or.inl rfl | exact Or.inr rfl | exact nobehind _ (by decide) (by decide) | (intros; rfl)) (by first | rfl | decide +kernel | exact Or.inl rfl | exact Or.inr rfl | exact nobehind _ (by decide) (by decide) | (intros; rfl)) (by first | rfl | decide +kernel | exact Or.inl rfl | exact Or.inr rfl | exact nobehind _ (by decide) (by decide) | (intros; rfl))) (@dv _ _ 1 _ (by first | rfl | decide +kernel | exact Or.inl rfl | exact Or.inr rfl | exact nobehind _ (by decide) (by decide) | (intros; rfl)) (by first | rfl | decide +kernel | exact Or.inl rfl | exact Or.inr rfl | exact nobehind _ (by decide) (by decide) | (intros; rfl)) (by first | rfl | decide +kernel | exact Or.inl rfl | exact Or.inr rfl | exact nobehind _ (by decide) (by decide) | (intros; rfl)) (by first | rfl | decide +kernel | exact Or.inl rfl | exact Or.inr rfl | exact nobehind _ (by decide) (by decide) | (intros; rfl))) (by first | rfl | decide +kernel | exact Or.inl rfl | exact Or.inr rfl | exact nobehind _ (by decide) (by decide) | (intros; rfl))) (@de_or _ _ _ _ _ _ _ (@de_cmp _ _ _ _ _ _ _ _ (op_dEq hr) (@dv _ _ 0 _ (by first | rfl | decide +kernel | exact Or.inl rfl | exact Or.inr rfl | exact nobehind _ (by decide) (by decide) | (intros; rfl)) (by first | rfl | decide +kernel | exact Or.inl rfl | exact Or.inr rfl | exact nobehind _ (by decide) (by decide) | (intros; rfl)) (by first | rfl | decide +kernel | exact Or.inl rfl | exact Or.inr rfl | exact nobehind _ (by decide) (by decide) | (intros; rfl)) (by first | rfl | decide +kernel | exact Or.inl rfl | exact Or.inr rfl | exact nobehind _ (by decide) (by decide) | (intros; rfl))) (@de_str _ _ _ _ (by decide +kernel)) (by first | rfl | decide +kernel | exact Or.inl rfl | exact Or.inr rfl | exact nobehind _ (by decide) (by decide) | (intros; rfl))) (@de_one _ _ _ _ _ (@de_cmp _ _ _ _ _ _ _ _ (op_dIn hr) (@de_tup _ _ _ _ _ (@da_cons _ _ _ _ _ (@dv _ _ 0 _ (by first | rfl | decide +kernel | exact Or.inl rfl | exact Or.inr rfl | exact nobehind _ (by decide) (by decide) | (intros; rfl)) (by first | rfl | decide +kernel | exact Or.inl rfl | exact Or.inr rfl | exact nobehind _ (by decide) (by decide) | (intros; rfl)) (by first | rfl | decide +kernel | exact Or.inl rfl | exact Or.inr rfl | exact nobehind _ (by decide) (by decide) | (intros; rfl)) (by first | rfl | decide +kernel | exact Or.inl rfl | exact Or.inr rfl | exact nobehind _ (by decide) (by decide) | (intros; rfl))) (@da_cons _ _ _ _ _ (@dv _ _ 1 _ (by first | rfl | decide +kernel | exact Or.inl rfl | exact Or.inr rfl | exact nobehind _ (by decide) (by decide) | (intros; rfl)) (by first | rfl | decide +kernel | exact Or.inl rfl | exact Or.inr rfl | exact nobehind _ (by decide) (by decide) | (intros; rfl)) (by first | rfl | decide +kernel | exact Or.inl rfl | exact Or.inr rfl | exact nobehind _ (by decide) (by decide) | (intros; rfl)) (by first | rfl | decide +kernel | exact Or.inl rfl | exact Or.inr rfl | exact nobehind _ (by decide) (by decide) | (intros; rfl))) (@da_nil _) (by first | rfl | decide +kernel | exact Or.inl rfl | exact Or.inr rfl | exact nobehind _ (by decide) (by decide) | (intros; rfl))) (by first | rfl | decide +kernel | exact Or.inl rfl | exact Or.inr rfl | exact nobehind _ (by decide) (by decide) | (intros; rfl)))) (@dv _ _ 2 _ (by first | rfl | decide +kernel | exact Or.inl rfl | exact Or.inr rfl | exact nobehind _ (by decide) (by decide) | (intros; rfl)) (by first | rfl | decide +kernel | exact Or.inl rfl | exact Or.inr rfl | exact nobehind _ (by decide) (by decide) | (intros; rfl)) (by first | rfl | decide +kernel | exact Or.inl rfl | exact Or.inr rfl | exact nobehind _ (by decide) (by decide) | (intros; rfl)) (by first | rfl | decide +kernel | exact Or.inl rfl | exact Or.inr rfl | exact nobehind _ (by decide) (by decide) | (intros; rfl))) (by first | rfl | decide +kernel | exact Or.inl rfl | exact Or.inr rfl | exact nobehind _ (by decide) (by decide) | (intros; rfl)))))))))), ?_⟩
  rintro ws h kk ⟨a, b, ha, hb, rfl, hk⟩
  have r0 : SeqAt.shaped (.str "real") = true := sh_a (by simp [promS])
  have e4 := k4
  unfold rowsL at e4
  unfold due rowsL at hk
  simp [dRet, dSeq, dNext, dAsg, dName, dIfS, dDrop, dC, dVar, dOp, dAdd, dSub, dMul, dDiv, dMod, dPow, dCmpI, dLt, dLe, dGt, dGe, dEq, dNe, dIs, DL.isSame, dIx, dSlT, dSlL, dSl3, dNoPart, dPart, dCB, dLen, dTuple, dListF, dCatF, dAll, dIsi, dCall, dTup, dLst, dCons, dNil, plains, dFrz, dCel, dB, dNot, dAnd, dOr, dAndV, dOrV, dNotV, dIf, dTTup, dTCons, dTNil, dSetI, dApp, DL.ref, dstart, dends, dpick, dComp, dYes, dFor, dEach, dRange1, dRange2, DL.cond, szl, dChain, dChain3, dNotInK, dIxK, dNeg, dInN, dIxD, dMax, dMin, dShr, dInN, dNoS, sh_a ha, sh_a hb, r0, e4, sh_2 ha hb]
  by_cases h1 : a = b
  · rw [if_pos h1]
    simpa [h1] using hk
  · rw [if_neg h1]
    by_cases h2 : a = "real"
    · rw [if_pos h2]
      simpa [h2] using hk
    · rw [if_neg h2]
      have e1 : (a == b) = false := beq_eq_false_iff_ne.mpr h1
      have e2 : (a == Str.ofString "real") = false := beq_eq_false_iff_ne.mpr h2
      simp only [e1, e2, Bool.false_or] at hk
      simpa using hk
end
end K52

set_option Elab.async false
set_option linter.all false
set_option autoImplicit false
set_option maxRecDepth 100000
set_option maxHeartbeats 4000000
namespace K52
open PySem PySem.Spec PyProof.Rows L2 DL SJ
section
variable {P : Program} {w : World} {K : PySem.W.Frag} {mg : Str → Option Value} {base : Heap} {C CJ cH cL cP cS cT : Addr} {uP : Value} {vP : V}
def sp_Lrefused : DSp := fun ws h k => preI ws ∧ k (.bool true) h
theorem ok_Lrefused {f fi : Addr} {fd fdi : FuncData} (F : Fun K "_law_refused" "_law_refused" s_Lrefused f fd) (B : Bl mg) (X : Er K mg base C CJ cH cL cP cS cT) (Fi : Fun K "implies" "implies" s_implies fi fdi) (mi : mg "implies" = some (.ref fi)) (bi : Binds K fdi ["strong", "weak"] [])
    (N : FnOk P w K mg base (CXN P w C) 2 fi fdi ["strong", "weak"] (upX K C preI)) : FnOk P w K mg base CX0 3 f fd ["_law_strong", "_law_weak"] (upSp K sp_Lrefused) := by
  have m_isinstance := B.isinstance
  refine dfn F sc_Lrefused (fun ws h k ⟨⟨_, _, e, _⟩, _⟩ => by subst e; rfl) fun cdv A outer s H E hr => ?_
  have hu := Room.units65 hr
  refine ⟨_, (dss_cons (ds_set (i := 2) sc_Lrefused.nd de_bl) (dss_cons (ds_try (C := C) (CJ := CJ) (i := 3) (pre := preI) N ⟨rfl, rfl, rfl⟩ (hr.mono (by omega)) mi Fi.kp bi (fun Ex => da_cons (dv 0) (da_cons (dv 1) da_nil)) X.mJ X.hJ sc_Lrefused.nd rfl rfl
    (fun ea oe hc hd => (dss_cons (ds_frz (dfs_of (i := 4) sc_Lrefused.nd (df_lst (da_cons (de_isx (i := 3) X.Z hc List.mem_cons_self m_isinstance (pe_glob (v := .ref _) rfl X.mNoHistory rfl) (fun _ z => z) X.kNoHistory) (da_cons (de_isx (i := 3) X.Z hc List.mem_cons_self m_isinstance (pe_glob (v := .ref _) rfl X.mNoLine rfl) (fun _ z => z) X.kNoLine) (da_cons (de_isx (i := 3) X.Z hc List.mem_cons_self m_isinstance (pe_glob (v := .ref _) rfl X.mNoProblem rfl) (fun _ z => z) X.kNoProblem) da_nil))))))
      (dss_cons (ds_frz (dfs_of (i := 4) sc_Lrefused.nd (df_cat (dv 4) (de_frz (df_lst (da_cons (de_isx (i := 3) X.Z hc List.mem_cons_self m_isinstance (pe_glob (v := .ref _) rfl X.mNoStore rfl) (fun _ z => z) X.kNoStore) (da_cons (de_isx (i := 3) X.Z hc List.mem_cons_self m_isinstance (pe_glob (v := .ref _) rfl X.mNoText rfl) (fun _ z => z) X.kNoText) da_nil)))))))
      (dss_one (ds_set (i := 2) sc_Lrefused.nd (de_and (de_isx (i := 3) X.Z hc List.mem_cons_self m_isinstance (pe_glob (v := .ref _) rfl X.mNoPromise rfl) (fun _ z => z) X.kNoPromise) (de_and (de_isx (i := 3) X.Z hc List.mem_cons_self m_isinstance (pe_bltn (v := .ty "ValueError") (u := .type "ValueError") rfl X.mValueError (by rfl) rfl) (fun _ z => z) X.kValueError) (de_one (de_cmp (op_dNotInU hu) de_bl (dv 4))))))))))) (dss_one (ds_ret (dv 2))))), ?_⟩
  rintro ws h kk ⟨⟨x, y, rfl, hx⟩, hk⟩
  simp [dRet, dSeq, dNext, dAsg, dName, dIfS, dDrop, dC, dVar, dOp, dAdd, dSub, dMul, dDiv, dMod, dPow, dCmpI, dLt, dLe, dGt, dGe, dEq, dNe, dIs, DL.isSame, dIx, dSlT, dSlL, dSl3, dNoPart, dPart, dCB, dLen, dTuple, dListF, dCatF, dAll, dIsi, dCall, dTup, dLst, dCons, dNil, plains, dFrz, dCel, dB, dNot, dAnd, dOr, dAndV, dOrV, dNotV, dIf, dTTup, dTCons, dTNil, dSetI, dApp, DL.ref, dstart, dends, dpick, dComp, dYes, dFor, dEach, dRange1, dRange2, DL.cond, szl, dChain, dChain3, dNotInK, dIxK, dNeg, dInN, dIxD, dMax, dMin, dShr, dInN, dNoS, dTry, doff, dIsx]
  refine ⟨⟨x, y, rfl, hx⟩, ?_⟩
  exact ⟨by decide +kernel, hk⟩
end
end K52

set_option Elab.async false
set_option linter.all false
set_option autoImplicit false
set_option maxRecDepth 100000
set_option maxHeartbeats 4000000
namespace K52
open PySem PySem.Spec PyProof.Rows L2 DL SJ
section
variable {P : Program} {w : World} {K : PySem.W.Frag} {mg : Str → Option Value} {base : Heap} {uP : Value} {vP : V}
theorem rng_nat {n : Nat} {x : PyData} (h : x ∈ rng 0 n) : ∃ i : Nat, i < n ∧ x = .int i := by
  unfold rng at h
  obtain ⟨i, hi, rfl⟩ := List.mem_map.mp h
  exact ⟨i, List.mem_range.mp hi, by simp⟩
def sp_law : DSp := fun ws h k => ∃ ns : List Int, ws = [.d (.list (nums ns))] ∧ ns.length ≤ 63 ∧ h = [] ∧ ∀ h', k (.bool true) h'
theorem ok_law {f : Addr} {fd : FuncData} (F : Fun K "law" "law" s_law f fd) (B : Bl mg) (hP : mg "PROMISES" = some uP) (rP : RelV vP uP) (dP : ∀ A H, Rep K A H (.tuple prom) vP) (F_Lcell_at : DFn P w K mg base 1 "_law_cell_at" sp_Lcell_at) (F_Ldrawn : DFn P w K mg base 1 "_law_drawn" sp_Ldrawn)
    (F_implies : DFn P w K mg base 2 "implies" sp_implies) (F_Ldue : DFn P w K mg base 1 "_law_due" sp_Ldue) (F_Lrefused : DFn P w K mg base 3 "_law_refused" sp_Lrefused) : FnOk P w K mg base CX0 4 f fd ["_law_script"] (upSp K sp_law) := by
  have m_bool := B.bool; have m_isinstance := B.isinstance; have m_len := B.len; have m_max := B.max; have m_min := B.min; have m_range := B.range
  refine dfn F sc_law (fun ws h k ⟨_, e, _⟩ => by subst e; rfl) fun cdv A outer s H E hr => ⟨_, (@dss_cons _ _ _ _ _ (@ds_for _ _ _ _ _ _ _ _ rfl rfl (@di_range1 _ _ _ _ _ _ m_range (@da_cons _ _ _ _ _ (@de_callB _ _ _ _ _ _ _ _ _ (call_dMax rfl) m_max (@da_cons _ _ _ _ _ (@de_int _ _ _ _) (@da_cons _ _ _ _ _ (@de_callB _ _ _ _ _ _ _ _ _ (call_dMin rfl) m_min (@da_cons _ _ _ _ _ (@de_callB _ _ _ _ _ _ _ _ _ call_dLen m_len (@da_cons _ _ _ _ _ (@dv _ _ 0 _ (by first | rfl | decide +kernel | exact Or.inl rfl | exact Or.inr rfl | exact nobehind _ (by decide) (by decide) | (intro _ _; rfl) | (intro _; rfl) | (intros; rfl)) (by first | rfl | decide +kernel | exact Or.inl rfl | exact Or.inr rfl | exact nobehind _ (by decide) (by decide) | (intro _ _; rfl) | (intro _; rfl) | (intros; rfl)) (by first | rfl | decide +kernel | exact Or.inl rfl | exact Or.inr rfl | exact nobehind _ (by decide) (by decide) | (intro _ _; rfl) | (intro _; rfl) | (intros; rfl)) (by first | rfl | decide +kernel | exact Or.inl rfl | exact Or.inr rfl | exact nobehind _ (by decide) (by decide) | (intro _ _; rfl) | (intro _; rfl) | (intros; rfl))) (@da_nil _) (by first | rfl | decide +kernel | exact Or.inl rfl | exact Or.inr rfl | exact nobehind _ (by decide) (by decide) | (intro _ _; rfl) | (intro _; rfl) | (intros; rfl))) (by first | rfl | decide +kernel | exact Or.inl rfl | exact Or.inr rfl | exact nobehind _ (by decide) (by decide) | (intro _ _; rfl) | (intro _; rfl) | (intros; rfl)) (by first | rfl | decide +kernel | exact Or.inl rfl | exact Or.inr rfl | exact nobehind _ (by decide) (by decide) | (intro _ _; rfl) | (intro _; rfl) | (intros; rfl)) (by first | rfl | decide +kernel | exact Or.inl rfl | exact Or.inr rfl | exact nobehind _ (by decide) (by decide) | (intro _ _; rfl) | (intro _; rfl) | (intros; rfl)) (by first | rfl | decide +kernel | exact Or.inl rfl | exact Or.inr rfl | exact nobehind _ (by decide) (by decide) | (intro _ _; rfl) | (intro _; rfl) | (intros; rfl)) (by first | rfl | decide +kernel | exact Or.inl rfl | exact Or.inr rfl | exact nobehind _ (by decide) (by decide) | (intro _ _; rfl) | (intro _; rfl) | (intros; rfl)) (by first | rfl | decide +kernel | exact Or.inl rfl | exact Or.inr rfl | exact nobehind _ (by decide) (by decide) | (intro _ _; rfl) | (intro _; rfl) | (intros; rfl))) (@da_cons _ _ _ _ _ (@de_int _ _ _ _) (@da_nil _) (by first | rfl | decide +kernel | exact Or.inl rfl | exact Or.inr rfl | exact nobehind _ (by decide) (by decide) | (intro _ _; rfl) | (intro _; rfl) | (intros; rfl))) (by first | rfl | decide +kernel | exact Or.inl rfl | exact Or.inr rfl | exact nobehind _ (by decide) (by decide) | (intro _ _; rfl) | (intro _; rfl) | (intros; rfl))) (by first | rfl | decide +kernel | exact Or.inl rfl | exact Or.inr rfl | exact nobehind _ (by decide) (by decide) | (intro _ _; rfl) | (intro _; rfl) | (intros; rfl)) (by first | rfl | decide +kernel | exact Or.inl rfl | exact Or.inr rfl | exact nobehind _ (by decide) (by decide) | (intro _ _; rfl) | (intro _; rfl) | (intros; rfl)) (by first | rfl | decide +kernel | exact Or.inl rfl | exact Or.inr rfl | exact nobehind _ (by decide) (by decide) | (intro _ _; rfl) | (intro _; rfl) | (intros; rfl)) (by first | rfl | decide +kernel | exact Or.inl rfl | exact Or.inr rfl | exact nobehind _ (by decide) (by decide) | (intro _ _; rfl) | (intro _; rfl) | (intros; rfl)) (by first | rfl | decide +kernel | exact Or.inl rfl | exact Or.inr rfl | exact nobehind _ (by decide) (by decide) | (intro _ _; rfl) | (intro _; rfl) | (intros; rfl)) (by first | rfl | decide +kernel | exact Or.inl rfl | exact Or.inr rfl | exact nobehind _ (by decide) (by decide) | (intro _ _; rfl) | (intro _; rfl) | (intros; rfl))) (@da_nil _) (by first | rfl | decide +kernel | exact Or.inl rfl | exact Or.inr rfl | exact nobehind _ (by decide) (by decide) | (intro _ _; rfl) | (intro _; rfl) | (intros; rfl))) (by first | rfl | decide +kernel | exact Or.inl rfl | exact Or.inr rfl | exact nobehind _ (by decide) (by decide) | (intro _ _; rfl) | (intro _; rfl) | (intros; rfl))) (by first | rfl | decide +kernel | exact Or.inl rfl | exact Or.inr rfl | exact nobehind _ (by decide) (by decide) | (intro _ _; rfl) | (intro _; rfl) | (intros; rfl)) (by first | rfl | decide +kernel | exact Or.inl rfl | exact Or.inr rfl | exact nobehind _ (by decide) (by decide) | (intro _ _; rfl) | (intro _; rfl) | (intros; rfl)) (by first | rfl | decide +kernel | exact Or.inl rfl | exact Or.inr rfl | exact nobehind _ (by decide) (by decide) | (intro _ _; rfl) | (intro _; rfl) | (intros; rfl)) (by first | rfl | decide +kernel | exact Or.inl rfl | exact Or.inr rfl | exact nobehind _ (by decide) (by decide) | (intro _ _; rfl) | (intro _; rfl) | (intros; rfl)) (by first | rfl | decide +kernel | exact Or.inl rfl | exact Or.inr rfl | exact nobehind _ (by decide) (by decide) | (intro _ _; rfl) | (intro _; rfl) | (intros; rfl)) (by first | rfl | decide +kernel | exact Or.inl rfl | exact Or.inr rfl | exact nobehind _ (by decide) (by decide) | (intro _ _; rfl) | (intro _; rfl) | (intros; rfl))) (@da_nil _) (by first | rfl | decide +kernel | exact Or.inl rfl | exact Or.inr rfl | exact nobehind _ (by decide) (by decide) | (intro _ _; rfl) | (intro _; rfl) | (intros; rfl))) (by first | rfl | decide +kernel | exact Or.inl rfl | exact Or.inr rfl | exact nobehind _ (by decide) (by decide) | (intro _ _; rfl) | (intro _; rfl) | (intros; rfl)) (by first | rfl | decide +kernel | exact Or.inl rfl | exact Or.inr rfl | exact nobehind _ (by decide) (by decide) | (intro _ _; rfl) | (intro _; rfl) | (intros; rfl))) (@dg_name _ _ (1) _ sc_law.nd (by first | rfl | decide +kernel | exact Or.inl rfl | exact Or.inr rfl | exact nobehind _ (by decide) (by decide) | (intro _ _; rfl) | (intro _; rfl) | (intros; rfl)) (by first | rfl | decide +kernel | exact Or.inl rfl | exact Or.inr rfl | exact nobehind _ (by decide) (by decide) | (intro _ _; rfl) | (intro _; rfl) | (intros; rfl)) (by first | rfl | decide +kernel | exact Or.inl rfl | exact Or.inr rfl | exact nobehind _ (by decide) (by decide) | (intro _ _; rfl) | (intro _; rfl) | (intros; rfl))) (@dss_cons _ _ _ _ _ (@ds_set _ _ _ _ (2) _ _ sc_law.nd (@de_call _ _ _ _ _ _ _ _ _ F_Ldrawn (hr.mono (by omega)) (@da_cons _ _ _ _ _ (@de_call _ _ _ _ _ _ _ _ _ F_Lcell_at (hr.mono (by omega)) (@da_cons _ _ _ _ _ (@dv _ _ 0 _ (by first | rfl | decide +kernel | exact Or.inl rfl | exact Or.inr rfl | exact nobehind _ (by decide) (by decide) | (intro _ _; rfl) | (intro _; rfl) | (intros; rfl)) (by first | rfl | decide +kernel | exact Or.inl rfl | exact Or.inr rfl | exact nobehind _ (by decide) (by decide) | (intro _ _; rfl) | (intro _; rfl) | (intros; rfl)) (by first | rfl | decide +kernel | exact Or.inl rfl | exact Or.inr rfl | exact nobehind _ (by decide) (by decide) | (intro _ _; rfl) | (intro _; rfl) | (intros; rfl)) (by first | rfl | decide +kernel | exact Or.inl rfl | exact Or.inr rfl | exact nobehind _ (by decide) (by decide) | (intro _ _; rfl) | (intro _; rfl) | (intros; rfl))) (@da_cons _ _ _ _ _ (@dv _ _ 1 _ (by first | rfl | decide +kernel | exact Or.inl rfl | exact Or.inr rfl | exact nobehind _ (by decide) (by decide) | (intro _ _; rfl) | (intro _; rfl) | (intros; rfl)) (by first | rfl | decide +kernel | exact Or.inl rfl | exact Or.inr rfl | exact nobehind _ (by decide) (by decide) | (intro _ _; rfl) | (intro _; rfl) | (intros; rfl)) (by first | rfl | decide +kernel | exact Or.inl rfl | exact Or.inr rfl | exact nobehind _ (by decide) (by decide) | (intro _ _; rfl) | (intro _; rfl) | (intros; rfl)) (by first | rfl | decide +kernel | exact Or.inl rfl | exact Or.inr rfl | exact nobehind _ (by decide) (by decide) | (intro _ _; rfl) | (intro _; rfl) | (intros; rfl))) (@da_nil _) (by first | rfl | decide +kernel | exact Or.inl rfl | exact Or.inr rfl | exact nobehind _ (by decide) (by decide) | (intro _ _; rfl) | (intro _; rfl) | (intros; rfl))) (by first | rfl | decide +kernel | exact Or.inl rfl | exact Or.inr rfl | exact nobehind _ (by decide) (by decide) | (intro _ _; rfl) | (intro _; rfl) | (intros; rfl))) (by first | rfl | decide +kernel | exact Or.inl rfl | exact Or.inr rfl | exact nobehind _ (by decide) (by decide) | (intro _ _; rfl) | (intro _; rfl) | (intros; rfl)) (by first | rfl | decide +kernel | exact Or.inl rfl | exact Or.inr rfl | exact nobehind _ (by decide) (by decide) | (intro _ _; rfl) | (intro _; rfl) | (intros; rfl)) (by first | rfl | decide +kernel | exact Or.inl rfl | exact Or.inr rfl | exact nobehind _ (by decide) (by decide) | (intro _ _; rfl) | (intro _; rfl) | (intros; rfl)) (by first | rfl | decide +kernel | exact Or.inl rfl | exact Or.inr rfl | exact nobehind _ (by decide) (by decide) | (intro _ _; rfl) | (intro _; rfl) | (intros; rfl))) (@da_cons _ _ _ _ _ (@dv _ _ 1 _ (by first | rfl | decide +kernel | exact Or.inl rfl | exact Or.inr rfl | exact nobehind _ (by decide) (by decide) | (intro _ _; rfl) | (intro _; rfl) | (intros; rfl)) (by first | rfl | decide +kernel | exact Or.inl rfl | exact Or.inr rfl | exact nobehind _ (by decide) (by decide) | (intro _ _; rfl) | (intro _; rfl) | (intros; rfl)) (by first | rfl | decide +kernel | exact Or.inl rfl | exact Or.inr rfl | exact nobehind _ (by decide) (by decide) | (intro _ _; rfl) | (intro _; rfl) | (intros; rfl)) (by first | rfl | decide +kernel | exact Or.inl rfl | exact Or.inr rfl | exact nobehind _ (by decide) (by decide) | (intro _ _; rfl) | (intro _; rfl) | (intros; rfl))) (@da_nil _) (by first | rfl | decide +kernel | exact Or.inl rfl | exact Or.inr rfl | exact nobehind _ (by decide) (by decide) | (intro _ _; rfl) | (intro _; rfl) | (intros; rfl))) (by first | rfl | decide +kernel | exact Or.inl rfl | exact Or.inr rfl | exact nobehind _ (by decide) (by decide) | (intro _ _; rfl) | (intro _; rfl) | (intros; rfl))) (by first | rfl | decide +kernel | exact Or.inl rfl | exact Or.inr rfl | exact nobehind _ (by decide) (by decide) | (intro _ _; rfl) | (intro _; rfl) | (intros; rfl)) (by first | rfl | decide +kernel | exact Or.inl rfl | exact Or.inr rfl | exact nobehind _ (by decide) (by decide) | (intro _ _; rfl) | (intro _; rfl) | (intros; rfl)) (by first | rfl | decide +kernel | exact Or.inl rfl | exact Or.inr rfl | exact nobehind _ (by decide) (by decide) | (intro _ _; rfl) | (intro _; rfl) | (intros; rfl)) (by first | rfl | decide +kernel | exact Or.inl rfl | exact Or.inr rfl | exact nobehind _ (by decide) (by decide) | (intro _ _; rfl) | (intro _; rfl) | (intros; rfl))) (by first | rfl | decide +kernel | exact Or.inl rfl | exact Or.inr rfl | exact nobehind _ (by decide) (by decide) | (intro _ _; rfl) | (intro _; rfl) | (intros; rfl)) (by first | rfl | decide +kernel | exact Or.inl rfl | exact Or.inr rfl | exact nobehind _ (by decide) (by decide) | (intro _ _; rfl) | (intro _; rfl) | (intros; rfl)) (by first | rfl | decide +kernel | exact Or.inl rfl | exact Or.inr rfl | exact nobehind _ (by decide) (by decide) | (intro _ _; rfl) | (intro _; rfl) | (intros; rfl)) (by first | rfl | decide +kernel | exact Or.inl rfl | exact Or.inr rfl | exact nobehind _ (by decide) (by decide) | (intro _ _; rfl) | (intro _; rfl) | (intros; rfl))) (@dss_cons _ _ _ _ _ (@ds_set _ _ _ _ (3) _ _ sc_law.nd (@de_ix _ _ _ _ _ _ (@de_glob _ _ _ _ _ _ hP rP dP (by first | rfl | decide +kernel | exact Or.inl rfl | exact Or.inr rfl | exact nobehind _ (by decide) (by decide) | (intro _ _; rfl) | (intro _; rfl) | (intros; rfl)) (by first | rfl | decide +kernel | exact Or.inl rfl | exact Or.inr rfl | exact nobehind _ (by decide) (by decide) | (intro _ _; rfl) | (intro _; rfl) | (intros; rfl))) (@de_op _ _ _ _ _ _ _ _ op_dMod (@dv _ _ 2 _ (by first | rfl | decide +kernel | exact Or.inl rfl | exact Or.inr rfl | exact nobehind _ (by decide) (by decide) | (intro _ _; rfl) | (intro _; rfl) | (intros; rfl)) (by first | rfl | decide +kernel | exact Or.inl rfl | exact Or.inr rfl | exact nobehind _ (by decide) (by decide) | (intro _ _; rfl) | (intro _; rfl) | (intros; rfl)) (by first | rfl | decide +kernel | exact Or.inl rfl | exact Or.inr rfl | exact nobehind _ (by decide) (by decide) | (intro _ _; rfl) | (intro _; rfl) | (intros; rfl)) (by first | rfl | decide +kernel | exact Or.inl rfl | exact Or.inr rfl | exact nobehind _ (by decide) (by decide) | (intro _ _; rfl) | (intro _; rfl) | (intros; rfl))) (@de_int _ _ _ _)) (by first | rfl | decide +kernel | exact Or.inl rfl | exact Or.inr rfl | exact nobehind _ (by decide) (by decide) | (intro _ _; rfl) | (intro _; rfl) | (intros; rfl))) (by first | rfl | decide +kernel | exact Or.inl rfl | exact Or.inr rfl | exact nobehind _ (by decide) (by decide) | (intro _ _; rfl) | (intro _; rfl) | (intros; rfl)) (by first | rfl | decide +kernel | exact Or.inl rfl | exact Or.inr rfl | exact nobehind _ (by decide) (by decide) | (intro _ _; rfl) | (intro _; rfl) | (intros; rfl)) (by first | rfl | decide +kernel | exact Or.inl rfl | exact Or.inr rfl | exact nobehind _ (by decide) (by decide) | (intro _ _; rfl) | (intro _; rfl) | (intros; rfl)) (by first | rfl | decide +kernel | exact Or.inl rfl | exact Or.inr rfl | exact nobehind _ (by decide) (by decide) | (intro _ _; rfl) | (intro _; rfl) | (intros; rfl))) (@dss_cons _ _ _ _ _ (@ds_set _ _ _ _ (4) _ _ sc_law.nd (@de_ix _ _ _ _ _ _ (@de_glob _ _ _ _ _ _ hP rP dP (by first | rfl | decide +kernel | exact Or.inl rfl | exact Or.inr rfl | exact nobehind _ (by decide) (by decide) | (intro _ _; rfl) | (intro _; rfl) | (intros; rfl)) (by first | rfl | decide +kernel | exact Or.inl rfl | exact Or.inr rfl | exact nobehind _ (by decide) (by decide) | (intro _ _; rfl) | (intro _; rfl) | (intros; rfl))) (@de_op _ _ _ _ _ _ _ _ op_dMod (@de_op _ _ _ _ _ _ _ _ op_dDiv (@dv _ _ 2 _ (by first | rfl | decide +kernel | exact Or.inl rfl | exact Or.inr rfl | exact nobehind _ (by decide) (by decide) | (intro _ _; rfl) | (intro _; rfl) | (intros; rfl)) (by first | rfl | decide +kernel | exact Or.inl rfl | exact Or.inr rfl | exact nobehind _ (by decide) (by decide) | (intro _ _; rfl) | (intro _; rfl) | (intros; rfl)) (by first | rfl | decide +kernel | exact Or.inl rfl | exact Or.inr rfl | exact nobehind _ (by decide) (by decide) | (intro _ _; rfl) | (intro _; rfl) | (intros; rfl)) (by first | rfl | decide +kernel | exact Or.inl rfl | exact Or.inr rfl | exact nobehind _ (by decide) (by decide) | (intro _ _; rfl) | (intro _; rfl) | (intros; rfl))) (@de_int _ _ _ _)) (@de_int _ _ _ _)) (by first | rfl | decide +kernel | exact Or.inl rfl | exact Or.inr rfl | exact nobehind _ (by decide) (by decide) | (intro _ _; rfl) | (intro _; rfl) | (intros; rfl))) (by first | rfl | decide +kernel | exact Or.inl rfl | exact Or.inr rfl | exact nobehind _ (by decide) (by decide) | (intro _ _; rfl) | (intro _; rfl) | (intros; rfl)) (by first | rfl | decide +kernel | exact Or.inl rfl | exact Or.inr rfl | exact nobehind _ (by decide) (by decide) | (intro _ _; rfl) | (intro _; rfl) | (intros; rfl)) (by first | rfl | decide +kernel | exact Or.inl rfl | exact Or.inr rfl | exact nobehind _ (by decide) (by decide) | (intro _ _; rfl) | (intro _; rfl) | (intros; rfl)) (by first | rfl | decide +kernel | exact Or.inl rfl | exact Or.inr rfl | exact nobehind _ (by decide) (by decide) | (intro _ _; rfl) | (intro _; rfl) | (intros; rfl))) (@dss_cons _ _ _ _ _ (@ds_set _ _ _ _ (5) _ _ sc_law.nd (@de_call _ _ _ _ _ _ _ _ _ F_implies (hr.mono (by omega)) (@da_cons _ _ _ _ _ (@dv _ _ 3 _ (by first | rfl | decide +kernel | exact Or.inl rfl | exact Or.inr rfl | exact nobehind _ (by decide) (by decide) | (intro _ _; rfl) | (intro _; rfl) | (intros; rfl)) (by first | rfl | decide +kernel | exact Or.inl rfl | exact Or.inr rfl | exact nobehind _ (by decide) (by decide) | (intro _ _; rfl) | (intro _; rfl) | (intros; rfl)) (by first | rfl | decide +kernel | exact Or.inl rfl | exact Or.inr rfl | exact nobehind _ (by decide) (by decide) | (intro _ _; rfl) | (intro _; rfl) | (intros; rfl)) (by first | rfl | decide +kernel | exact Or.inl rfl | exact Or.inr rfl | exact nobehind _ (by decide) (by decide) | (intro _ _; rfl) | (intro _; rfl) | (intros; rfl))) (@da_cons _ _ _ _ _ (@dv _ _ 4 _ (by first | rfl | decide +kernel | exact Or.inl rfl | exact Or.inr rfl | exact nobehind _ (by decide) (by decide) | (intro _ _; rfl) | (intro _; rfl) | (intros; rfl)) (by first | rfl | decide +kernel | exact Or.inl rfl | exact Or.inr rfl | exact nobehind _ (by decide) (by decide) | (intro _ _; rfl) | (intro _; rfl) | (intros; rfl)) (by first | rfl | decide +kernel | exact Or.inl rfl | exact Or.inr rfl | exact nobehind _ (by decide) (by decide) | (intro _ _; rfl) | (intro _; rfl) | (intros; rfl)) (by first | rfl | decide +kernel | exact Or.inl rfl | exact Or.inr rfl | exact nobehind _ (by decide) (by decide) | (intro _ _; rfl) | (intro _; rfl) | (intros; rfl))) (@da_nil _) (by first | rfl | decide +kernel | exact Or.inl rfl | exact Or.inr rfl | exact nobehind _ (by decide) (by decide) | (intro _ _; rfl) | (intro _; rfl) | (intros; rfl))) (by first | rfl | decide +kernel | exact Or.inl rfl | exact Or.inr rfl | exact nobehind _ (by decide) (by decide) | (intro _ _; rfl) | (intro _; rfl) | (intros; rfl))) (by first | rfl | decide +kernel | exact Or.inl rfl | exact Or.inr rfl | exact nobehind _ (by decide) (by decide) | (intro _ _; rfl) | (intro _; rfl) | (intros; rfl)) (by first | rfl | decide +kernel | exact Or.inl rfl | exact Or.inr rfl | exact nobehind _ (by decide) (by decide) | (intro _ _; rfl) | (intro _; rfl) | (intros; rfl)) (by first | rfl | decide +kernel | exact Or.inl rfl | exact Or.inr rfl | exact nobehind _ (by decide) (by decide) | (intro _ _; rfl) | (intro _; rfl) | (intros; rfl)) (by first | rfl | decide +kernel | exact Or.inl rfl | exact Or.inr rfl | exact nobehind _ (by decide) (by decide) | (intro _ _; rfl) | (intro _; rfl) | (intros; rfl))) (by first | rfl | decide +kernel | exact Or.inl rfl | exact Or.inr rfl | exact nobehind _ (by decide) (by decide) | (intro _ _; rfl) | (intro _; rfl) | (intros; rfl)) (by first | rfl | decide +kernel | exact Or.inl rfl | exact Or.inr rfl | exact nobehind _ (by decide) (by decide) | (intro _ _; rfl) | (intro _; rfl) | (intros; rfl)) (by first | rfl | decide +kernel | exact Or.inl rfl | exact Or.inr rfl | exact nobehind _ (by decide) (by decide) | (intro _ _; rfl) | (intro _; rfl) | (intros; rfl)) (by first | rfl | decide +kernel | exact Or.inl rfl | exact Or.inr rfl | exact nobehind _ (by decide) (by decide) | (intro _ _; rfl) | (intro _; rfl) | (intros; rfl))) (@dss_cons _ _ _ _ _ (@ds_if _ _ _ _ _ _ _ _ (@DW.dt _ _ _ (@dw_or _ _ _ _ _ _ _ (@dt_not _ _ _ _ (@dt_val _ _ _ (@de_isi _ _ _ _ _ _ _ _ kit_bool m_isinstance m_bool (@dv _ _ 5 _ (by first | rfl | decide +kernel | exact Or.inl rfl | exact Or.inr rfl | exact nobehind _ (by decide) (by decide) | (intro _ _; rfl) | (intro _; rfl) | (intros; rfl)) (by first | rfl | decide +kernel | exact Or.inl rfl | exact Or.inr rfl | exact nobehind _ (by decide) (by decide) | (intro _ _; rfl) | (intro _; rfl) | (intros; rfl)) (by first | rfl | decide +kernel | exact Or.inl rfl | exact Or.inr rfl | exact nobehind _ (by decide) (by decide) | (intro _ _; rfl) | (intro _; rfl) | (intros; rfl)) (by first | rfl | decide +kernel | exact Or.inl rfl | exact Or.inr rfl | exact nobehind _ (by decide) (by decide) | (intro _ _; rfl) | (intro _; rfl) | (intros; rfl))) (by first | rfl | decide +kernel | exact Or.inl rfl | exact Or.inr rfl | exact nobehind _ (by decide) (by decide) | (intro _ _; rfl) | (intro _; rfl) | (intros; rfl)) (by first | rfl | decide +kernel | exact Or.inl rfl | exact Or.inr rfl | exact nobehind _ (by decide) (by decide) | (intro _ _; rfl) | (intro _; rfl) | (intros; rfl)) (by first | rfl | decide +kernel | exact Or.inl rfl | exact Or.inr rfl | exact nobehind _ (by decide) (by decide) | (intro _ _; rfl) | (intro _; rfl) | (intros; rfl)) (by first | rfl | decide +kernel | exact Or.inl rfl | exact Or.inr rfl | exact nobehind _ (by decide) (by decide) | (intro _ _; rfl) | (intro _; rfl) | (intros; rfl)) (by first | rfl | decide +kernel | exact Or.inl rfl | exact Or.inr rfl | exact nobehind _ (by decide) (by decide) | (intro _ _; rfl) | (intro _; rfl) | (intros; rfl)) (by first | rfl | decide +kernel | exact Or.inl rfl | exact Or.inr rfl | exact nobehind _ (by decide) (by decide) | (intro _ _; rfl) | (intro _; rfl) | (intros; rfl)) (by first | rfl | decide +kernel | exact Or.inl rfl | exact Or.inr rfl | exact nobehind _ (by decide) (by decide) | (intro _ _; rfl) | (intro _; rfl) | (intros; rfl)) (by first | rfl | decide +kernel | exact Or.inl rfl | exact Or.inr rfl | exact nobehind _ (by decide) (by decide) | (intro _ _; rfl) | (intro _; rfl) | (intros; rfl))) (by first | rfl | decide +kernel | exact Or.inl rfl | exact Or.inr rfl | exact nobehind _ (by decide) (by decide) | (intro _ _; rfl) | (intro _; rfl) | (intros; rfl)))) (@dw_or1 _ _ _ _ (@dt_cmp _ _ _ _ _ _ _ _ (op_dNe hr) (@dv _ _ 5 _ (by first | rfl | decide +kernel | exact Or.inl rfl | exact Or.inr rfl | exact nobehind _ (by decide) (by decide) | (intro _ _; rfl) | (intro _; rfl) | (intros; rfl)) (by first | rfl | decide +kernel | exact Or.inl rfl | exact Or.inr rfl | exact nobehind _ (by decide) (by decide) | (intro _ _; rfl) | (intro _; rfl) | (intros; rfl)) (by first | rfl | decide +kernel | exact Or.inl rfl | exact Or.inr rfl | exact nobehind _ (by decide) (by decide) | (intro _ _; rfl) | (intro _; rfl) | (intros; rfl)) (by first | rfl | decide +kernel | exact Or.inl rfl | exact Or.inr rfl | exact nobehind _ (by decide) (by decide) | (intro _ _; rfl) | (intro _; rfl) | (intros; rfl))) (@de_call _ _ _ _ _ _ _ _ _ F_Ldue (hr.mono (by omega)) (@da_cons _ _ _ _ _ (@dv _ _ 3 _ (by first | rfl | decide +kernel | exact Or.inl rfl | exact Or.inr rfl | exact nobehind _ (by decide) (by decide) | (intro _ _; rfl) | (intro _; rfl) | (intros; rfl)) (by first | rfl | decide +kernel | exact Or.inl rfl | exact Or.inr rfl | exact nobehind _ (by decide) (by decide) | (intro _ _; rfl) | (intro _; rfl) | (intros; rfl)) (by first | rfl | decide +kernel | exact Or.inl rfl | exact Or.inr rfl | exact nobehind _ (by decide) (by decide) | (intro _ _; rfl) | (intro _; rfl) | (intros; rfl)) (by first | rfl | decide +kernel | exact Or.inl rfl | exact Or.inr rfl | exact nobehind _ (by decide) (by decide) | (intro _ _; rfl) | (intro _; rfl) | (intros; rfl))) (@da_cons _ _ _ _ _ (@dv _ _ 4 _ (by first | rfl | decide +kernel | exact Or.inl rfl | exact Or.inr rfl | exact nobehind _ (by decide) (by decide) | (intro _ _; rfl) | (intro _; rfl) | (intros; rfl)) (by first | rfl | decide +kernel | exact Or.inl rfl | exact Or.inr rfl | exact nobehind _ (by decide) (by decide) | (intro _ _; rfl) | (intro _; rfl) | (intros; rfl)) (by first | rfl | decide +kernel | exact Or.inl rfl | exact Or.inr rfl | exact nobehind _ (by decide) (by decide) | (intro _ _; rfl) | (intro _; rfl) | (intros; rfl)) (by first | rfl | decide +kernel | exact Or.inl rfl | exact Or.inr rfl | exact nobehind _ (by decide) (by decide) | (intro _ _; rfl) | (intro _; rfl) | (intros; rfl))) (@da_nil _) (by first | rfl | decide +kernel | exact Or.inl rfl | exact Or.inr rfl | exact nobehind _ (by decide) (by decide) | (intro _ _; rfl) | (intro _; rfl) | (intros; rfl))) (by first | rfl | decide +kernel | exact Or.inl rfl | exact Or.inr rfl | exact nobehind _ (by decide) (by decide) | (intro _ _; rfl) | (intro _; rfl) | (intros; rfl))) (by first | rfl | decide +kernel | exact Or.inl rfl | exact Or.inr rfl | exact nobehind _ (by decide) (by decide) | (intro _ _; rfl) | (intro _; rfl) | (intros; rfl)) (by first | rfl | decide +kernel | exact Or.inl rfl | exact Or.inr rfl | exact nobehind _ (by decide) (by decide) | (intro _ _; rfl) | (intro _; rfl) | (intros; rfl)) (by first | rfl | decide +kernel | exact Or.inl rfl | exact Or.inr rfl | exact nobehind _ (by decide) (by decide) | (intro _ _; rfl) | (intro _; rfl) | (intros; rfl)) (by first | rfl | decide +kernel | exact Or.inl rfl | exact Or.inr rfl | exact nobehind _ (by decide) (by decide) | (intro _ _; rfl) | (intro _; rfl) | (intros; rfl))) (by first | rfl | decide +kernel | exact Or.inl rfl | exact Or.inr rfl | exact nobehind _ (by decide) (by decide) | (intro _ _; rfl) | (intro _; rfl) | (intros; rfl)))))) (@dss_one _ _ _ (@ds_ret _ _ _ _ (@de_bl _ _ _ _))) (@dss_nil _)) (@dss_cons _ _ _ _ _ (@ds_set _ _ _ _ (6) _ _ sc_law.nd (@de_ix _ _ _ _ _ _ (@de_frz _ _ _ (@df_lst _ _ _ _ (@da_cons _ _ _ _ _ (@de_str _ _ _ _ (by decide +kernel)) (@da_cons _ _ _ _ _ (@de_str _ _ _ _ (by decide +kernel)) (@da_cons _ _ _ _ _ (@de_str _ _ _ _ (by decide +kernel)) (@da_cons _ _ _ _ _ (@de_non _ _ _) (@da_cons _ _ _ _ _ (@de_int _ _ _ _) (@da_cons _ _ _ _ _ (@de_tup _ _ _ _ _ (@da_cons _ _ _ _ _ (@de_str _ _ _ _ (by decide +kernel)) (@da_nil _) (by first | rfl | decide +kernel | exact Or.inl rfl | exact Or.inr rfl | exact nobehind _ (by decide) (by decide) | (intro _ _; rfl) | (intro _; rfl) | (intros; rfl)))) (@da_cons _ _ _ _ _ (@de_str _ _ _ _ (by decide +kernel)) (@da_nil _) (by first | rfl | decide +kernel | exact Or.inl rfl | exact Or.inr rfl | exact nobehind _ (by decide) (by decide) | (intro _ _; rfl) | (intro _; rfl) | (intros; rfl))) (by first | rfl | decide +kernel | exact Or.inl rfl | exact Or.inr rfl | exact nobehind _ (by decide) (by decide) | (intro _ _; rfl) | (intro _; rfl) | (intros; rfl))) (by first | rfl | decide +kernel | exact Or.inl rfl | exact Or.inr rfl | exact nobehind _ (by decide) (by decide) | (intro _ _; rfl) | (intro _; rfl) | (intros; rfl))) (by first | rfl | decide +kernel | exact Or.inl rfl | exact Or.inr rfl | exact nobehind _ (by decide) (by decide) | (intro _ _; rfl) | (intro _; rfl) | (intros; rfl))) (by first | rfl | decide +kernel | exact Or.inl rfl | exact Or.inr rfl | exact nobehind _ (by decide) (by decide) | (intro _ _; rfl) | (intro _; rfl) | (intros; rfl))) (by first | rfl | decide +kernel | exact Or.inl rfl | exact Or.inr rfl | exact nobehind _ (by decide) (by decide) | (intro _ _; rfl) | (intro _; rfl) | (intros; rfl))) (by first | rfl | decide +kernel | exact Or.inl rfl | exact Or.inr rfl | exact nobehind _ (by decide) (by decide) | (intro _ _; rfl) | (intro _; rfl) | (intros; rfl))))) (@de_op _ _ _ _ _ _ _ _ op_dMod (@de_op _ _ _ _ _ _ _ _ op_dDiv (@dv _ _ 2 _ (by first | rfl | decide +kernel | exact Or.inl rfl | exact Or.inr rfl | exact nobehind _ (by decide) (by decide) | (intro _ _; rfl) | (intro _; rfl) | (intros; rfl)) (by first | rfl | decide +kernel | exact Or.inl rfl | exact Or.inr rfl | exact nobehind _ (by decide) (by decide) | (intro _ _; rfl) | (intro _; rfl) | (intros; rfl)) (by first | rfl | decide +kernel | exact Or.inl rfl | exact Or.inr rfl | exact nobehind _ (by decide) (by decide) | (intro _ _; rfl) | (intro _; rfl) | (intros; rfl)) (by first | rfl | decide +kernel | exact Or.inl rfl | exact Or.inr rfl | exact nobehind _ (by decide) (by decide) | (intro _ _; rfl) | (intro _; rfl) | (intros; rfl))) (@de_int _ _ _ _)) (@de_int _ _ _ _)) (by first | rfl | decide +kernel | exact Or.inl rfl | exact Or.inr rfl | exact nobehind _ (by decide) (by decide) | (intro _ _; rfl) | (intro _; rfl) | (intros; rfl))) (by first | rfl | decide +kernel | exact Or.inl rfl | exact Or.inr rfl | exact nobehind _ (by decide) (by decide) | (intro _ _; rfl) | (intro _; rfl) | (intros; rfl)) (by first | rfl | decide +kernel | exact Or.inl rfl | exact Or.inr rfl | exact nobehind _ (by decide) (by decide) | (intro _ _; rfl) | (intro _; rfl) | (intros; rfl)) (by first | rfl | decide +kernel | exact Or.inl rfl | exact Or.inr rfl | exact nobehind _ (by decide) (by decide) | (intro _ _; rfl) | (intro _; rfl) | (intros; rfl)) (by first | rfl | decide +kernel | exact Or.inl rfl | exact Or.inr rfl | exact nobehind _ (by decide) (by decide) | (intro _ _; rfl) | (intro _; rfl) | (intros; rfl))) (@dss_one _ _ _ (@ds_if _ _ _ _ _ _ _ _ (@DW.dt _ _ _ (@dw_or _ _ _ _ _ _ _ (@dt_not _ _ _ _ (@dt_val _ _ _ (@de_call _ _ _ _ _ _ _ _ _ F_Lrefused (hr.mono (by omega)) (@da_cons _ _ _ _ _ (@dv _ _ 6 _ (by first | rfl | decide +kernel | exact Or.inl rfl | exact Or.inr rfl | exact nobehind _ (by decide) (by decide) | (intro _ _; rfl) | (intro _; rfl) | (intros; rfl)) (by first | rfl | decide +kernel | exact Or.inl rfl | exact Or.inr rfl | exact nobehind _ (by decide) (by decide) | (intro _ _; rfl) | (intro _; rfl) | (intros; rfl)) (by first | rfl | decide +kernel | exact Or.inl rfl | exact Or.inr rfl | exact nobehind _ (by decide) (by decide) | (intro _ _; rfl) | (intro _; rfl) | (intros; rfl)) (by first | rfl | decide +kernel | exact Or.inl rfl | exact Or.inr rfl | exact nobehind _ (by decide) (by decide) | (intro _ _; rfl) | (intro _; rfl) | (intros; rfl))) (@da_cons _ _ _ _ _ (@dv _ _ 4 _ (by first | rfl | decide +kernel | exact Or.inl rfl | exact Or.inr rfl | exact nobehind _ (by decide) (by decide) | (intro _ _; rfl) | (intro _; rfl) | (intros; rfl)) (by first | rfl | decide +kernel | exact Or.inl rfl | exact Or.inr rfl | exact nobehind _ (by decide) (by decide) | (intro _ _; rfl) | (intro _; rfl) | (intros; rfl)) (by first | rfl | decide +kernel | exact Or.inl rfl | exact Or.inr rfl | exact nobehind _ (by decide) (by decide) | (intro _ _; rfl) | (intro _; rfl) | (intros; rfl)) (by first | rfl | decide +kernel | exact Or.inl rfl | exact Or.inr rfl | exact nobehind _ (by decide) (by decide) | (intro _ _; rfl) | (intro _; rfl) | (intros; rfl))) (@da_nil _) (by first | rfl | decide +kernel | exact Or.inl rfl | exact Or.inr rfl | exact nobehind _ (by decide) (by decide) | (intro _ _; rfl) | (intro _; rfl) | (intros; rfl))) (by first | rfl | decide +kernel | exact Or.inl rfl | exact Or.inr rfl | exact nobehind _ (by decide) (by decide) | (intro _ _; rfl) | (intro _; rfl) | (intros; rfl))) (by first | rfl | decide +kernel | exact Or.inl rfl | exact Or.inr rfl | exact nobehind _ (by decide) (by decide) | (intro _ _; rfl) | (intro _; rfl) | (intros; rfl)) (by first | rfl | decide +kernel | exact Or.inl rfl | exact Or.inr rfl | exact nobehind _ (by decide) (by decide) | (intro _ _; rfl) | (intro _; rfl) | (intros; rfl)) (by first | rfl | decide +kernel | exact Or.inl rfl | exact Or.inr rfl | exact nobehind _ (by decide) (by decide) | (intro _ _; rfl) | (intro _; rfl) | (intros; rfl)) (by first | rfl | decide +kernel | exact Or.inl rfl | exact Or.inr rfl | exact nobehind _ (by decide) (by decide) | (intro _ _; rfl) | (intro _; rfl) | (intros; rfl))) (by first | rfl | decide +kernel | exact Or.inl rfl | exact Or.inr rfl | exact nobehind _ (by decide) (by decide) | (intro _ _; rfl) | (intro _; rfl) | (intros; rfl)))) (@dw_or _ _ _ _ _ _ _ (@dt_not _ _ _ _ (@dt_val _ _ _ (@de_call _ _ _ _ _ _ _ _ _ F_Lrefused (hr.mono (by omega)) (@da_cons _ _ _ _ _ (@dv _ _ 3 _ (by first | rfl | decide +kernel | exact Or.inl rfl | exact Or.inr rfl | exact nobehind _ (by decide) (by decide) | (intro _ _; rfl) | (intro _; rfl) | (intros; rfl)) (by first | rfl | decide +kernel | exact Or.inl rfl | exact Or.inr rfl | exact nobehind _ (by decide) (by decide) | (intro _ _; rfl) | (intro _; rfl) | (intros; rfl)) (by first | rfl | decide +kernel | exact Or.inl rfl | exact Or.inr rfl | exact nobehind _ (by decide) (by decide) | (intro _ _; rfl) | (intro _; rfl) | (intros; rfl)) (by first | rfl | decide +kernel | exact Or.inl rfl | exact Or.inr rfl | exact nobehind _ (by decide) (by decide) | (intro _ _; rfl) | (intro _; rfl) | (intros; rfl))) (@da_cons _ _ _ _ _ (@dv _ _ 6 _ (by first | rfl | decide +kernel | exact Or.inl rfl | exact Or.inr rfl | exact nobehind _ (by decide) (by decide) | (intro _ _; rfl) | (intro _; rfl) | (intros; rfl)) (by first | rfl | decide +kernel | exact Or.inl rfl | exact Or.inr rfl | exact nobehind _ (by decide) (by decide) | (intro _ _; rfl) | (intro _; rfl) | (intros; rfl)) (by first | rfl | decide +kernel | exact Or.inl rfl | exact Or.inr rfl | exact nobehind _ (by decide) (by decide) | (intro _ _; rfl) | (intro _; rfl) | (intros; rfl)) (by first | rfl | decide +kernel | exact Or.inl rfl | exact Or.inr rfl | exact nobehind _ (by decide) (by decide) | (intro _ _; rfl) | (intro _; rfl) | (intros; rfl))) (@da_nil _) (by first | rfl | decide +kernel | exact Or.inl rfl | exact Or.inr rfl | exact nobehind _ (by decide) (by decide) | (intro _ _; rfl) | (intro _; rfl) | (intros; rfl))) (by first | rfl | decide +kernel | exact Or.inl rfl | exact Or.inr rfl | exact nobehind _ (by decide) (by decide) | (intro _ _; rfl) | (intro _; rfl) | (intros; rfl))) (by first | rfl | decide +kernel | exact Or.inl rfl | exact Or.inr rfl | exact nobehind _ (by decide) (by decide) | (intro _ _; rfl) | (intro _; rfl) | (intros; rfl)) (by first | rfl | decide +kernel | exact Or.inl rfl | exact Or.inr rfl | exact nobehind _ (by decide) (by decide) | (intro _ _; rfl) | (intro _; rfl) | (intros; rfl)) (by first | rfl | decide +kernel | exact Or.inl rfl | exact Or.inr rfl | exact nobehind _ (by decide) (by decide) | (intro _ _; rfl) | (intro _; rfl) | (intros; rfl)) (by first | rfl | decide +kernel | exact Or.inl rfl | exact Or.inr rfl | exact nobehind _ (by decide) (by decide) | (intro _ _; rfl) | (intro _; rfl) | (intros; rfl))) (by first | rfl | decide +kernel | exact Or.inl rfl | exact Or.inr rfl | exact nobehind _ (by decide) (by decide) | (intro _ _; rfl) | (intro _; rfl) | (intros; rfl)))) (@dw_or1 _ _ _ _ (@dt_not _ _ _ _ (@dt_val _ _ _ (@de_call _ _ _ _ _ _ _ _ _ F_Lrefused (hr.mono (by omega)) (@da_cons _ _ _ _ _ (@dv _ _ 6 _ (by first | rfl | decide +kernel | exact Or.inl rfl | exact Or.inr rfl | exact nobehind _ (by decide) (by decide) | (intro _ _; rfl) | (intro _; rfl) | (intros; rfl)) (by first | rfl | decide +kernel | exact Or.inl rfl | exact Or.inr rfl | exact nobehind _ (by decide) (by decide) | (intro _ _; rfl) | (intro _; rfl) | (intros; rfl)) (by first | rfl | decide +kernel | exact Or.inl rfl | exact Or.inr rfl | exact nobehind _ (by decide) (by decide) | (intro _ _; rfl) | (intro _; rfl) | (intros; rfl)) (by first | rfl | decide +kernel | exact Or.inl rfl | exact Or.inr rfl | exact nobehind _ (by decide) (by decide) | (intro _ _; rfl) | (intro _; rfl) | (intros; rfl))) (@da_cons _ _ _ _ _ (@dv _ _ 6 _ (by first | rfl | decide +kernel | exact Or.inl rfl | exact Or.inr rfl | exact nobehind _ (by decide) (by decide) | (intro _ _; rfl) | (intro _; rfl) | (intros; rfl)) (by first | rfl | decide +kernel | exact Or.inl rfl | exact Or.inr rfl | exact nobehind _ (by decide) (by decide) | (intro _ _; rfl) | (intro _; rfl) | (intros; rfl)) (by first | rfl | decide +kernel | exact Or.inl rfl | exact Or.inr rfl | exact nobehind _ (by decide) (by decide) | (intro _ _; rfl) | (intro _; rfl) | (intros; rfl)) (by first | rfl | decide +kernel | exact Or.inl rfl | exact Or.inr rfl | exact nobehind _ (by decide) (by decide) | (intro _ _; rfl) | (intro _; rfl) | (intros; rfl))) (@da_nil _) (by first | rfl | decide +kernel | exact Or.inl rfl | exact Or.inr rfl | exact nobehind _ (by decide) (by decide) | (intro _ _; rfl) | (intro _; rfl) | (intros; rfl))) (by first | rfl | decide +kernel | exact Or.inl rfl | exact Or.inr rfl | exact nobehind _ (by decide) (by decide) | (intro _ _; rfl) | (intro _; rfl) | (intros; rfl))) (by first | rfl | decide +kernel | exact Or.inl rfl | exact Or.inr rfl | exact nobehind _ (by decide) (by decide) | (intro _ _; rfl) | (intro _; rfl) | (intros; rfl)) (by first | rfl | decide +kernel | exact Or.inl rfl | exact Or.inr rfl | exact nobehind _ (by decide) (by decide) | (intro _ _; rfl) | (intro _; rfl) | (intros; rfl)) (by first | rfl | decide +kernel | exact Or.inl rfl | exact Or.inr rfl | exact nobehind _ (by decide) (by decide) | (intro _ _; rfl) | (intro _; rfl) | (intros; rfl)) (by first | rfl | decide +kernel | exact Or.inl rfl | exact Or.inr rfl | exact nobehind _ (by decide) (by decide) | (intro _ _; rfl) | (intro _; rfl) | (intros; rfl))) (by first | rfl | decide +kernel | exact Or.inl rfl | exact Or.inr rfl | exact nobehind _ (by decide) (by decide) | (intro _ _; rfl) | (intro _; rfl) | (intros; rfl)))))))) (@dss_one _ _ _ (@ds_ret _ _ _ _ (@de_bl _ _ _ _))) (@dss_nil _))))))))) (by first | rfl | decide +kernel | exact Or.inl rfl | exact Or.inr rfl | exact nobehind _ (by decide) (by decide) | (intro _ _; rfl) | (intro _; rfl) | (intros; rfl))) (@dss_one _ _ _ (@ds_ret _ _ _ _ (@de_bl _ _ _ _)))), ?_⟩
  rintro ws h kk ⟨ns, rfl, hns, rfl, hk⟩
  have hn : (nums ns).length = ns.length := by simp [nums]
  simp [dRet, dSeq, dNext, dAsg, dName, dIfS, dDrop, dC, dVar, dOp, dAdd, dSub, dMul, dDiv, dMod, dPow, dCmpI, dLt, dLe, dGt, dGe, dEq, dNe, dIs, DL.isSame, dIx, dSlT, dSlL, dSl3, dNoPart, dPart, dCB, dLen, dTuple, dListF, dCatF, dAll, dIsi, dCall, dTup, dLst, dCons, dNil, plains, dFrz, dCel, dB, dNot, dAnd, dOr, dAndV, dOrV, dNotV, dIf, dTTup, dTCons, dTNil, dSetI, dApp, DL.ref, dstart, dends, dpick, dComp, dYes, dFor, dEach, dRange1, dRange2, DL.cond, szl, dChain, dChain3, dNotInK, dIxK, dNeg, dInN, dIxD, dMax, dMin, dShr, dInN, dNoS, hn]
  refine ⟨by omega, ?_⟩
  refine forL_inv (c := none) (fun δ h => ∃ s1 s2 s3 s4 s5 s6 : Option W, δ = [some (.d (.list (nums ns))), s1, s2, s3, s4, s5, s6]) (fun _ _ _ => trivial) ?_ _ ?_ _ _ ⟨_, _, _, _, _, _, rfl⟩
  · rintro δ h ⟨s1, s2, s3, s4, s5, s6, rfl⟩
    simp [dRet, dSeq, dNext, dAsg, dName, dIfS, dDrop, dC, dVar, dOp, dAdd, dSub, dMul, dDiv, dMod, dPow, dCmpI, dLt, dLe, dGt, dGe, dEq, dNe, dIs, DL.isSame, dIx, dSlT, dSlL, dSl3, dNoPart, dPart, dCB, dLen, dTuple, dListF, dCatF, dAll, dIsi, dCall, dTup, dLst, dCons, dNil, plains, dFrz, dCel, dB, dNot, dAnd, dOr, dAndV, dOrV, dNotV, dIf, dTTup, dTCons, dTNil, dSetI, dApp, DL.ref, dstart, dends, dpick, dComp, dYes, dFor, dEach, dRange1, dRange2, DL.cond, szl, dChain, dChain3, dNotInK, dIxK, dNeg, dInN, dIxD, dMax, dMin, dShr, dInN, dNoS]
    exact hk _
  · intro x hx N hN δ h
    obtain ⟨i, hi, rfl⟩ := rng_nat hx
    rintro ⟨s1, s2, s3, s4, s5, s6, rfl⟩
    simp [dRet, dSeq, dNext, dAsg, dName, dIfS, dDrop, dC, dVar, dOp, dAdd, dSub, dMul, dDiv, dMod, dPow, dCmpI, dLt, dLe, dGt, dGe, dEq, dNe, dIs, DL.isSame, dIx, dSlT, dSlL, dSl3, dNoPart, dPart, dCB, dLen, dTuple, dListF, dCatF, dAll, dIsi, dCall, dTup, dLst, dCons, dNil, plains, dFrz, dCel, dB, dNot, dAnd, dOr, dAndV, dOrV, dNotV, dIf, dTTup, dTCons, dTNil, dSetI, dApp, DL.ref, dstart, dends, dpick, dComp, dYes, dFor, dEach, dRange1, dRange2, DL.cond, szl, dChain, dChain3, dNotInK, dIxK, dNeg, dInN, dIxD, dMax, dMin, dShr, dInN, dNoS, CDiv]
    refine ⟨ns, i, rfl, fun v => ?_⟩
    refine ⟨v, i, rfl, by omega, fun d => ?_⟩
    obtain ⟨a, ha, ea⟩ := at_prom (i := d % 8) (by omega) (by omega)
    obtain ⟨b, hb, eb⟩ := at_prom (i := d / 8 % 8) (by omega) (by omega)
    obtain ⟨x, hx, ex⟩ := at_nth (xs := wr) (i := d / 64 % 7) (by omega) (by simp [wr]; omega)
    replace hx := bad_wr hx
    unfold wr at ex
    simp [dRet, dSeq, dNext, dAsg, dName, dIfS, dDrop, dC, dVar, dOp, dAdd, dSub, dMul, dDiv, dMod, dPow, dCmpI, dLt, dLe, dGt, dGe, dEq, dNe, dIs, DL.isSame, dIx, dSlT, dSlL, dSl3, dNoPart, dPart, dCB, dLen, dTuple, dListF, dCatF, dAll, dIsi, dCall, dTup, dLst, dCons, dNil, plains, dFrz, dCel, dB, dNot, dAnd, dOr, dAndV, dOrV, dNotV, dIf, dTTup, dTCons, dTNil, dSetI, dApp, DL.ref, dstart, dends, dpick, dComp, dYes, dFor, dEach, dRange1, dRange2, DL.cond, szl, dChain, dChain3, dNotInK, dIxK, dNeg, dInN, dIxD, dMax, dMin, dShr, dInN, dNoS, ea, eb, CDiv]
    refine ⟨a, b, ha, hb, rfl, ?_⟩
    simp [dRet, dSeq, dNext, dAsg, dName, dIfS, dDrop, dC, dVar, dOp, dAdd, dSub, dMul, dDiv, dMod, dPow, dCmpI, dLt, dLe, dGt, dGe, dEq, dNe, dIs, DL.isSame, dIx, dSlT, dSlL, dSl3, dNoPart, dPart, dCB, dLen, dTuple, dListF, dCatF, dAll, dIsi, dCall, dTup, dLst, dCons, dNil, plains, dFrz, dCel, dB, dNot, dAnd, dOr, dAndV, dOrV, dNotV, dIf, dTTup, dTCons, dTNil, dSetI, dApp, DL.ref, dstart, dends, dpick, dComp, dYes, dFor, dEach, dRange1, dRange2, DL.cond, szl, dChain, dChain3, dNotInK, dIxK, dNeg, dInN, dIxD, dMax, dMin, dShr, dInN, dNoS, isi, tyOf]
    refine ⟨a, b, ha, hb, rfl, ?_⟩
    simp [dRet, dSeq, dNext, dAsg, dName, dIfS, dDrop, dC, dVar, dOp, dAdd, dSub, dMul, dDiv, dMod, dPow, dCmpI, dLt, dLe, dGt, dGe, dEq, dNe, dIs, DL.isSame, dIx, dSlT, dSlL, dSl3, dNoPart, dPart, dCB, dLen, dTuple, dListF, dCatF, dAll, dIsi, dCall, dTup, dLst, dCons, dNil, plains, dFrz, dCel, dB, dNot, dAnd, dOr, dAndV, dOrV, dNotV, dIf, dTTup, dTCons, dTNil, dSetI, dApp, DL.ref, dstart, dends, dpick, dComp, dYes, dFor, dEach, dRange1, dRange2, DL.cond, szl, dChain, dChain3, dNotInK, dIxK, dNeg, dInN, dIxD, dMax, dMin, dShr, dInN, dNoS, ex]
    refine ⟨⟨x, .str b, rfl, .inl hx⟩, ?_⟩
    try simp [dRet, dSeq, dNext, dAsg, dName, dIfS, dDrop, dC, dVar, dOp, dAdd, dSub, dMul, dDiv, dMod, dPow, dCmpI, dLt, dLe, dGt, dGe, dEq, dNe, dIs, DL.isSame, dIx, dSlT, dSlL, dSl3, dNoPart, dPart, dCB, dLen, dTuple, dListF, dCatF, dAll, dIsi, dCall, dTup, dLst, dCons, dNil, plains, dFrz, dCel, dB, dNot, dAnd, dOr, dAndV, dOrV, dNotV, dIf, dTTup, dTCons, dTNil, dSetI, dApp, DL.ref, dstart, dends, dpick, dComp, dYes, dFor, dEach, dRange1, dRange2, DL.cond, szl, dChain, dChain3, dNotInK, dIxK, dNeg, dInN, dIxD, dMax, dMin, dShr, dInN, dNoS]
    refine ⟨⟨.str a, x, rfl, .inr ⟨⟨a, ha, rfl⟩, hx⟩⟩, ?_⟩
    try simp [dRet, dSeq, dNext, dAsg, dName, dIfS, dDrop, dC, dVar, dOp, dAdd, dSub, dMul, dDiv, dMod, dPow, dCmpI, dLt, dLe, dGt, dGe, dEq, dNe, dIs, DL.isSame, dIx, dSlT, dSlL, dSl3, dNoPart, dPart, dCB, dLen, dTuple, dListF, dCatF, dAll, dIsi, dCall, dTup, dLst, dCons, dNil, plains, dFrz, dCel, dB, dNot, dAnd, dOr, dAndV, dOrV, dNotV, dIf, dTTup, dTCons, dTNil, dSetI, dApp, DL.ref, dstart, dends, dpick, dComp, dYes, dFor, dEach, dRange1, dRange2, DL.cond, szl, dChain, dChain3, dNotInK, dIxK, dNeg, dInN, dIxD, dMax, dMin, dShr, dInN, dNoS]
    refine ⟨⟨x, x, rfl, .inl hx⟩, ?_⟩
    try simp [dRet, dSeq, dNext, dAsg, dName, dIfS, dDrop, dC, dVar, dOp, dAdd, dSub, dMul, dDiv, dMod, dPow, dCmpI, dLt, dLe, dGt, dGe, dEq, dNe, dIs, DL.isSame, dIx, dSlT, dSlL, dSl3, dNoPart, dPart, dCB, dLen, dTuple, dListF, dCatF, dAll, dIsi, dCall, dTup, dLst, dCons, dNil, plains, dFrz, dCel, dB, dNot, dAnd, dOr, dAndV, dOrV, dNotV, dIf, dTTup, dTCons, dTNil, dSetI, dApp, DL.ref, dstart, dends, dpick, dComp, dYes, dFor, dEach, dRange1, dRange2, DL.cond, szl, dChain, dChain3, dNotInK, dIxK, dNeg, dInN, dIxD, dMax, dMin, dShr, dInN, dNoS]
    exact hN _ _ ⟨_, _, _, _, _, _, rfl⟩
end
end K52

set_option Elab.async false
set_option linter.all false
set_option autoImplicit false
set_option maxRecDepth 100000
set_option maxHeartbeats 4000000
namespace K52
open PySem PySem.Spec PyProof.Rows L2 DL SJ
theorem reps_strs (K : PySem.W.Frag) (A : List Addr) (H : Hp) : ∀ ss : List Str, (ss.all PyData.strOk) = true → Reps K A H (ss.map .str) (ss.map V.str)
  | [], _ => .nil
  | x :: r, h => by
    have z := Bool.and_eq_true_iff.mp (by simpa only [List.all_cons] using h)
    refine .cons ?_ (reps_strs K A H r z.2)
    rw [Rep]
    exact ⟨rfl, z.1⟩
theorem tup_rep {K : PySem.W.Frag} {a : Addr} {oc : Value} {od : Option Addr} {its : Array Value} {n : Nat} {sl : Array (Option Value)} {ss : List Str} (l : K.lookup a = some ⟨oc, od, .seq its n, sl⟩) (hc : oc = .type "tuple") (v : Vals (ss.map V.str) its.toList) (hz : its.size ≤ sizeLine) (hs : (ss.all PyData.strOk) = true) :
    ∀ A H, Rep K A H (.tuple (ss.map .str)) (.ref a) := fun A H => by
  rw [Rep]
  exact ⟨a, _, rfl, .inr ⟨_, its, n, l, hc, rfl, hz, v⟩, reps_strs K A H _ hs⟩
theorem reps_nums (K : PySem.W.Frag) (A : List Addr) (H : Hp) : ∀ ns : List Int, Reps K A H (nums ns) (ns.map V.int)
  | [] => .nil
  | n :: r => .cons repI (reps_nums K A H r)
theorem own_mk {K : PySem.W.Frag} {h : Heap} {x : Str} {C : Addr} {mg : Str → Option Value} {bmB : List Value} {newId : String} (X : K.In h) (hm : mg x = some (.ref C)) (q : PySem.W.excIn K C bmB newId = true) : OwnCls x C bmB newId mg h := by
  refine ⟨hm, ?_⟩
  unfold PySem.W.excIn at q
  split at q
  · rename_i d0 c0 s0 lk
    split at q
    · rename_i D tl r0 r1 r2 r3 ni r5 em es
      obtain ⟨q5, q6⟩ := Bool.and_eq_true_iff.mp q
      obtain ⟨q4, q7⟩ := Bool.and_eq_true_iff.mp q5
      obtain ⟨q3, q8⟩ := Bool.and_eq_true_iff.mp q4
      obtain ⟨q2, q9⟩ := Bool.and_eq_true_iff.mp q3
      obtain ⟨q1, q0⟩ := Bool.and_eq_true_iff.mp q2
      have e1 : D = C := eq_of_beq q1
      have e2 : ni = newId := eq_of_beq q0
      subst e1 e2
      obtain ⟨v1, v2, v3, v4, v5, v6, v7, v8, v9, v10, v11⟩ := c0
      simp only [Bool.not_eq_true'] at q9
      dsimp only at em q7 q6 q9
      subst em q9
      have e3 : s0 = #[r0, r1, r2, r3, some (.builtin ni), r5] := by
        obtain ⟨ll⟩ := s0
        dsimp only at es
        rw [es]
      subst e3
      exact ⟨tl, v4, v1, v5, v2, v6, v7, v8, v9, v10, d0, r0, r1, r2, r3, r5, _, X _ _ lk, .of_isNs (PySem.W.isNs_of_in X q7), PySem.W.nsMap_none_of_in X q7 (eq_of_beq q6), PySem.W.tail_of_in X q8⟩
    · cases q
  · cases q
theorem all_mk {l : PySem.W.OpenLaw} {w : World} {K : PySem.W.Frag} {h : Heap} {mg : Str → Option Value} {fa : Addr} (X : K.In h) (G : h.Ns mainGlobals mg) (hfa : mg "law" = some (.ref fa))
    {f0 : Addr} {od0 an0 : Option Addr} {sl0 : Array (Option Value)} {oc0 kV0 dc0 pm0 cd0 ct0 : Value} (a0 : PySem.W.nsIn K mainGlobals "check_promise" = some (some (.ref f0))) (l0 : K.lookup f0 = some ⟨oc0, od0, .func (PySem.W.fnOf "check_promise" "check_promise" (defArgs s_check_promise) (defBody s_check_promise) (defScope s_check_promise) .none kV0 dc0 pm0 an0 cd0 ct0), sl0⟩) (c0 : PySem.W.codeIn K cd0 "check_promise" = true) (kk0 : PySem.W.keepIn K (.ref f0) = true)
    {f1 : Addr} {od1 an1 : Option Addr} {sl1 : Array (Option Value)} {oc1 kV1 dc1 pm1 cd1 ct1 : Value} (a1 : PySem.W.nsIn K mainGlobals "implies" = some (some (.ref f1))) (l1 : K.lookup f1 = some ⟨oc1, od1, .func (PySem.W.fnOf "implies" "implies" (defArgs s_implies) (defBody s_implies) (defScope s_implies) .none kV1 dc1 pm1 an1 cd1 ct1), sl1⟩) (c1 : PySem.W.codeIn K cd1 "implies" = true) (kk1 : PySem.W.keepIn K (.ref f1) = true)
    {f2 : Addr} {od2 an2 : Option Addr} {sl2 : Array (Option Value)} {oc2 kV2 dc2 pm2 cd2 ct2 : Value} (a2 : PySem.W.nsIn K mainGlobals "_law_cell_at" = some (some (.ref f2))) (l2 : K.lookup f2 = some ⟨oc2, od2, .func (PySem.W.fnOf "_law_cell_at" "_law_cell_at" (defArgs s_Lcell_at) (defBody s_Lcell_at) (defScope s_Lcell_at) .none kV2 dc2 pm2 an2 cd2 ct2), sl2⟩) (c2 : PySem.W.codeIn K cd2 "_law_cell_at" = true) (kk2 : PySem.W.keepIn K (.ref f2) = true)
    {f3 : Addr} {od3 an3 : Option Addr} {sl3 : Array (Option Value)} {oc3 kV3 dc3 pm3 cd3 ct3 : Value} (a3 : PySem.W.nsIn K mainGlobals "_law_drawn" = some (some (.ref f3))) (l3 : K.lookup f3 = some ⟨oc3, od3, .func (PySem.W.fnOf "_law_drawn" "_law_drawn" (defArgs s_Ldrawn) (defBody s_Ldrawn) (defScope s_Ldrawn) .none kV3 dc3 pm3 an3 cd3 ct3), sl3⟩) (c3 : PySem.W.codeIn K cd3 "_law_drawn" = true) (kk3 : PySem.W.keepIn K (.ref f3) = true)
    {f4 : Addr} {od4 an4 : Option Addr} {sl4 : Array (Option Value)} {oc4 kV4 dc4 pm4 cd4 ct4 : Value} (a4 : PySem.W.nsIn K mainGlobals "_law_due" = some (some (.ref f4))) (l4 : K.lookup f4 = some ⟨oc4, od4, .func (PySem.W.fnOf "_law_due" "_law_due" (defArgs s_Ldue) (defBody s_Ldue) (defScope s_Ldue) .none kV4 dc4 pm4 an4 cd4 ct4), sl4⟩) (c4 : PySem.W.codeIn K cd4 "_law_due" = true) (kk4 : PySem.W.keepIn K (.ref f4) = true)
    {f5 : Addr} {od5 an5 : Option Addr} {sl5 : Array (Option Value)} {oc5 kV5 dc5 pm5 cd5 ct5 : Value} (a5 : PySem.W.nsIn K mainGlobals "_law_refused" = some (some (.ref f5))) (l5 : K.lookup f5 = some ⟨oc5, od5, .func (PySem.W.fnOf "_law_refused" "_law_refused" (defArgs s_Lrefused) (defBody s_Lrefused) (defScope s_Lrefused) .none kV5 dc5 pm5 an5 cd5 ct5), sl5⟩) (c5 : PySem.W.codeIn K cd5 "_law_refused" = true) (kk5 : PySem.W.keepIn K (.ref f5) = true)
    {f6 : Addr} {od6 an6 : Option Addr} {sl6 : Array (Option Value)} {oc6 kV6 dc6 pm6 cd6 ct6 : Value} (a6 : PySem.W.nsIn K mainGlobals "law" = some (some (.ref f6))) (l6 : K.lookup f6 = some ⟨oc6, od6, .func (PySem.W.fnOf "law" "law" (defArgs s_law) (defBody s_law) (defScope s_law) .none kV6 dc6 pm6 an6 cd6 ct6), sl6⟩) (c6 : PySem.W.codeIn K cd6 "law" = true) (kk6 : PySem.W.keepIn K (.ref f6) = true)
    {pP : Addr} {ocP : Value} {odP : Option Addr} {itsP : Array Value} {nP : Nat} {slP : Array (Option Value)} (aP : PySem.W.nsIn K mainGlobals "PROMISES" = some (some (.ref pP))) (lP : K.lookup pP = some ⟨ocP, odP, .seq itsP nP, slP⟩) (hP1 : ocP = .type "tuple") (hP2 : itsP.size = 8) (vP : Vals (promS.map V.str) itsP.toList)
    {pI : Addr} {esI : Array DictEntry} {nI : Nat} (aI : PySem.W.nsIn K mainGlobals "IMPLIED" = some (some (.ref pI))) (lI : K.lookup pI = some ⟨.type "dict", none, .dict esI nI, #[]⟩) (kI : PySem.W.KeysLit w.params esI.toList) (sI : (pI == sysModules) = false)
    {t0 : Addr} {ocT0 : Value} {odT0 : Option Addr} {itsT0 : Array Value} {nT0 : Nat} {slT0 : Array (Option Value)} (aT0 : PySem.W.nsIn K pI "real" = some (some (.ref t0))) (lT0 : K.lookup t0 = some ⟨ocT0, odT0, .seq itsT0 nT0, slT0⟩) (hT0 : ocT0 = .type "tuple") (zT0 : itsT0.size = 7) (vT0 : Vals ((["row", "any", "snap", "stand", "hand", "thing", "kept"] : List Str).map V.str) itsT0.toList)
    {t1 : Addr} {ocT1 : Value} {odT1 : Option Addr} {itsT1 : Array Value} {nT1 : Nat} {slT1 : Array (Option Value)} (aT1 : PySem.W.nsIn K pI "row" = some (some (.ref t1))) (lT1 : K.lookup t1 = some ⟨ocT1, odT1, .seq itsT1 nT1, slT1⟩) (hT1 : ocT1 = .type "tuple") (zT1 : itsT1.size = 5) (vT1 : Vals ((["any", "snap", "stand", "hand", "kept"] : List Str).map V.str) itsT1.toList)
    {t2 : Addr} {ocT2 : Value} {odT2 : Option Addr} {itsT2 : Array Value} {nT2 : Nat} {slT2 : Array (Option Value)} (aT2 : PySem.W.nsIn K pI "any" = some (some (.ref t2))) (lT2 : K.lookup t2 = some ⟨ocT2, odT2, .seq itsT2 nT2, slT2⟩) (hT2 : ocT2 = .type "tuple") (zT2 : itsT2.size = 3) (vT2 : Vals ((["snap", "stand", "kept"] : List Str).map V.str) itsT2.toList)
    {t3 : Addr} {ocT3 : Value} {odT3 : Option Addr} {itsT3 : Array Value} {nT3 : Nat} {slT3 : Array (Option Value)} (aT3 : PySem.W.nsIn K pI "snap" = some (some (.ref t3))) (lT3 : K.lookup t3 = some ⟨ocT3, odT3, .seq itsT3 nT3, slT3⟩) (hT3 : ocT3 = .type "tuple") (zT3 : itsT3.size = 2) (vT3 : Vals ((["stand", "kept"] : List Str).map V.str) itsT3.toList)
    {t4 : Addr} {ocT4 : Value} {odT4 : Option Addr} {itsT4 : Array Value} {nT4 : Nat} {slT4 : Array (Option Value)} (aT4 : PySem.W.nsIn K pI "thing" = some (some (.ref t4))) (lT4 : K.lookup t4 = some ⟨ocT4, odT4, .seq itsT4 nT4, slT4⟩) (hT4 : ocT4 = .type "tuple") (zT4 : itsT4.size = 1) (vT4 : Vals ((["kept"] : List Str).map V.str) itsT4.toList)
    {t5 : Addr} {ocT5 : Value} {odT5 : Option Addr} {itsT5 : Array Value} {nT5 : Nat} {slT5 : Array (Option Value)} (aT5 : PySem.W.nsIn K pI "stand" = some (some (.ref t5))) (lT5 : K.lookup t5 = some ⟨ocT5, odT5, .seq itsT5 nT5, slT5⟩) (hT5 : ocT5 = .type "tuple") (zT5 : itsT5.size = 0) (vT5 : Vals (([] : List Str).map V.str) itsT5.toList)
    {t6 : Addr} {ocT6 : Value} {odT6 : Option Addr} {itsT6 : Array Value} {nT6 : Nat} {slT6 : Array (Option Value)} (aT6 : PySem.W.nsIn K pI "hand" = some (some (.ref t6))) (lT6 : K.lookup t6 = some ⟨ocT6, odT6, .seq itsT6 nT6, slT6⟩) (hT6 : ocT6 = .type "tuple") (zT6 : itsT6.size = 0) (vT6 : Vals (([] : List Str).map V.str) itsT6.toList)
    {t7 : Addr} {ocT7 : Value} {odT7 : Option Addr} {itsT7 : Array Value} {nT7 : Nat} {slT7 : Array (Option Value)} (aT7 : PySem.W.nsIn K pI "kept" = some (some (.ref t7))) (lT7 : K.lookup t7 = some ⟨ocT7, odT7, .seq itsT7 nT7, slT7⟩) (hT7 : ocT7 = .type "tuple") (zT7 : itsT7.size = 0) (vT7 : Vals (([] : List Str).map V.str) itsT7.toList)
    {C : Addr} (aC : PySem.W.nsIn K mainGlobals "NoPromise" = some (some (.ref C))) (qX : PySem.W.excIn K C bmV "ValueError.__new__" = true)
    (x1 : PySem.W.findIn K (.ref C) "__getattribute__" = some (some (.builtin "BaseException.__getattribute__"))) (x2 : PySem.W.findIn K (.ref C) "__getattr__" = some none) (x3 : PySem.W.findIn K (.ref C) "__class__" = some (some (.builtin "object.__class__"))) (x4 : PySem.W.mroIn K C (.type "BaseException") = some true) (x5 : PySem.W.mroIn K C (.type "object") = some true)
    {CJ cH cL cP cS cT : Addr} (aCJ : PySem.W.nsIn K mainGlobals "JudgeError" = some (some (.ref CJ))) (acH : PySem.W.nsIn K mainGlobals "NoHistory" = some (some (.ref cH))) (acL : PySem.W.nsIn K mainGlobals "NoLine" = some (some (.ref cL))) (acP : PySem.W.nsIn K mainGlobals "NoProblem" = some (some (.ref cP))) (acS : PySem.W.nsIn K mainGlobals "NoStore" = some (some (.ref cS))) (acT : PySem.W.nsIn K mainGlobals "NoText" = some (some (.ref cT)))
    (hJ : PySem.W.exmOne K (.ref C) (.ref CJ) = some true) (qcH : PySem.W.kitOne K (.ref C) (.ref cH) = some false) (qcL : PySem.W.kitOne K (.ref C) (.ref cL) = some false) (qcP : PySem.W.kitOne K (.ref C) (.ref cP) = some false) (qcS : PySem.W.kitOne K (.ref C) (.ref cS) = some false) (qcT : PySem.W.kitOne K (.ref C) (.ref cT) = some false) (qC : PySem.W.kitOne K (.ref C) (.ref C) = some true) (zV : PySem.W.nsIn K mainGlobals "ValueError" = some none) (qV : PySem.W.kitOne K (.ref C) (.type "ValueError") = some true)
    (z_len : PySem.W.nsIn K mainGlobals "len" = some none) (z_isinstance : PySem.W.nsIn K mainGlobals "isinstance" = some none) (z_str : PySem.W.nsIn K mainGlobals "str" = some none) (z_bool : PySem.W.nsIn K mainGlobals "bool" = some none) (z_range : PySem.W.nsIn K mainGlobals "range" = some none) (z_max : PySem.W.nsIn K mainGlobals "max" = some none) (z_min : PySem.W.nsIn K mainGlobals "min" = some none) :
    ∃ fd : FuncData, (∀ (s : Shared) (v : Value), BindsTo s fd ⟨[v], []⟩ [("_law_script", v)]) ∧ ∀ base : Heap, K.In base → base.Ns mainGlobals mg → FnOk l.prog w K mg base CX0 4 fa fd ["_law_script"] (upSp K sp_law) := by
  have e := hfa.symm.trans (PySem.W.mg_of X G a6)
  cases e
  have B : Bl mg := ⟨PySem.W.mg_none_of X G z_len, PySem.W.mg_none_of X G z_isinstance, PySem.W.mg_none_of X G z_str, PySem.W.mg_none_of X G z_bool, PySem.W.mg_none_of X G z_range, PySem.W.mg_none_of X G z_max, PySem.W.mg_none_of X G z_min⟩
  have F0 := fun_mk (st := s_check_promise) l0 c0 kk0
  have b0 := F0.binds (ps := ["promise"]) fun _ _ _ _ _ _ us hl => match us, hl with | [_], _ => rfl
  have m0 := PySem.W.mg_of X G a0
  have F1 := fun_mk (st := s_implies) l1 c1 kk1
  have b1 := F1.binds (ps := ["strong", "weak"]) fun _ _ _ _ _ _ us hl => match us, hl with | [_, _], _ => rfl
  have m1 := PySem.W.mg_of X G a1
  have F2 := fun_mk (st := s_Lcell_at) l2 c2 kk2
  have b2 := F2.binds (ps := ["_law_script", "_law_k"]) fun _ _ _ _ _ _ us hl => match us, hl with | [_, _], _ => rfl
  have m2 := PySem.W.mg_of X G a2
  have F3 := fun_mk (st := s_Ldrawn) l3 c3 kk3
  have b3 := F3.binds (ps := ["_law_cell", "_law_k"]) fun _ _ _ _ _ _ us hl => match us, hl with | [_, _], _ => rfl
  have m3 := PySem.W.mg_of X G a3
  have F4 := fun_mk (st := s_Ldue) l4 c4 kk4
  have b4 := F4.binds (ps := ["_law_strong", "_law_weak"]) fun _ _ _ _ _ _ us hl => match us, hl with | [_, _], _ => rfl
  have m4 := PySem.W.mg_of X G a4
  have F5 := fun_mk (st := s_Lrefused) l5 c5 kk5
  have b5 := F5.binds (ps := ["_law_strong", "_law_weak"]) fun _ _ _ _ _ _ us hl => match us, hl with | [_, _], _ => rfl
  have m5 := PySem.W.mg_of X G a5
  have F6 := fun_mk (st := s_law) l6 c6 kk6
  have b6 := F6.binds (ps := ["_law_script"]) fun _ _ _ _ _ _ us hl => match us, hl with | [_], _ => rfl
  have m6 := PySem.W.mg_of X G a6
  have hP := PySem.W.mg_of X G aP
  have rP : L2.RelV (V.ref pP) (Value.ref pP) := rfl
  have dP : ∀ A H, Rep K A H (.tuple prom) (V.ref pP) := tup_rep (ss := promS) lP hP1 vP (by rw [hP2]; decide) (by decide +kernel)
  have hI := PySem.W.mg_of X G aI
  have TI : TabD w K pI tabI := by
    refine ⟨⟨esI, nI, lI, kI, fun x d hd => ?_⟩, sI⟩
    unfold tabI at hd
    by_cases h0 : x = "real"
    · rw [if_pos h0] at hd; cases hd; subst h0; exact ⟨.ref t0, V.ref t0, PySem.W.find_K lI aT0, rfl, tup_rep (ss := ["row", "any", "snap", "stand", "hand", "thing", "kept"]) lT0 hT0 vT0 (by rw [zT0]; decide) (by decide +kernel)⟩
    rw [if_neg h0] at hd
    by_cases h1 : x = "row"
    · rw [if_pos h1] at hd; cases hd; subst h1; exact ⟨.ref t1, V.ref t1, PySem.W.find_K lI aT1, rfl, tup_rep (ss := ["any", "snap", "stand", "hand", "kept"]) lT1 hT1 vT1 (by rw [zT1]; decide) (by decide +kernel)⟩
    rw [if_neg h1] at hd
    by_cases h2 : x = "any"
    · rw [if_pos h2] at hd; cases hd; subst h2; exact ⟨.ref t2, V.ref t2, PySem.W.find_K lI aT2, rfl, tup_rep (ss := ["snap", "stand", "kept"]) lT2 hT2 vT2 (by rw [zT2]; decide) (by decide +kernel)⟩
    rw [if_neg h2] at hd
    by_cases h3 : x = "snap"
    · rw [if_pos h3] at hd; cases hd; subst h3; exact ⟨.ref t3, V.ref t3, PySem.W.find_K lI aT3, rfl, tup_rep (ss := ["stand", "kept"]) lT3 hT3 vT3 (by rw [zT3]; decide) (by decide +kernel)⟩
    rw [if_neg h3] at hd
    by_cases h4 : x = "thing"
    · rw [if_pos h4] at hd; cases hd; subst h4; exact ⟨.ref t4, V.ref t4, PySem.W.find_K lI aT4, rfl, tup_rep (ss := ["kept"]) lT4 hT4 vT4 (by rw [zT4]; decide) (by decide +kernel)⟩
    rw [if_neg h4] at hd
    by_cases h5 : x = "stand" ∨ x = "hand" ∨ x = "kept"
    · rw [if_pos h5] at hd; cases hd
      rcases h5 with rfl | rfl | rfl
      · exact ⟨.ref t5, V.ref t5, PySem.W.find_K lI aT5, rfl, tup_rep (ss := []) lT5 hT5 vT5 (by rw [zT5]; decide) rfl⟩
      · exact ⟨.ref t6, V.ref t6, PySem.W.find_K lI aT6, rfl, tup_rep (ss := []) lT6 hT6 vT6 (by rw [zT6]; decide) rfl⟩
      · exact ⟨.ref t7, V.ref t7, PySem.W.find_K lI aT7, rfl, tup_rep (ss := []) lT7 hT7 vT7 (by rw [zT7]; decide) rfl⟩
    · rw [if_neg h5] at hd; cases hd
  refine ⟨PySem.W.fnOf "law" "law" (defArgs s_law) (defBody s_law) (defScope s_law) .none kV6 dc6 pm6 an6 cd6 ct6, fun s v => .of_eq rfl, fun base XB GB => ?_⟩
  have XE : Er K mg base C CJ cH cL cP cS cT := ⟨own_mk XB (PySem.W.mg_of X G aC) qX, ⟨x1, x2, x3, x4, x5⟩, PySem.W.mg_of X G aCJ, hJ, PySem.W.mg_of X G acH, qcH, PySem.W.mg_of X G acL, qcL, PySem.W.mg_of X G acP, qcP, PySem.W.mg_of X G acS, qcS, PySem.W.mg_of X G acT, qcT, PySem.W.mg_of X G aC, qC, PySem.W.mg_none_of X G zV, qV⟩
  have D_check := dfn_mk (P := l.prog) (w := w) (base := base) (ok_check F0 B hP rP dP) m0 F0 b0
  have N_check := no_check (P := l.prog) (w := w) (base := base) F0 B XE hP rP dP
  have D_implies := dfn_mk (P := l.prog) (w := w) (base := base) (ok_implies F1 B D_check TI hI) m1 F1 b1
  have N_implies := no_implies (P := l.prog) (w := w) (base := base) F1 F0 m0 b0 D_check N_check
  have D_Lcell_at := dfn_mk (P := l.prog) (w := w) (base := base) (ok_Lcell_at F2 B) m2 F2 b2
  have D_Ldrawn := dfn_mk (P := l.prog) (w := w) (base := base) (ok_Ldrawn F3 B) m3 F3 b3
  have D_Ldue := dfn_mk (P := l.prog) (w := w) (base := base) (ok_Ldue F4 B) m4 F4 b4
  have D_Lrefused := dfn_mk (P := l.prog) (w := w) (base := base) (ok_Lrefused F5 B XE F1 m1 b1 N_implies) m5 F5 b5
  exact ok_law F6 B hP rP dP D_Lcell_at D_Ldrawn D_implies D_Ldue D_Lrefused
theorem law_sp (K : PySem.W.Frag) (H : Hp) (a : Addr) (ns : List Int) (hl : ns.length ≤ 63) (hS : SqL K H a (ns.map V.int)) : upSp K sp_law [.ref a] H (fun v _ => v = .bl true) fun _ _ _ => False := by
  refine ⟨[.d (.list (nums ns))], [], [], [], fun z _ => z = .bool true, ⟨rfl, List.nodup_nil, fun _ z => (nomatch z), fun _ z => (nomatch z), fun i a xs e => by simp at e⟩, ⟨_, [], rfl, ?_, rfl⟩, ⟨ns, rfl, hl, rfl, fun _ => rfl⟩, fun z h' v H' A' e _ _ r => ?_⟩
  · show Rep K [] H (.list (nums ns)) (.ref a)
    rw [Rep]
    refine ⟨a, _, rfl, ?_, reps_nums K [] H ns⟩
    rcases hS with h | h
    · exact .inl ⟨by simp, h⟩
    · exact .inr h
  · subst e
    rw [Rep] at r
    exact r
theorem walk {l : PySem.W.OpenLaw} {q : Program} {loose : List Str} {XP : (Str → Option Value) → Heap → Prop} {YP : World → Heap → Prop} {d : DefRec} {K : Params → PySem.W.Frag} (hn : l.most = some 63) (hdf : d.params.defaults = [])
    (hY : ∀ (w : World) (h : Heap), YP w h → (K w.params).In h)
    (F : ∀ (w : World) (mg : Str → Option Value) (fa : Addr) (h : Heap), (K w.params).In h → h.Ns mainGlobals mg → mg d.name = some (.ref fa) →
      ∃ fd : FuncData, (∀ (s : Shared) (u : Value), BindsTo s fd ⟨[u], []⟩ [("_law_script", u)]) ∧ ∀ base : Heap, (K w.params).In base → base.Ns mainGlobals mg → FnOk l.prog w (K w.params) mg base CX0 4 fa fd ["_law_script"] (upSp (K w.params) sp_law)) :
    PySem.W.WalkO q loose XP YP l.row.toRowW d [] (fun f vs => PySem.call f vs) :=
  L2.walk_of (n := 63) (k := 4) (x := "_law_script") (CX := fun _ => CX0) (sp := fun w => upSp (K w.params) sp_law) hn (by decide) hdf ⟨rfl, by decide, by decide⟩ hY F (fun w H a ns hl _ hS => law_sp _ H a ns hl hS) fun _ _ _ _ _ z => z
end K52

open PySem PySem.W PyProof.Rows
set_option Elab.async false
set_option maxRecDepth 100000 in
set_option maxHeartbeats 0 in
theorem PySem.Challenge.cw_storejudge_k52_what_implies_what_holds : PySem.Challenge.rw_storejudge_k52_what_implies_what.Holds := by
  w_on; o_law; k_head; (case hw => w_witness2)
  k_fill
  refine K52.walk (l := PySem.Challenge.rw_storejudge_k52_what_implies_what) rfl rfl (fun w h Y => PySem.W.kIn_of Y) ?F
  case F =>
    intro w mg fa h KX G hmg
    refine' K52.all_mk KX G hmg ?a0 ?l0 ?c0 ?kk0 ?a1 ?l1 ?c1 ?kk1 ?a2 ?l2 ?c2 ?kk2 ?a3 ?l3 ?c3 ?kk3 ?a4 ?l4 ?c4 ?kk4 ?a5 ?l5 ?c5 ?kk5 ?a6 ?l6 ?c6 ?kk6 ?aP ?lP ?hP1 ?hP2 ?vP ?aI ?lI ?kI ?sI ?aT0 ?lT0 ?hT0 ?zT0 ?vT0 ?aT1 ?lT1 ?hT1 ?zT1 ?vT1 ?aT2 ?lT2 ?hT2 ?zT2 ?vT2 ?aT3 ?lT3 ?hT3 ?zT3 ?vT3 ?aT4 ?lT4 ?hT4 ?zT4 ?vT4 ?aT5 ?lT5 ?hT5 ?zT5 ?vT5 ?aT6 ?lT6 ?hT6 ?zT6 ?vT6 ?aT7 ?lT7 ?hT7 ?zT7 ?vT7 ?aC ?qX ?x1 ?x2 ?x3 ?x4 ?x5 ?aCJ ?acH ?acL ?acP ?acS ?acT ?hJ ?qcH ?qcL ?qcP ?qcS ?qcT ?qC ?zV ?qV ?z_len ?z_isinstance ?z_str ?z_bool ?z_range ?z_max ?z_min
    (case a0 => k_is); (case l0 => k_is); (case c0 => k_is); (case kk0 => k_is)
    (case a1 => k_is); (case l1 => k_is); (case c1 => k_is); (case kk1 => k_is)
    (case a2 => k_is); (case l2 => k_is); (case c2 => k_is); (case kk2 => k_is)
    (case a3 => k_is); (case l3 => k_is); (case c3 => k_is); (case kk3 => k_is)
    (case a4 => k_is); (case l4 => k_is); (case c4 => k_is); (case kk4 => k_is)
    (case a5 => k_is); (case l5 => k_is); (case c5 => k_is); (case kk5 => k_is)
    (case a6 => k_is); (case l6 => k_is); (case c6 => k_is); (case kk6 => k_is)
    (case aP => k_is); (case lP => k_is); (case hP1 => rfl); (case hP2 => rfl); (case vP => exact .cons ⟨_, rfl⟩ (.cons ⟨_, rfl⟩ (.cons ⟨_, rfl⟩ (.cons ⟨_, rfl⟩ (.cons ⟨_, rfl⟩ (.cons ⟨_, rfl⟩ (.cons ⟨_, rfl⟩ (.cons ⟨_, rfl⟩ .nil))))))))
    (case aI => k_is); (case lI => k_is); (case kI => k_keys); (case sI => first | rfl | decide | k_is)
    (case aT0 => k_is); (case lT0 => k_is); (case hT0 => rfl); (case zT0 => rfl); (case vT0 => exact .cons ⟨_, rfl⟩ (.cons ⟨_, rfl⟩ (.cons ⟨_, rfl⟩ (.cons ⟨_, rfl⟩ (.cons ⟨_, rfl⟩ (.cons ⟨_, rfl⟩ (.cons ⟨_, rfl⟩ .nil)))))))
    (case aT1 => k_is); (case lT1 => k_is); (case hT1 => rfl); (case zT1 => rfl); (case vT1 => exact .cons ⟨_, rfl⟩ (.cons ⟨_, rfl⟩ (.cons ⟨_, rfl⟩ (.cons ⟨_, rfl⟩ (.cons ⟨_, rfl⟩ .nil)))))
    (case aT2 => k_is); (case lT2 => k_is); (case hT2 => rfl); (case zT2 => rfl); (case vT2 => exact .cons ⟨_, rfl⟩ (.cons ⟨_, rfl⟩ (.cons ⟨_, rfl⟩ .nil)))
    (case aT3 => k_is); (case lT3 => k_is); (case hT3 => rfl); (case zT3 => rfl); (case vT3 => exact .cons ⟨_, rfl⟩ (.cons ⟨_, rfl⟩ .nil))
    (case aT4 => k_is); (case lT4 => k_is); (case hT4 => rfl); (case zT4 => rfl); (case vT4 => exact .cons ⟨_, rfl⟩ .nil)
    (case aT5 => k_is); (case lT5 => k_is); (case hT5 => rfl); (case zT5 => rfl); (case vT5 => exact .nil)
    (case aT6 => k_is); (case lT6 => k_is); (case hT6 => rfl); (case zT6 => rfl); (case vT6 => exact .nil)
    (case aT7 => k_is); (case lT7 => k_is); (case hT7 => rfl); (case zT7 => rfl); (case vT7 => exact .nil)
    (case aC => k_is); (case qX => k_exc)
    (case x1 => k_is); (case x2 => k_is); (case x3 => k_is); (case x4 => k_is); (case x5 => k_is)
    (case aCJ => k_is)
    (case acH => k_is)
    (case acL => k_is)
    (case acP => k_is)
    (case acS => k_is)
    (case acT => k_is)
    (case hJ => kts_exm); (case qcH => kit_is); (case qcL => kit_is); (case qcP => kit_is); (case qcS => kit_is); (case qcT => kit_is); (case qC => kit_is); (case zV => k_is); (case qV => kit_is)
    (case z_len => k_is); (case z_isinstance => k_is); (case z_str => k_is); (case z_bool => k_is); (case z_range => k_is); (case z_max => k_is); (case z_min => k_is)
