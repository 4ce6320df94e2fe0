import PyProof.Rows.All
import Wide.All
import OpenK.AllK
import Wide.FinOn
import Lean
import PyProof.EqAt
import PyProof.EqKinds
import PyProof.TupleCall
import PyProof.ExcInit
import PyProof.ExcClass3
import PyProof.ExcBaseAll.ValueError
import PyProof.InstStoreFacts
import KE.KTryMore
import PyProof.RulesAs
import PyProof.NsDelKeeps
import PySem.Challenge.RW_beamtender_k09_first_refusal
set_option Elab.async false
set_option linter.all false
set_option maxRecDepth 100000
set_option maxHeartbeats 4000000
/-! THE HAND LAYER, for ints, bools, texts, own classes, LISTS and tuples (index, slices, in, append, pop ..), calls, loops. Paste it whole ahead of your own text; what your proof does not reach may be deleted. -/
namespace L2
open PySem PySem.Spec PyProof.Rows

/-- a key: an int or a str -/
abbrev Key := Sum Int Str
def keyIs : Key → Value → Bool
  | .inl k, v => Value.isInt k v
  | .inr x, v => Value.isStrOf x v
def keyH (w : World) : Key → Int
  | .inl k => hashInt k
  | .inr x => hashStr w x
theorem keyIs_shape : ∀ {k : Key} {v : Value}, keyIs k v = true → (∃ i t, k = Sum.inl i ∧ v = Value.int i t) ∨ (∃ x t, k = Sum.inr x ∧ v = Value.str x t)
  | .inl i, v, h => by
    obtain ⟨t, e⟩ := Value.isInt_shape (k := i) (v := v) h
    exact .inl ⟨i, t, rfl, e⟩
  | .inr x, v, h => by
    obtain ⟨t, e⟩ := Value.isStrOf_shape (x := x) (v := v) h
    exact .inr ⟨x, t, rfl, e⟩
theorem keyIs_int (i : Int) (t : Tok) : keyIs (.inl i) (.int i t) = true := by simp [keyIs, Value.isInt]
theorem keyIs_str (x : Str) (t : Tok) : keyIs (.inr x) (.str x t) = true := by simp [keyIs, Value.isStrOf]
theorem key_ll (a b : Int) : decide ((Sum.inl a : Key) = Sum.inl b) = (a == b) := by
  by_cases e : a = b
  · subst e; simp
  · have h : ¬ (Sum.inl a : Key) = Sum.inl b := fun q => e (Sum.inl.inj q)
    rw [decide_eq_false h]
    exact (beq_eq_false_iff_ne.mpr e).symm
theorem key_rr (a b : Str) : decide ((Sum.inr a : Key) = Sum.inr b) = decide (a = b) := by
  by_cases e : a = b
  · subst e; simp
  · have h : ¬ (Sum.inr a : Key) = Sum.inr b := fun q => e (Sum.inr.inj q)
    rw [decide_eq_false h, decide_eq_false e]
theorem key_lr (a : Int) (b : Str) : decide ((Sum.inl a : Key) = Sum.inr b) = false := decide_eq_false (fun q => nomatch q)
theorem key_rl (a : Str) (b : Int) : decide ((Sum.inr a : Key) = Sum.inl b) = false := decide_eq_false (fun q => nomatch q)

def mixKind (prog : Program) (w : World) : PySem.KeyKind prog w Key where
  is := keyIs
  hash := keyH w
  inj := fun v a b ha hb => by
    rcases keyIs_shape ha with ⟨i, t, rfl, rfl⟩ | ⟨x, t, rfl, rfl⟩
    · rcases keyIs_shape hb with ⟨j, u, rfl, e⟩ | ⟨y, u, rfl, e⟩
      · injection e with e1 _; rw [e1]
      · exact nomatch e
    · rcases keyIs_shape hb with ⟨j, u, rfl, e⟩ | ⟨y, u, rfl, e⟩
      · exact nomatch e
      · injection e with e1 _; rw [e1]
  byValue := fun k v h => by
    rcases keyIs_shape h with ⟨i, t, rfl, rfl⟩ | ⟨x, t, rfl, rfl⟩ <;> rfl
  pyHash := fun hv h => by
    rcases keyIs_shape hv with ⟨i, t, rfl, rfl⟩ | ⟨x, t, rfl, rfl⟩
    · exact wpAny_pyHash_int h
    · exact wpAny_pyHash_str h
  eqBool := fun hu hv h => by
    rcases keyIs_shape hu with ⟨i, t, rfl, rfl⟩ | ⟨x, t, rfl, rfl⟩
    · rcases keyIs_shape hv with ⟨j, u, rfl, rfl⟩ | ⟨y, u, rfl, rfl⟩
      · rw [key_ll] at h; exact wpAny_eqBool_int h
      · rw [key_lr] at h; exact SeqAt.EqAt.int_str i t y u _ _ _ _ h
    · rcases keyIs_shape hv with ⟨j, u, rfl, rfl⟩ | ⟨y, u, rfl, rfl⟩
      · rw [key_rl] at h; exact SeqAt.EqAt.str_int x t j u _ _ _ _ h
      · rw [key_rr] at h; exact wpAny_eqBool_str h
  «strs» := fun k x t v h => by
    rcases keyIs_shape h with ⟨i, u, rfl, e⟩ | ⟨y, u, rfl, e⟩
    · exact nomatch e
    · injection e with e1 _
      subst e1
      cases v <;> rfl

theorem mixKind_is (prog : Program) (w : World) (k : Key) (v : Value) : (mixKind prog w).is k v = keyIs k v := rfl
theorem mixKind_int (prog : Program) (w : World) (i : Int) (t : Tok) : (mixKind prog w).is (.inl i) (.int i t) = true := keyIs_int i t
theorem mixKind_str (prog : Program) (w : World) (x : Str) (t : Tok) : (mixKind prog w).is (.inr x) (.str x t) = true := keyIs_str x t
end L2

namespace L2
open PySem PySem.Spec PyProof.Rows

/-- a value, without the heap -/
inductive V where
  | non | bl (b : Bool) | int (i : Int) | str (x : Str) | byt (b : Array UInt8) | flt (b : UInt64) | ref (a : Addr) | ty (n : String)
  deriving DecidableEq

def RelV : V → Value → Prop
  | .non, u => u = Value.none
  | .bl b, u => u = Value.bool b
  | .int i, u => ∃ t, u = Value.int i t
  | .str x, u => ∃ t, u = Value.str x t
  | .byt b, u => ∃ t, u = Value.bytes b t
  | .flt b, u => ∃ t, u = Value.float b t
  | .ref a, u => u = Value.ref a
  | .ty n, u => u = Value.type n

abbrev Vals : List V → List Value → Prop := Paired RelV
theorem Vals.length {xs : List V} {us : List Value} (r : Vals xs us) : xs.length = us.length := Paired.length r
theorem Vals.get : ∀ {xs : List V} {us : List Value} {i : Nat} {x : V}, Vals xs us → xs[i]? = some x → ∃ u, us[i]? = some u ∧ RelV x u
  | _, _, _, _, .nil, e => by simp at e
  | _, _, 0, _, .cons r _, e => by simp at e; subst e; exact ⟨_, rfl, r⟩
  | _, _, i + 1, x, .cons _ t, e => by
    obtain ⟨u, h1, h2⟩ := Vals.get (i := i) (x := x) t (by simpa using e)
    exact ⟨u, by simpa using h1, h2⟩
theorem Vals.set {x : V} {u : Value} (r : RelV x u) : ∀ {xs : List V} {us : List Value} (i : Nat), Vals xs us → Vals (xs.set i x) (us.set i u)
  | _, _, _, .nil => .nil
  | _, _, 0, .cons _ t => .cons r t
  | _, _, i + 1, .cons q t => .cons q (Vals.set r i t)
theorem Vals.append : ∀ {xs ys : List V} {us ws : List Value}, Vals xs us → Vals ys ws → Vals (xs ++ ys) (us ++ ws)
  | _, _, _, _, .nil, s => s
  | _, _, _, _, .cons r t, s => .cons r (Vals.append t s)
theorem Vals.take : ∀ {xs : List V} {us : List Value} (n : Nat), Vals xs us → Vals (xs.take n) (us.take n)
  | _, _, 0, _ => .nil
  | _, _, _ + 1, .nil => .nil
  | _, _, n + 1, .cons r t => .cons r (Vals.take n t)
theorem Vals.drop : ∀ {xs : List V} {us : List Value} (n : Nat), Vals xs us → Vals (xs.drop n) (us.drop n)
  | _, _, 0, r => r
  | _, _, _ + 1, .nil => .nil
  | _, _, n + 1, .cons _ t => Vals.drop n t
theorem Vals.none_of : ∀ {xs : List V} {us : List Value} {i : Nat}, Vals xs us → xs[i]? = none → us[i]? = none := fun {xs us i} r e => by
  have h1 := r.length
  have h2 : xs.length ≤ i := List.getElem?_eq_none_iff.mp e
  exact List.getElem?_eq_none_iff.mpr (by omega)

def RelO : Option V → Option Value → Prop
  | some v, some u => RelV v u
  | none, none => True
  | _, _ => False
def KV {κ : Type} : List (κ × V) → List (κ × Value) → Prop := Paired fun (p : κ × V) (q : κ × Value) => p.1 = q.1 ∧ RelV p.2 q.2

/-- a key of a dict (00_mix): an int or a text -/
def kV : Key → V
  | .inl i => .int i
  | .inr x => .str x

/-- what stands at a tracked address -/
inductive HO where
  /-- a list -/
  | lst (xs : List V)
  /-- a tuple (never changes) -/
  | tup (xs : List V)
  /-- a dict whose keys are ints and texts; one whose keys are tuples of ints and texts (the empty one is both) -/
  | dK (kvs : List (Key × V)) | dT (kvs : List (List Key × V))
  /-- a set of ints: its members, its size -/
  | set (S : Int → Bool) (n : Nat)
  /-- an instance of the class at C, its dict at dx, its attributes -/
  | ins (C dx : Addr) (fs : List (Str × V))
  /-- the dict of the instance at x -/
  | own (x : Addr)
  /-- the dict of an exception -/
  | xd (fs : List (Str × V))
  /-- a bound method, f of x -/
  | met (f x : Addr)
  /-- a range object lo, lo + 1, .. below hi -/
  | rng (lo hi : Int)
  /-- a thing that is known to the object (the script; a dict while a loop walks it): read, never written while it is so -/
  | frz (o : Obj) (u : HO)
  /-- a code object's table -/
  | tbl (ps : Array Value)
  /-- any other thing, by what is true of its one object (a def of one's own: SetO a S n := HO.ext fun h => ..) -/
  | ext (φ : Heap → Prop)

abbrev Hp := Addr → Option HO
def upd (H : Hp) (a : Addr) (o : HO) : Hp := fun b => if b = a then some o else H b
theorem upd_same {H : Hp} {a : Addr} {o : HO} : upd H a o a = some o := by unfold upd; rw [if_pos rfl]
theorem upd_ne {H : Hp} {a b : Addr} {o : HO} (h : b ≠ a) : upd H a o b = H b := by unfold upd; rw [if_neg h]
theorem upd_upd {H : Hp} {a : Addr} {o u : HO} : upd (upd H a o) a u = upd H a u := by
  funext b; unfold upd; split <;> rfl
/-- two objects of different content stand apart -/
theorem ne_of {H : Hp} {a b : Addr} {o u : HO} (h : H a = some o) (h' : H b = some u) (d : o ≠ u) : a ≠ b := by
  intro e; subst e; rw [h] at h'; exact d (Option.some.inj h')
theorem ne_of_none {H : Hp} {a b : Addr} {o : HO} (h : H a = some o) (h' : H b = none) : a ≠ b := by
  intro e; subst e; rw [h] at h'; cases h'

/-- a tuple's own object -/
def TupD (h : Heap) (a : Addr) (items : Array Value) : Prop := ∃ o, h.get? a = some o ∧ o.cls = .type "tuple" ∧ o.dict = none ∧ ∃ n, o.data = .seq items n
theorem TupD.isTup {h : Heap} {a : Addr} {items : Array Value} (x : TupD h a items) : IsTup h a items := let ⟨o, e, c, _, n, d⟩ := x; ⟨o, e, c, n, d⟩
theorem TupD.new (h : Heap) (items : Array Value) : TupD (h.push { cls := .type "tuple", data := .seq items }) h.objs.size items := ⟨_, Heap.get?_push_size _ rfl, rfl, rfl, _, rfl⟩
section
variable (P : Program) (w : World)
def ObjOk (H : Hp) (h : Heap) (a : Addr) : HO → Prop
  | .lst xs => xs.length ≤ sizeLine ∧ ∃ (its : List Value) (n : Nat), Vals xs its ∧ h.get? a = some { cls := .type "list", data := .seq its.toArray n }
  | .tup xs => xs.length ≤ sizeLine ∧ ∃ its : List Value, Vals xs its ∧ TupD h a its.toArray
  | .dK kvs => kvs.length ≤ sizeLine ∧ (a == sysModules) = false ∧ ∃ vs, KV kvs vs ∧ h.DictOf (mixKind P w) a vs
  | .dT kvs => kvs.length ≤ sizeLine ∧ (a == sysModules) = false ∧ ∃ xs : List (List Key × Addr × Value),
      Paired (fun (p : List Key × V) (q : List Key × Addr × Value) => p.1 = q.1 ∧ H q.2.1 = some (.tup (p.1.map kV)) ∧ RelV p.2 q.2.2) kvs xs ∧
      ∃ o es ep, h.get? a = some o ∧ o.ExactDict ∧ o.data = .dict es ep ∧ es.toList = xs.map (entryOfKey (tupleKind (mixKind P w))) ∧ (xs.map (·.1)).Nodup
  | .set S n => h.SetOf (intKind P w) a S n
  | .ins C dx fs => H dx = some (.own a) ∧ fs.length ≤ 1000 ∧ dx ≠ a ∧ h.get? a = some (PySem.W.instObj C dx) ∧
      ∃ mA, h.Ns1 dx mA ∧ (∀ f, RelO (fs.lookup f) (mA f)) ∧ PySem.Within mA (fs.map (·.1))
  | .own _ => ∃ o, h.get? a = some o
  | .xd fs => fs.length ≤ 1000 ∧ ∃ mA, h.Ns1 a mA ∧ (∀ f, RelO (fs.lookup f) (mA f)) ∧ PySem.Within mA (fs.map (·.1))
  | .rng lo hi => ∃ t u v, h.get? a = some { cls := .type "range", data := .fields #[.int lo t, .int hi u, .int 1 v] }
  | .frz o u => h.get? a = some o ∧ ObjOk H h a u
  | .tbl ps => h.get? a = some { cls := .none, data := .fields ps }
  | .met f x => h.get? a = some (PySem.W.methodObj (.ref f) (.ref x))
  | .ext φ => φ h ∧ (∃ o, h.get? a = some o) ∧ ∀ h1 h2 : Heap, φ h1 → (∀ o, h1.get? a = some o → h2.get? a = some o) → φ h2
/-- the abstract heap is held -/
def HOk (H : Hp) (h : Heap) : Prop := ∀ a o, H a = some o → ObjOk P w H h a o
end

section
variable {P : Program} {w : World} {H H' : Hp} {h h' : Heap} {a : Addr} {o : HO}
theorem ObjOk.lt (x : ObjOk P w H h a o) : a < h.objs.size := by
  cases o with
  | lst xs => obtain ⟨_, _, _, _, e⟩ := x; exact Heap.lt_size e
  | tup xs => obtain ⟨_, _, _, _, e, _⟩ := x; exact Heap.lt_size e
  | dK kvs => obtain ⟨_, _, _, _, o, _, _, e, _⟩ := x; exact Heap.lt_size e
  | dT kvs => obtain ⟨_, _, _, _, o, _, _, e, _⟩ := x; exact Heap.lt_size e
  | set S n => obtain ⟨o, _, _, _, e, _⟩ := x; exact Heap.lt_size e
  | ins C dx fs => obtain ⟨_, _, _, e, _⟩ := x; exact Heap.lt_size e
  | own y => obtain ⟨_, e⟩ := x; exact Heap.lt_size e
  | xd fs => obtain ⟨_, _, ⟨_, _, _, e, _⟩, _⟩ := x; exact Heap.lt_size e
  | rng lo hi => obtain ⟨_, _, _, e⟩ := x; exact Heap.lt_size e
  | frz ob u => obtain ⟨e, _⟩ := x; exact Heap.lt_size e
  | tbl ps => exact Heap.lt_size (show h.get? a = some _ from x)
  | met f y => exact Heap.lt_size (show h.get? a = some _ from x)
  | ext φ => obtain ⟨_, ⟨_, e⟩, _⟩ := x; exact Heap.lt_size e
theorem Paired.mapP {α β : Type} {F G : α → β → Prop} : ∀ {l₁ : List α} {l₂ : List β}, Paired F l₁ l₂ → (∀ a b, F a b → G a b) → Paired G l₁ l₂
  | _, _, .nil, _ => .nil
  | _, _, .cons r t, f => .cons (f _ _ r) (Paired.mapP t f)
theorem Paired.imp' {α β : Type} {F G : α → β → Prop} (f : ∀ a b, F a b → G a b) {l₁ : List α} {l₂ : List β} (r : Paired F l₁ l₂) : Paired G l₁ l₂ := Paired.mapP r f
/-- what an object's description leans on: its own object, its own dict, the tuples -/
theorem ObjOk.stay (x : ObjOk P w H h a o) (k : ∀ b u, (b = a ∨ H b = some (.own a)) → h.get? b = some u → h'.get? b = some u)
    (ho : ∀ b, H b = some (.own a) → H' b = some (.own a)) (ht : ∀ b xs, H b = some (.tup xs) → H' b = some (.tup xs)) : ObjOk P w H' h' a o := by
  induction o with
  | lst xs => obtain ⟨z, its, n, r, e⟩ := x; exact ⟨z, its, n, r, k _ _ (.inl rfl) e⟩
  | tup xs => obtain ⟨z, its, r, ob, e, c⟩ := x; exact ⟨z, its, r, ob, k _ _ (.inl rfl) e, c⟩
  | dK kvs => obtain ⟨z, y, vs, r, ob, es, ep, e, c⟩ := x; exact ⟨z, y, vs, r, ob, es, ep, k _ _ (.inl rfl) e, c⟩
  | dT kvs =>
    obtain ⟨z, y, xs, r, ob, es, ep, e, c⟩ := x
    exact ⟨z, y, xs, Paired.mapP r fun p q z => ⟨z.1, ht _ _ z.2.1, z.2.2⟩, ob, es, ep, k _ _ (.inl rfl) e, c⟩
  | set S n => obtain ⟨ob, es, ep, t, e, c⟩ := x; exact ⟨ob, es, ep, t, k _ _ (.inl rfl) e, c⟩
  | ins C dx fs =>
    obtain ⟨d, z, ne, e, mA, ⟨od, es, ep, e2, c⟩, r⟩ := x
    exact ⟨ho _ d, z, ne, k _ _ (.inl rfl) e, mA, ⟨od, es, ep, k _ _ (.inr d) e2, c⟩, r⟩
  | own y => obtain ⟨ob, e⟩ := x; exact ⟨ob, k _ _ (.inl rfl) e⟩
  | xd fs => obtain ⟨z, mA, ⟨od, es, ep, e, c⟩, r⟩ := x; exact ⟨z, mA, ⟨od, es, ep, k _ _ (.inl rfl) e, c⟩, r⟩
  | rng lo hi => obtain ⟨t, u, v, e⟩ := x; exact ⟨t, u, v, k _ _ (.inl rfl) e⟩
  | frz ob u ih => obtain ⟨e, q⟩ := x; exact ⟨k _ _ (.inl rfl) e, ih q⟩
  | tbl ps =>
    have e : h.get? a = some { cls := .none, data := .fields ps } := x
    show h'.get? a = some { cls := .none, data := .fields ps }
    exact k a _ (.inl rfl) e
  | met f y =>
    have e : h.get? a = some (PySem.W.methodObj (.ref f) (.ref y)) := x
    show h'.get? a = some (PySem.W.methodObj (.ref f) (.ref y))
    exact k a _ (.inl rfl) e
  | ext φ => obtain ⟨p, ⟨o, e⟩, st⟩ := x; exact ⟨st _ _ p fun o q => k _ _ (.inl rfl) q, ⟨o, k _ _ (.inl rfl) e⟩, st⟩
theorem HOk.lt (x : HOk P w H h) (e : H a = some o) : a < h.objs.size := (x a o e).lt
theorem HOk.fresh (x : HOk P w H h) (e : h.objs.size ≤ a) : H a = none := by
  cases q : H a with
  | none => rfl
  | some u => exact absurd (Nat.lt_of_lt_of_le (x.lt q) e) (Nat.lt_irrefl _)
/-- every object of the heap is kept -/
theorem HOk.kept (x : HOk P w H h) (k : ∀ b u, h.get? b = some u → h'.get? b = some u) : HOk P w H h' := fun a o e =>
  (x a o e).stay (fun b u _ q => k b u q) (fun _ q => q) fun _ _ q => q
/-- a new object is laid and tracked -/
theorem HOk.laid (x : HOk P w H h) (k : ∀ b u, h.get? b = some u → h'.get? b = some u) (hp : h.objs.size ≤ a) (new : ObjOk P w (upd H a o) h' a o) : HOk P w (upd H a o) h' := fun b u e => by
  have hn := x.fresh hp
  by_cases hb : b = a
  · subst hb; rw [upd_same] at e; cases e; exact new
  · rw [upd_ne hb] at e
    exact (x b u e).stay (fun c v _ q => k c v q) (fun c q => by rw [upd_ne (ne_of_none q hn)]; exact q) fun c xs q => by rw [upd_ne (ne_of_none q hn)]; exact q
end

/-- what may be read as u: it is u, or a known u -/
def Rd (H : Hp) (a : Addr) (u : HO) : Prop := H a = some u ∨ ∃ o, H a = some (.frz o u)
theorem Rd.of {H : Hp} {a : Addr} {u : HO} (h : H a = some u) : Rd H a u := .inl h
theorem Rd.ok {P : Program} {w : World} {H : Hp} {h : Heap} {a : Addr} {u : HO} (r : Rd H a u) (x : HOk P w H h) : ObjOk P w H h a u := by
  rcases r with r | ⟨o, r⟩
  · exact x a u r
  · obtain ⟨_, q⟩ := x a _ r
    exact q
/-- what may be written -/
def Mut : Option HO → Prop
  | some (.lst _) => True
  | some (.dK _) => True
  | some (.dT _) => True
  | some (.set _ _) => True
  | some (.ins _ _ _) => True
  | some (.ext _) => True
  | some (.xd _) => True
  | _ => False
section
variable {P : Program} {w : World} {H : Hp} {h h' : Heap} {x e : Addr} {o' : HO}
/-- the object at e is changed: x itself, or the dict of the instance x -/
theorem HOk.write (ok : HOk P w H h) (mu : Mut (H x)) (he : e = x ∨ H e = some (.own x)) (k : ∀ b u, b ≠ e → h.get? b = some u → h'.get? b = some u) (heo : ∃ u, h'.get? e = some u)
    (new : ObjOk P w (upd H x o') h' x o') : HOk P w (upd H x o') h' := fun b u q => by
  have nown : ∀ c y, H c = some (.own y) → c ≠ x := fun c y r z => by subst z; rw [r] at mu; exact mu
  have ntup : ∀ c xs, H c = some (.tup xs) → c ≠ x := fun c xs r z => by subst z; rw [r] at mu; exact mu
  by_cases hb : b = x
  · subst hb; rw [upd_same] at q; cases q; exact new
  · rw [upd_ne hb] at q
    by_cases hbe : b = e
    · have q' : H b = some (.own x) := by
        rcases he with z | z
        · exact absurd (hbe.trans z) hb
        · rw [hbe]; exact z
      rw [q] at q'; cases q'
      obtain ⟨v, hv⟩ := heo
      exact ⟨v, by rw [hbe]; exact hv⟩
    · refine (ok b u q).stay (fun c v hc r => k c v ?_ r) (fun c r => by rw [upd_ne (nown c b r)]; exact r) fun c xs r => by rw [upd_ne (ntup c xs r)]; exact r
      rcases hc with rfl | hc
      · exact hbe
      · rintro rfl
        rcases he with z | z
        · exact nown c b hc z
        · rw [hc] at z; cases z; exact hb rfl
end

/-! ### kept unless tracked; of the frames at fs (the callers') the slots may change (an exception that passes writes there); of the records at ex (iterators) nothing is said -/
structure Un (fs ex : List Addr) (H H' : Hp) (h h' : Heap) : Prop where
  keep : ∀ b o, h.get? b = some o → H b = none → b ∉ fs → b ∉ ex → h'.get? b = some o
  slot : ∀ b o, h.get? b = some o → H b = none → b ∈ fs → b ∉ ex → ∃ sl, h'.get? b = some { o with slots := sl }
  free : ∀ b o, h.get? b = some o → H b = none → b ∉ ex → H' b = none
  there : ∀ b o, h.get? b = some o → b ∉ ex → ∃ o', h'.get? b = some o'
  tups : ∀ b xs, H b = some (.tup xs) → H' b = some (.tup xs)
  frzs : ∀ b o u, H b = some (.frz o u) → H' b = some (.frz o u)
  tbls : ∀ b ps, H b = some (.tbl ps) → ∃ more, H' b = some (.tbl (ps ++ more))
section
variable {fs fs' ex ex' : List Addr} {H H1 H2 : Hp} {h h1 h2 h' : Heap} {a x e : Addr} {o : HO}
theorem Un.any (u : Un fs ex H H1 h h1) {b : Addr} {ob : Obj} (q : h.get? b = some ob) (n : H b = none) (hx : b ∉ ex) : ∃ sl, h1.get? b = some { ob with slots := sl } := by
  by_cases hb : b ∈ fs
  · exact u.slot b ob q n hb hx
  · exact ⟨ob.slots, u.keep b ob q n hb hx⟩
theorem Un.trans (a : Un fs ex H H1 h h1) (b : Un fs ex H1 H2 h1 h2) : Un fs ex H H2 h h2 where
  keep := fun c ob q n hc hx => b.keep c ob (a.keep c ob q n hc hx) (a.free c ob q n hx) hc hx
  slot := fun c ob q n hc hx => by
    obtain ⟨sl, e1⟩ := a.slot c ob q n hc hx
    obtain ⟨sl', e2⟩ := b.slot c _ e1 (a.free c ob q n hx) hc hx
    exact ⟨sl', e2⟩
  free := fun c ob q n hx => by
    obtain ⟨o', e1⟩ := a.there c ob q hx
    exact b.free c o' e1 (a.free c ob q n hx) hx
  there := fun c ob q hx => by
    obtain ⟨o', e1⟩ := a.there c ob q hx
    exact b.there c o' e1 hx
  tups := fun c xs q => b.tups c xs (a.tups c xs q)
  frzs := fun c ob xs q => b.frzs c ob xs (a.frzs c ob xs q)
  tbls := fun c ps q => by
    obtain ⟨m1, e1⟩ := a.tbls c ps q
    obtain ⟨m2, e2⟩ := b.tbls c _ e1
    exact ⟨m1 ++ m2, by rw [e2, Array.append_assoc]⟩
theorem Un.kept (k : ∀ b u, h.get? b = some u → h'.get? b = some u) : Un fs ex H H h h' :=
  ⟨fun b ob q _ _ _ => k b ob q, fun b ob q _ _ _ => ⟨ob.slots, k b ob q⟩, fun _ _ _ n _ => n, fun b ob q _ => ⟨ob, k b ob q⟩, fun _ _ q => q, fun _ _ _ q => q, fun _ ps q => ⟨#[], by rw [q]; simp⟩⟩
theorem Un.refl : Un fs ex H H h h := Un.kept fun _ _ q => q
theorem Un.laid (k : ∀ b u, h.get? b = some u → h'.get? b = some u) (hp : h.objs.size ≤ a) (hn : H a = none) : Un fs ex H (upd H a o) h h' where
  keep := fun b u q _ _ _ => k b u q
  slot := fun b u q _ _ _ => ⟨u.slots, k b u q⟩
  free := fun b u q n _ => by rw [upd_ne (Nat.ne_of_lt (Nat.lt_of_lt_of_le (Heap.lt_size q) hp))]; exact n
  there := fun b u q _ => ⟨u, k b u q⟩
  tups := fun b xs q => by rw [upd_ne (ne_of_none q hn)]; exact q
  frzs := fun b u xs q => by rw [upd_ne (ne_of_none q hn)]; exact q
  tbls := fun b ps q => ⟨#[], by rw [upd_ne (ne_of_none q hn), q]; simp⟩
theorem Un.write (mu : Mut (H x)) (he : e = x ∨ H e = some (.own x)) (k : ∀ b u, b ≠ e → h.get? b = some u → h'.get? b = some u) (heo : ∃ u, h'.get? e = some u) : Un fs ex H (upd H x o) h h' := by
  have hx : ∀ b, H b = none → b ≠ x := fun b n z => by subst z; rw [n] at mu; exact mu
  have hb : ∀ b, H b = none → b ≠ e := fun b n z => by
    subst z
    rcases he with r | r
    · exact hx b n r
    · rw [n] at r; cases r
  have hm : ∀ b u, H b = some u → ¬ Mut (some u) → b ≠ x := fun b u q nm z => by subst z; rw [q] at mu; exact nm mu
  refine ⟨fun b u q n _ _ => k b u (hb b n) q, fun b u q n _ _ => ⟨u.slots, k b u (hb b n) q⟩, fun b u q n _ => by rw [upd_ne (hx b n)]; exact n, fun b u q _ => ?_,
    fun b xs q => by rw [upd_ne (hm b _ q fun z => z)]; exact q, fun b u xs q => by rw [upd_ne (hm b _ q fun z => z)]; exact q, fun b ps q => ⟨#[], by rw [upd_ne (hm b _ q fun z => z), q]; simp⟩⟩
  by_cases hbe : b = e
  · subst hbe; exact heo
  · exact ⟨u, k b u hbe q⟩
theorem Un.mono (u : Un fs ex H H1 h h1) (hs : ∀ b ∈ fs, b ∈ fs') (hx : ∀ b ∈ ex, b ∈ ex') : Un fs' ex' H H1 h h1 :=
  ⟨fun b ob q n hb he => u.keep b ob q n (fun z => hb (hs b z)) fun z => he (hx b z), fun _ _ q n _ he => u.any q n fun z => he (hx _ z), fun b ob q n he => u.free b ob q n fun z => he (hx b z), fun b ob q he => u.there b ob q fun z => he (hx b z), u.tups, u.frzs, u.tbls⟩
end

/-! ### the heap without what is tracked -/
def trk (h : Heap) (H : Hp) : List Addr := (List.range h.objs.size).filter fun a => (H a).isSome
def hidT (h : Heap) (H : Hp) : Heap := PySem.W.hideAll h (trk h H)
theorem hidT_size (h : Heap) (H : Hp) : (hidT h H).objs.size = h.objs.size := PySem.W.hideAll_size _ _
theorem hidT_get {h : Heap} {H : Hp} {b : Addr} {o : Obj} (e : h.get? b = some o) (n : H b = none) : (hidT h H).get? b = some o :=
  PySem.W.hideAll_get _ e fun hm => by
    have q : (H b).isSome = true := (List.mem_filter.mp hm).2
    rw [n] at q; simp at q
theorem of_hidT {h : Heap} {H : Hp} {b : Addr} {o : Obj} (e : (hidT h H).get? b = some o) : h.get? b = some o ∧ H b = none := by
  have e' : h.get? b = some o := PySem.W.of_hideAll (trk h H) e
  refine ⟨e', ?_⟩
  cases q : H b with
  | none => rfl
  | some x =>
    have hm : b ∈ trk h H := List.mem_filter.mpr ⟨List.mem_range.mpr (Heap.lt_size e'), by simp [q]⟩
    have z : (hidT h H).get? b = none := PySem.W.hideAll_none (trk h H) hm
    rw [z] at e; cases e

/-! ### OpenK's ledger, filled with every new object but one -/
def allNews (g h : Heap) (L : Addr) : List (Addr × Obj) := (List.range h.objs.size).filterMap fun a => if a = L ∨ (g.get? a).isSome = true then none else (h.get? a).map fun o => (a, o)
theorem mem_allNews {g h : Heap} {L a : Addr} {o : Obj} (h1 : a ≠ L) (h2 : g.get? a = none) (h3 : h.get? a = some o) : (a, o) ∈ allNews g h L :=
  List.mem_filterMap.mpr ⟨a, List.mem_range.mpr (Heap.lt_size h3), by simp [h1, h2, h3]⟩
theorem of_mem_allNews {g h : Heap} {L : Addr} {p : Addr × Obj} (hp : p ∈ allNews g h L) : p.1 ≠ L ∧ g.get? p.1 = none ∧ h.get? p.1 = some p.2 := by
  obtain ⟨b, _, e⟩ := List.mem_filterMap.mp hp
  split at e
  · cases e
  · rename_i hn
    cases q : h.get? b with
    | none => rw [q] at e; simp at e
    | some u =>
      rw [q] at e
      simp only [Option.map_some, Option.some.injEq] at e
      subst e
      refine ⟨fun z => hn (.inl z), ?_, q⟩
      show g.get? b = none
      cases r : g.get? b with
      | none => rfl
      | some v => exact (hn (.inr (by simp [r]))).elim
def rest (g h : Heap) (L d : Addr) : List (Addr × Obj) := (allNews g h L).filter fun p => decide (p.1 ≠ d)
theorem rest_ne {g h : Heap} {L d : Addr} : ∀ p ∈ rest g h L d, p.1 ≠ d := fun p hp => of_decide_eq_true (List.mem_filter.mp hp).2
theorem mem_rest {g h : Heap} {L d a : Addr} {o : Obj} (h1 : a ≠ L) (h2 : g.get? a = none) (h3 : h.get? a = some o) (h4 : a ≠ d) : (a, o) ∈ rest g h L d :=
  List.mem_filter.mpr ⟨mem_allNews h1 h2 h3, decide_eq_true h4⟩
theorem news_all {g h : Heap} {L : Addr} : News g L h (allNews g h L) := fun p hp => let ⟨a, b, c⟩ := of_mem_allNews hp; ⟨c, a, b⟩
theorem news_at {g h : Heap} {L d : Addr} {o : Obj} (h1 : d ≠ L) (h2 : g.get? d = none) (h3 : h.get? d = some o) : News g L h ((d, o) :: rest g h L d) := fun p hp => by
  rcases List.mem_cons.mp hp with rfl | hp
  · exact ⟨h3, h1, h2⟩
  · exact news_all p (List.mem_filter.mp hp).1
/-- behind a rule that changed d alone: all else but the frame is kept -/
theorem kept_of_news {g h h' : Heap} {L d : Addr} {m : Str → Option Value} (k : ∀ b o, g.get? b = some o → h.get? b = some o) (F : Fr g L h' m) (N : News g L h' (rest g h L d)) :
    ∀ b o, b ≠ L → b ≠ d → h.get? b = some o → h'.get? b = some o := fun b o h1 h2 e => by
  cases q : g.get? b with
  | some u =>
    have := k b u q
    rw [e] at this; cases this
    exact F.keep b _ q
  | none => exact (N (b, o) (mem_rest h1 q e h2)).1
end L2

namespace L2
open PySem PySem.Spec PyProof.Rows

/-- the module's facts, over the base: the heap at the law's entry without what is tracked there -/
structure Mod (K : PySem.W.Frag) (mg : Str → Option Value) (base : Heap) : Prop where
  kin : K.In base
  glob : base.Ns mainGlobals mg
  blt : ∃ mb, base.Ns builtinsNs mb ∧ ∀ x : Str, x ≠ "__name__" → mb x = bootBuiltins x
  nolimit : base.NoLimit

/-- the context: a def's body (or a comprehension's block) running. base: fixed through the whole law; s₀, H₀: the entry; outer: the frames whose slots others may change (a def's callers); stack: all frames that run;
   ex: iterators that were made ahead of the entry and are walked here (a comprehension's); fn: the names whose cells were made at the entry (a def: all; a comprehension's block: its own); calm: not within an except suite; pn: pins that every state bears; xe: what is wanted of an exception that leaves the code -/
structure Cx where
  prog : Program
  w : World
  K : PySem.W.Frag
  mg : Str → Option Value
  base : Heap
  A : Around
  N : List Str
  s₀ : Shared
  H₀ : Hp
  env : Env
  outer : List Env
  stack : List Env
  ex : List Addr
  fn : Str → Bool
  calm : Bool
  pn : List (Addr × Obj)
  xe : Value → Shared → Prop
/-- the callers' frames -/
def frs (l : List Env) : List Addr := l.filterMap (·.frame)
abbrev Cx.fs (X : Cx) : List Addr := frs X.outer

def Vis (sc : Scope) (x : Str) : Prop := sc.names.lookup x = some .local ∨ sc.names.lookup x = some .cell ∨ sc.names.lookup x = some .free
def Loc (sc : Scope) (x : Str) : Prop := sc.names.lookup x = some .local ∨ sc.names.lookup x = some .cell
def Look (env : Env) (h : Heap) (m : Str → Option Value) (x : Str) (u : Value) : Prop :=
  (env.kindOf x = some .local ∧ m x = some u) ∨ ((env.kindOf x = some .cell ∨ env.kindOf x = some .free) ∧ ∃ c, env.cells.lookup x = some c ∧ h.IsCell c (some u))

structure Cx.Ok (X : Cx) : Prop where
  mod : Mod X.K X.mg X.base
  kind : X.env.scope.kind = .function
  glob : X.env.globals = mainGlobals
  blt : X.env.builtins = builtinsNs
  above : X.s₀.heap.objs.size ≤ X.env.locals
  inj : ∀ x y c, X.env.cells.lookup x = some c → X.env.cells.lookup y = some c → x = y
  has : ∀ x, (X.env.kindOf x = some .cell ∨ X.env.kindOf x = some .free) → ∃ c, X.env.cells.lookup x = some c
  cab : ∀ x c, X.fn x = true → X.env.cells.lookup x = some c → X.s₀.heap.objs.size ≤ c
  hd : X.calm = true → X.A.handled = none
  frames : X.A.frames = some X.stack
  stk : X.stack = X.outer ∨ (X.stack = X.env :: X.outer ∧ X.env.frame = some X.env.locals)
  exf : ∀ b ∈ X.ex, b ≠ X.env.locals ∧ ∀ x c, X.env.cells.lookup x = some c → c ≠ b
  bs : ∀ b o, X.base.get? b = some o → X.s₀.heap.get? b = some o ∧ X.H₀ b = none
  bsz : X.base.objs.size ≤ X.s₀.heap.objs.size
  noex : ∀ b o, X.base.get? b = some o → b ∉ X.ex
  exfs : ∀ b ∈ X.ex, b ∉ X.fs
  funs : X.s₀.heap.FunFrames X.base X.outer
  frf : ∀ b ∈ X.fs, X.H₀ b = none

structure Inv (X : Cx) (pins : List (Addr × Obj)) (σ : List (Option V)) (H : Hp) (s : Shared) : Prop where
  ok : X.Ok
  os : s.os = X.s₀.os
  bare : AllBare s.gens
  base : Un X.fs X.ex X.H₀ H X.s₀.heap s.heap
  loc : ∃ m, s.heap.Ns X.env.locals m ∧ ∀ (i : Nat) (x : Str) (v : V), X.N[i]? = some x → σ[i]? = some (some v) → Vis X.env.scope x → ∃ u, RelV v u ∧ Look X.env s.heap m x u
  cell : ∀ x c, X.env.cells.lookup x = some c → ∃ v, s.heap.IsCell c v
  free : H X.env.locals = none
  freeC : ∀ x c, X.env.cells.lookup x = some c → H c = none
  pin : ∀ p ∈ X.pn ++ pins, s.heap.get? p.1 = some p.2 ∧ H p.1 = none ∧ p.1 ≠ X.env.locals ∧ p.1 ∉ X.fs ∧ ∀ v, p.2.data ≠ .cell v
  hok : HOk X.prog X.w H s.heap
  len : σ.length = X.N.length

section
variable {X : Cx} {pins : List (Addr × Obj)} {σ : List (Option V)} {H H' : Hp} {s : Shared} {h' : Heap}

theorem Cx.Ok.nofr (ok : X.Ok) {b : Addr} {o : Obj} (e : X.base.get? b = some o) : b ∉ X.fs := fun hb => by
  have := (ok.funs.mem hb).1
  rw [e] at this; cases this
theorem Inv.bs (I : Inv X pins σ H s) : ∀ b o, X.base.get? b = some o → s.heap.get? b = some o ∧ H b = none := fun b o e =>
  ⟨I.base.keep b o (I.ok.bs b o e).1 (I.ok.bs b o e).2 (I.ok.nofr e) (I.ok.noex b o e), I.base.free b o (I.ok.bs b o e).1 (I.ok.bs b o e).2 (I.ok.noex b o e)⟩
theorem Inv.bk (I : Inv X pins σ H s) : ∀ b o, X.base.get? b = some o → s.heap.get? b = some o := fun b o e => (I.bs b o e).1
theorem Inv.mod (I : Inv X pins σ H s) : Mod X.K X.mg X.base := I.ok.mod
theorem Inv.kIn (I : Inv X pins σ H s) : X.K.In s.heap := I.ok.mod.kin.keeps I.bk
theorem Inv.nolimit (I : Inv X pins σ H s) : s.heap.NoLimit := I.ok.mod.nolimit.keeps I.bk
/-- the frame over the base: for OpenK's rules (K.In X.base is I.mod.kin) -/
theorem Inv.fr (I : Inv X pins σ H s) : ∃ m, Fr X.base X.env.locals s.heap m :=
  let ⟨m, hn, _⟩ := I.loc
  ⟨m, hn, I.bk, Nat.le_trans I.ok.bsz I.ok.above⟩
theorem Inv.lt (I : Inv X pins σ H s) : X.env.locals < s.heap.objs.size := let ⟨_, hn, _⟩ := I.loc; hn.lt
theorem Inv.sz (I : Inv X pins σ H s) : X.s₀.heap.objs.size ≤ s.heap.objs.size := Nat.le_trans I.ok.above (Nat.le_of_lt I.lt)
theorem Inv.nofs (I : Inv X pins σ H s) {a : Addr} (h : s.heap.objs.size ≤ a) : a ∉ X.fs := fun hb => by
  obtain ⟨_, o, ho, _⟩ := I.ok.funs.mem hb
  exact absurd (Nat.lt_of_lt_of_le (Heap.lt_size ho) (Nat.le_trans I.sz h)) (Nat.lt_irrefl _)
theorem Inv.cne (I : Inv X pins σ H s) : ∀ x c, X.env.cells.lookup x = some c → c ≠ X.env.locals := fun x c e z => by
  obtain ⟨v, o, ho, hd⟩ := I.cell x c e
  obtain ⟨m, ⟨o', es, ep, ho', hd', _⟩, _⟩ := I.loc
  rw [z, ho'] at ho; cases ho; rw [hd'] at hd; cases hd
theorem Inv.funs (I : Inv X pins σ H s) : s.heap.FunFrames X.base X.outer := by
  have all : ∀ (l : List Env), (∀ b ∈ frs l, b ∈ X.fs) → X.s₀.heap.FunFrames X.base l → s.heap.FunFrames X.base l := by
    intro l
    induction l with
    | nil => intro _ _; trivial
    | cons env r ih =>
      intro hs hl
      obtain ⟨hk, ⟨L, o, hf, hn, ho, hd⟩, hr⟩ := hl
      have hL : L ∈ X.fs := hs L (by unfold frs; rw [List.filterMap_cons, hf]; exact List.mem_cons_self)
      obtain ⟨sl, e⟩ := I.base.slot L o ho (I.ok.frf L hL) hL fun z => I.ok.exfs L z hL
      exact ⟨hk, ⟨L, _, hf, hn, e, hd⟩, ih (fun b hb => hs b (by unfold frs; rw [List.filterMap_cons, hf]; exact List.mem_cons_of_mem _ hb)) hr⟩
  exact all X.outer (fun _ hb => hb) I.ok.funs

/-- the frames that run, for a call -/
theorem Inv.stack (I : Inv X pins σ H s) : s.heap.FunFrames X.base X.stack := by
  rcases I.ok.stk with e | ⟨e, hf⟩
  · rw [e]; exact I.funs
  · rw [e]
    obtain ⟨m, hn, _⟩ := I.loc
    refine .cons (by rw [I.ok.kind]; decide) hf hn ?_ I.funs
    exact Heap.get?_none_of_le (Nat.le_trans I.ok.bsz I.ok.above)
theorem Inv.stkSub (I : Inv X pins σ H s) : ∀ b ∈ frs X.stack, b ∈ X.env.locals :: X.fs := fun b hb => by
  rcases I.ok.stk with e | ⟨e, hf⟩
  · rw [e] at hb; exact List.mem_cons_of_mem _ hb
  · rw [e] at hb
    unfold frs at hb
    rw [List.filterMap_cons, hf] at hb
    exact hb
theorem Inv.stkFree (I : Inv X pins σ H s) : ∀ b ∈ frs X.stack, H b = none := fun b hb => by
  rcases List.mem_cons.mp (I.stkSub b hb) with e | hb
  · rw [e]; exact I.free
  · obtain ⟨_, o, ho, _⟩ := I.ok.funs.mem hb
    exact I.base.free b o ho (I.ok.frf b hb) fun z => I.ok.exfs b z hb

/-- THE STEP: the untracked objects but the frame and the records at ch are kept (the callers' frames up to slots), the frame's map is kept, the new abstract heap is held -/
theorem Inv.step {g' : Array GenState} {t' : Nat} {d' : Drawn} {ch : List Addr} (I : Inv X pins σ H s)
    (hch : ∀ b ∈ ch, (b ∈ X.ex ∨ X.s₀.heap.objs.size ≤ b) ∧ b ≠ X.env.locals ∧ (∀ x c, X.env.cells.lookup x = some c → c ≠ b) ∧ ∀ p ∈ X.pn ++ pins, p.1 ≠ b)
    (keep : ∀ b o, b ≠ X.env.locals → b ∉ X.fs → b ∉ ch → s.heap.get? b = some o → H b = none → h'.get? b = some o)
    (slot : ∀ b o, b ≠ X.env.locals → b ∈ X.fs → b ∉ ch → s.heap.get? b = some o → H b = none → ∃ sl, h'.get? b = some { o with slots := sl }) (free : ∀ b o, b ∉ ch → s.heap.get? b = some o → H b = none → H' b = none)
    (there : ∀ b o, b ∉ ch → s.heap.get? b = some o → ∃ o', h'.get? b = some o')
    (tups : ∀ b xs, H b = some (.tup xs) → H' b = some (.tup xs)) (frzs : ∀ b o u, H b = some (.frz o u) → H' b = some (.frz o u)) (tbls : ∀ b ps, H b = some (.tbl ps) → ∃ more, H' b = some (.tbl (ps ++ more)))
    (ns : ∀ m, s.heap.Ns X.env.locals m → h'.Ns X.env.locals m) (hok : HOk X.prog X.w H' h') (hg : AllBare g') :
    Inv X pins σ H' { s with heap := h', gens := g', drawn := d', toks := t' } := by
  have neL : ∀ b o, X.s₀.heap.get? b = some o → b ≠ X.env.locals := fun b o e => Nat.ne_of_lt (Nat.lt_of_lt_of_le (Heap.lt_size e) I.ok.above)
  have neC : ∀ b o, X.s₀.heap.get? b = some o → b ∉ X.ex → b ∉ ch := fun b o e hx hb => by
    rcases (hch b hb).1 with z | z
    · exact hx z
    · exact absurd (Nat.lt_of_lt_of_le (Heap.lt_size e) z) (Nat.lt_irrefl _)
  have cellK : ∀ x c, X.env.cells.lookup x = some c → ∀ v, s.heap.IsCell c v → h'.IsCell c v := fun x c e v ⟨o, ho, hd⟩ => by
    have nch : c ∉ ch := fun z => (hch c z).2.2.1 x c e rfl
    by_cases hc : c ∈ X.fs
    · obtain ⟨sl, q⟩ := slot c o (I.cne x c e) hc nch ho (I.freeC x c e)
      exact ⟨_, q, hd⟩
    · exact ⟨o, keep c o (I.cne x c e) hc nch ho (I.freeC x c e), hd⟩
  refine ⟨I.ok, I.os, hg, ⟨fun b o e n hb hx => ?_, fun b o e n hb hx => ?_, fun b o e n hx => ?_, fun b o e hx => ?_, fun b xs e => tups b xs (I.base.tups b xs e), fun b o xs e => frzs b o xs (I.base.frzs b o xs e), fun b ps e => ?_⟩, ?_, fun x c e => ?_, ?_, fun x c e => ?_, fun p hp => ?_, hok, I.len⟩
  · exact keep b o (neL b o e) hb (neC b o e hx) (I.base.keep b o e n hb hx) (I.base.free b o e n hx)
  · obtain ⟨sl, e1⟩ := I.base.slot b o e n hb hx
    obtain ⟨sl', e2⟩ := slot b _ (neL b o e) hb (neC b o e hx) e1 (I.base.free b o e n hx)
    exact ⟨sl', e2⟩
  · obtain ⟨o', e1⟩ := I.base.there b o e hx
    exact free b o' (neC b o e hx) e1 (I.base.free b o e n hx)
  · obtain ⟨o', e1⟩ := I.base.there b o e hx
    exact there b o' (neC b o e hx) e1
  · obtain ⟨m1, e1⟩ := I.base.tbls b ps e
    obtain ⟨m2, e2⟩ := tbls b _ e1
    exact ⟨m1 ++ m2, by rw [e2, Array.append_assoc]⟩
  · obtain ⟨m, hn, hl⟩ := I.loc
    refine ⟨m, ns m hn, fun i x v e1 e2 e3 => ?_⟩
    obtain ⟨u, r, l⟩ := hl i x v e1 e2 e3
    refine ⟨u, r, ?_⟩
    rcases l with l | ⟨k, c, e, z⟩
    · exact .inl l
    · exact .inr ⟨k, c, e, cellK x c e _ z⟩
  · obtain ⟨v, z⟩ := I.cell x c e
    exact ⟨v, cellK x c e v z⟩
  · obtain ⟨m, ⟨o, _, _, ho, _⟩, _⟩ := I.loc
    exact free _ o (fun z => (hch _ z).2.1 rfl) ho I.free
  · obtain ⟨v, o, ho, hd⟩ := I.cell x c e
    exact free c o (fun z => (hch c z).2.2.1 x c e rfl) ho (I.freeC x c e)
  · obtain ⟨e, n, ne, nf, d⟩ := I.pin p hp
    have nch : p.1 ∉ ch := fun z => (hch p.1 z).2.2.2 p hp rfl
    exact ⟨keep p.1 p.2 ne nf nch e n, free p.1 p.2 nch e n, ne, nf, d⟩
/-- .. where the frame's own object is kept too -/
theorem Inv.un {t' : Nat} (I : Inv X pins σ H s) (u : Un X.fs [] H H' s.heap h') (hok : HOk X.prog X.w H' h') : Inv X pins σ H' { s with heap := h', toks := t' } := by
  obtain ⟨m, ⟨o, es, ep, ho, r⟩, _⟩ := id I.loc
  obtain ⟨sl, hL⟩ := u.any ho I.free (by simp)
  exact I.step (g' := s.gens) (d' := s.drawn) (ch := []) (fun _ z => nomatch z) (fun b o _ hb _ e n => u.keep b o e n hb (by simp)) (fun b o _ hb _ e n => u.slot b o e n hb (by simp)) (fun b o _ e n => u.free b o e n (by simp)) (fun b o _ e => u.there b o e (by simp)) u.tups u.frzs u.tbls (fun m' hm => by
    obtain ⟨o', es', ep', ho', r'⟩ := hm
    rw [ho] at ho'; cases ho'
    exact ⟨_, es', ep', hL, r'⟩) hok I.bare
/-- behind a call (or a comprehension's block): the slots of this frame may have changed too, the records at ch may have turned -/
theorem Inv.call {g' : Array GenState} {t' : Nat} {d' : Drawn} {ch : List Addr} (I : Inv X pins σ H s) (u : Un (frs X.stack) ch H H' s.heap h') (hok : HOk X.prog X.w H' h') (hg : AllBare g')
    (hch : ∀ b ∈ ch, (b ∈ X.ex ∨ X.s₀.heap.objs.size ≤ b) ∧ b ≠ X.env.locals ∧ (∀ x c, X.env.cells.lookup x = some c → c ≠ b) ∧ ∀ p ∈ X.pn ++ pins, p.1 ≠ b) :
    Inv X pins σ H' { s with heap := h', gens := g', drawn := d', toks := t' } := by
  obtain ⟨m, ⟨o, es, ep, ho, r⟩, _⟩ := id I.loc
  obtain ⟨sl, hL⟩ := u.any ho I.free fun z => (hch _ z).2.1 rfl
  exact I.step (ch := ch) hch (fun b o hL hb hc e n => u.keep b o e n (fun z => (List.mem_cons.mp (I.stkSub b z)).elim hL hb) hc) (fun b o _ _ hc e n => u.any e n hc) (fun b o hc e n => u.free b o e n hc) (fun b o hc e => u.there b o e hc) u.tups u.frzs u.tbls (fun m' hm => by
    obtain ⟨o', es', ep', ho', r'⟩ := hm
    rw [ho] at ho'; cases ho'
    exact ⟨_, es', ep', hL, r'⟩) hok hg
/-- an untracked record of ours (an iterator) has turned -/
theorem Inv.turned {t' : Nat} {it : Addr} (I : Inv X pins σ H s) (k : ∀ b o, b ≠ it → s.heap.get? b = some o → h'.get? b = some o) (hn : H it = none) (hL : it ≠ X.env.locals)
    (h1 : it ∈ X.ex ∨ X.s₀.heap.objs.size ≤ it) (h2 : ∀ x c, X.env.cells.lookup x = some c → c ≠ it) (h3 : ∀ p ∈ X.pn ++ pins, p.1 ≠ it) : Inv X pins σ H { s with heap := h', toks := t' } := by
  have nit : ∀ b u, H b = some u → b ≠ it := fun b u e z => by rw [z, hn] at e; cases e
  refine I.step (g' := s.gens) (d' := s.drawn) (ch := [it]) (fun b hb => ?_) (fun b o _ _ hc e _ => k b o (fun z => hc (by simp [z])) e) (fun b o _ _ hc e _ => ⟨o.slots, k b o (fun z => hc (by simp [z])) e⟩) (fun _ _ _ _ n => n)
    (fun b o hc e => ⟨o, k b o (fun z => hc (by simp [z])) e⟩) (fun _ _ e => e) (fun _ _ _ e => e) (fun b ps e => ⟨#[], by rw [e]; simp⟩) (fun m hm => ?_) (fun b u e => ?_) I.bare
  · have e : b = it := by simpa using hb
    subst e
    exact ⟨h1, hL, h2, h3⟩
  · obtain ⟨o, es, ep, ho, r⟩ := hm
    exact ⟨o, es, ep, k _ o (Ne.symm hL) ho, r⟩
  · refine (I.hok b u e).stay (fun c v hc q => k c v ?_ q) (fun _ q => q) fun _ _ q => q
    rcases hc with z | z
    · rw [z]; exact nit b u e
    · exact nit c _ z
theorem Inv.tok (I : Inv X pins σ H s) (t : Nat) : Inv X pins σ H { s with toks := t } := I.un (h' := s.heap) (t' := t) Un.refl I.hok
/-- all objects kept -/
theorem Inv.kept {t' : Nat} (I : Inv X pins σ H s) (k : ∀ b u, s.heap.get? b = some u → h'.get? b = some u) : Inv X pins σ H { s with heap := h', toks := t' } := I.un (Un.kept k) (I.hok.kept k)
/-- a new object laid and tracked -/
theorem Inv.laid {a : Addr} {o : HO} {t' : Nat} (I : Inv X pins σ H s) (k : ∀ b u, s.heap.get? b = some u → h'.get? b = some u) (hp : s.heap.objs.size ≤ a) (new : ObjOk X.prog X.w (upd H a o) h' a o) :
    Inv X pins σ (upd H a o) { s with heap := h', toks := t' } := I.un (Un.laid k hp (I.hok.fresh hp)) (I.hok.laid k hp new)
/-- an object written -/
theorem Inv.write {x e : Addr} {o : HO} {t' : Nat} (I : Inv X pins σ H s) (mu : Mut (H x)) (he : e = x ∨ H e = some (.own x)) (k : ∀ b u, b ≠ e → s.heap.get? b = some u → h'.get? b = some u) (heo : ∃ u, h'.get? e = some u)
    (new : ObjOk X.prog X.w (upd H x o) h' x o) : Inv X pins σ (upd H x o) { s with heap := h', toks := t' } := I.un (Un.write mu he k heo) (I.hok.write mu he k heo new)
/-- forgetting slots, pins -/
theorem Inv.weak {σ' : List (Option V)} (I : Inv X pins σ H s) (hl : σ'.length = σ.length) (w : ∀ (i : Nat) v, σ'[i]? = some (some v) → σ[i]? = some (some v)) : Inv X pins σ' H s :=
  ⟨I.ok, I.os, I.bare, I.base, let ⟨m, hn, hl'⟩ := I.loc; ⟨m, hn, fun i x v e1 e2 e3 => hl' i x v e1 (w i v e2) e3⟩, I.cell, I.free, I.freeC, I.pin, I.hok, hl.trans I.len⟩
theorem Inv.pins_of {pins' : List (Addr × Obj)} (I : Inv X pins σ H s) (h : ∀ p ∈ pins', s.heap.get? p.1 = some p.2 ∧ H p.1 = none ∧ p.1 ≠ X.env.locals ∧ p.1 ∉ X.fs ∧ ∀ v, p.2.data ≠ .cell v) : Inv X pins' σ H s :=
  ⟨I.ok, I.os, I.bare, I.base, I.loc, I.cell, I.free, I.freeC, fun p hp => (List.mem_append.mp hp).elim (fun z => I.pin p (List.mem_append_left _ z)) (h p), I.hok, I.len⟩

theorem nodup_ix {N : List Str} (hN : N.Nodup) {i j : Nat} {x : Str} (a : N[i]? = some x) (b : N[j]? = some x) : i = j := by
  obtain ⟨h1, e1⟩ := List.getElem?_eq_some_iff.mp a
  obtain ⟨h2, e2⟩ := List.getElem?_eq_some_iff.mp b
  exact (List.getElem_inj hN).mp (e1.trans e2.symm)

/-- a name is stored; what changed -/
theorem store_ok2 {M : Model} {A : Around} {E : Value → Shared → Prop} {i : Nat} {x : Str} {v : V} {u : Value} {Q : Unit → Shared → Prop} (I : Inv X pins σ H s) (hN : X.N.Nodup) (hi : X.N[i]? = some x) (hx : Loc X.env.scope x) (r : RelV v u)
    (h : ∀ s', Inv X pins (σ.set i (some v)) H s' → (∃ a, Heap.SameBut a s.heap s'.heap ∧ (a = X.env.locals ∨ X.env.cells.lookup x = some a)) → Q () s') (hf : X.fn x = true ∨ X.env.scope.names.lookup x = some .local := by first | exact .inl rfl | exact .inr rfl | assumption) : wpAny M A (storeName X.env x u) Q E s := by
  obtain ⟨m, hn, hl⟩ := id I.loc
  have hcls : (X.env.scope.kind == .class || (X.env.scope.kind == .module && X.env.locals != X.env.globals)) = false := by rw [I.ok.kind]; rfl
  have hiσ : i < σ.length := by rw [I.len]; exact (List.getElem?_eq_some_iff.mp hi).1
  have cne := I.cne
  have tracked : ∀ {a : Addr} {h' : Heap}, (∃ o, s.heap.get? a = some o ∧ H a = none) → Heap.SameBut a s.heap h' → HOk X.prog X.w H h' := fun {a h'} ha hs b ob e => by
    obtain ⟨_, _, hfree⟩ := ha
    refine (I.hok b ob e).stay (fun c w' hc q => (hs.2 c ?_).trans q) (fun _ q => q) fun _ _ q => q
    rintro rfl
    rcases hc with rfl | hc
    · rw [hfree] at e; cases e
    · rw [hfree] at hc; cases hc
  rcases hx with hk | hk
  · refine wpAny_storeName_local hk hn (fun h' hn' hs => ?_) hcls
    obtain ⟨oL, _, _, hoL, _⟩ := id hn
    refine h _ ⟨I.ok, I.os, I.bare, ⟨fun b o e n hb hx => ?_, fun b o e n hb hx => ?_, I.base.free, fun b o e hx => ?_, I.base.tups, I.base.frzs, I.base.tbls⟩, ⟨_, hn', fun j y v' e1 e2 e3 => ?_⟩, fun y c e => ?_, I.free, I.freeC, fun p hp => ?_, tracked ⟨oL, hoL, I.free⟩ hs, by simpa using I.len⟩ ⟨_, hs, .inl rfl⟩
    · exact (hs.2 b (Nat.ne_of_lt (Nat.lt_of_lt_of_le (Heap.lt_size e) I.ok.above))).trans (I.base.keep b o e n hb hx)
    · obtain ⟨sl, e1⟩ := I.base.slot b o e n hb hx
      exact ⟨sl, (hs.2 b (Nat.ne_of_lt (Nat.lt_of_lt_of_le (Heap.lt_size e) I.ok.above))).trans e1⟩
    · obtain ⟨o', e1⟩ := I.base.there b o e hx
      exact ⟨o', (hs.2 b (Nat.ne_of_lt (Nat.lt_of_lt_of_le (Heap.lt_size e) I.ok.above))).trans e1⟩
    · by_cases hj : j = i
      · subst hj
        rw [hi] at e1; cases e1
        rw [List.getElem?_set_self hiσ] at e2
        cases e2
        exact ⟨u, r, .inl ⟨hk, by simp⟩⟩
      · rw [List.getElem?_set_ne (Ne.symm hj)] at e2
        obtain ⟨u', r', q⟩ := hl j y v' e1 e2 e3
        refine ⟨u', r', ?_⟩
        rcases q with ⟨k, e⟩ | ⟨k, c, e, z⟩
        · refine .inl ⟨k, ?_⟩
          have : y ≠ x := fun e => hj (nodup_ix hN e1 (e ▸ hi))
          simp [this, e]
        · exact .inr ⟨k, c, e, z.sameBut hs (cne y c e)⟩
    · obtain ⟨w', z⟩ := I.cell y c e
      exact ⟨w', z.sameBut hs (cne y c e)⟩
    · obtain ⟨e, n, ne, nf, d⟩ := I.pin p hp
      exact ⟨(hs.2 p.1 ne).trans e, n, ne, nf, d⟩
  · have hfn : X.fn x = true := by
      rcases hf with z | z
      · exact z
      · rw [z] at hk; cases hk
    obtain ⟨c, hc⟩ := I.ok.has x (.inl hk)
    obtain ⟨w', z⟩ := I.cell x c hc
    refine wpAny_storeName_cell I.ok.kind hk hc z (fun h' hc' hs => ?_)
    obtain ⟨oc, hoc, hocd⟩ := id z
    refine h { s with heap := h' } ⟨I.ok, I.os, I.bare, ⟨fun b o e n hb hx => ?_, fun b o e n hb hx => ?_, I.base.free, fun b o e hx => ?_, I.base.tups, I.base.frzs, I.base.tbls⟩, ⟨m, hn.sameBut hs (Ne.symm (cne x c hc)), fun j y v' e1 e2 e3 => ?_⟩, fun y c' e => ?_, I.free, I.freeC, fun p hp => ?_, tracked ⟨oc, hoc, I.freeC x c hc⟩ hs, by simpa using I.len⟩ ⟨c, hs, .inr hc⟩
    · exact (hs.2 b (Nat.ne_of_lt (Nat.lt_of_lt_of_le (Heap.lt_size e) (I.ok.cab x c hfn hc)))).trans (I.base.keep b o e n hb hx)
    · obtain ⟨sl, e1⟩ := I.base.slot b o e n hb hx
      exact ⟨sl, (hs.2 b (Nat.ne_of_lt (Nat.lt_of_lt_of_le (Heap.lt_size e) (I.ok.cab x c hfn hc)))).trans e1⟩
    · obtain ⟨o', e1⟩ := I.base.there b o e hx
      exact ⟨o', (hs.2 b (Nat.ne_of_lt (Nat.lt_of_lt_of_le (Heap.lt_size e) (I.ok.cab x c hfn hc)))).trans e1⟩
    · by_cases hj : j = i
      · subst hj
        rw [hi] at e1; cases e1
        rw [List.getElem?_set_self hiσ] at e2
        cases e2
        exact ⟨u, r, .inr ⟨.inl hk, c, hc, hc'⟩⟩
      · rw [List.getElem?_set_ne (Ne.symm hj)] at e2
        obtain ⟨u', r', q⟩ := hl j y v' e1 e2 e3
        refine ⟨u', r', ?_⟩
        rcases q with q | ⟨k, c', e, z'⟩
        · exact .inl q
        · refine .inr ⟨k, c', e, z'.sameBut hs ?_⟩
          rintro rfl
          exact hj (nodup_ix hN e1 (I.ok.inj _ _ _ e hc ▸ hi))
    · by_cases hcc : c' = c
      · subst hcc; exact ⟨_, hc'⟩
      · obtain ⟨w2, z2⟩ := I.cell y c' e
        exact ⟨w2, z2.sameBut hs hcc⟩
    · obtain ⟨e, n, ne, nf, d⟩ := I.pin p hp
      refine ⟨(hs.2 p.1 ?_).trans e, n, ne, nf, d⟩
      intro q
      rw [q, hoc] at e
      have q' : oc = p.2 := Option.some.inj e
      exact d w' (by rw [← q']; exact hocd)
theorem store_ok {M : Model} {A : Around} {E : Value → Shared → Prop} {i : Nat} {x : Str} {v : V} {u : Value} {Q : Unit → Shared → Prop} (I : Inv X pins σ H s) (hN : X.N.Nodup) (hi : X.N[i]? = some x) (hx : Loc X.env.scope x) (r : RelV v u)
    (h : ∀ s', Inv X pins (σ.set i (some v)) H s' → Q () s') (hf : X.fn x = true ∨ X.env.scope.names.lookup x = some .local := by first | exact .inl rfl | exact .inr rfl | assumption) : wpAny M A (storeName X.env x u) Q E s :=
  store_ok2 I hN hi hx r (fun s' I' _ => h s' I') hf
/-- behind a call or a block, the state as it is -/
theorem Inv.call' {s' : Shared} {ch : List Addr} (I : Inv X pins σ H s) (ho : s'.os = s.os) (u : Un (frs X.stack) ch H H' s.heap s'.heap) (hok : HOk X.prog X.w H' s'.heap) (hg : AllBare s'.gens)
    (hch : ∀ b ∈ ch, (b ∈ X.ex ∨ X.s₀.heap.objs.size ≤ b) ∧ b ≠ X.env.locals ∧ (∀ x c, X.env.cells.lookup x = some c → c ≠ b) ∧ ∀ p ∈ X.pn ++ pins, p.1 ≠ b) : Inv X pins σ H' s' := by
  obtain ⟨h', g', d', t', o'⟩ := s'
  have e : o' = s.os := ho
  subst e
  exact I.call (g' := g') (t' := t') (d' := d') u hok hg hch
end

/-! ### the judgements -/
/-- an exception: its class, its own dict's address (where it has one), the abstract heap behind it -/
abbrev XK := Value → Option Addr → Hp → Prop
abbrev St := List (Option V)
abbrev VK := V → Hp → Prop
/-- an expression's reading; a test's; an argument list's -/
abbrev TE := St → Hp → VK → Prop
abbrev TT := St → Hp → (Bool → Hp → Prop) → Prop
abbrev TA := St → Hp → (List V → Hp → Prop) → Prop
/-- what is wanted behind a statement -/
structure Ends where
  nx : St → Hp → Prop
  rt : VK
  bk : St → Hp → Prop := fun _ _ => False
  ct : St → Hp → Prop := fun _ _ => False
abbrev TS := Ends → St → Hp → Prop

def EP (X : Cx) (pins : List (Addr × Obj)) (σ : St) (Q : VK) (u : Value) (s' : Shared) : Prop := ∃ v H', Inv X pins σ H' s' ∧ RelV v u ∧ Q v H'
def TP (X : Cx) (pins : List (Addr × Obj)) (σ : St) (Q : Bool → Hp → Prop) (b : Bool) (s' : Shared) : Prop := ∃ H', Inv X pins σ H' s' ∧ Q b H'
def AP (X : Cx) (pins : List (Addr × Obj)) (σ : St) (Q : List V → Hp → Prop) (us : List Value) (s' : Shared) : Prop := ∃ vs H', Inv X pins σ H' s' ∧ Vals vs us ∧ Q vs H'
def SP (X : Cx) (pins : List (Addr × Obj)) (D : Ends) (f : Flow) (s' : Shared) : Prop :=
  match f with
  | .next => ∃ σ' H', Inv X pins σ' H' s' ∧ D.nx σ' H'
  | .brk => ∃ σ' H', Inv X pins σ' H' s' ∧ D.bk σ' H'
  | .cont => ∃ σ' H', Inv X pins σ' H' s' ∧ D.ct σ' H'
  | .ret u => ∃ v σ' H', Inv X pins σ' H' s' ∧ RelV v u ∧ D.rt v H'

def PE (X : Cx) (e : Expr) (t : TE) : Prop :=
  ∀ (pins : List (Addr × Obj)) (s : Shared) (σ : St) (H : Hp) (Q : VK), Inv X pins σ H s → t σ H Q → wpAny (model X.prog X.w) X.A (eval e X.env) (EP X pins σ Q) X.xe s
def PT (X : Cx) (e : Expr) (t : TT) : Prop :=
  ∀ (pins : List (Addr × Obj)) (s : Shared) (σ : St) (H : Hp) (Q : Bool → Hp → Prop), Inv X pins σ H s → t σ H Q → wpAny (model X.prog X.w) X.A (isTrue e X.env (eval e X.env)) (TP X pins σ Q) X.xe s
/-- a test whatever its 'whole' is (and, or) -/
def PW (X : Cx) (e : Expr) (t : TT) : Prop :=
  ∀ (whole : Sem Value) (pins : List (Addr × Obj)) (s : Shared) (σ : St) (H : Hp) (Q : Bool → Hp → Prop), Inv X pins σ H s → t σ H Q → wpAny (model X.prog X.w) X.A (isTrue e X.env whole) (TP X pins σ Q) X.xe s
theorem PW.pt {X : Cx} {e : Expr} {t : TT} (h : PW X e t) : PT X e t := h _
/-- an argument list (no star), from the left -/
def PA (X : Cx) (es : List Expr) (t : TA) : Prop :=
  ∀ (pos : Pos) (pins : List (Addr × Obj)) (s : Shared) (σ : St) (H : Hp) (Q : List V → Hp → Prop), Inv X pins σ H s → t σ H Q → wpAny (model X.prog X.w) X.A (spliced (backTo pos (starEach es X.env))) (AP X pins σ Q) X.xe s
def PS (X : Cx) (st : Stmt) (t : TS) : Prop :=
  ∀ (pins : List (Addr × Obj)) (s : Shared) (σ : St) (H : Hp) (D : Ends), Inv X pins σ H s → t D σ H → wpAny (model X.prog X.w) X.A (exec st X.env) (SP X pins D) X.xe s
def PSs (X : Cx) (st : List Stmt) (t : TS) : Prop :=
  ∀ (pins : List (Addr × Obj)) (s : Shared) (σ : St) (H : Hp) (D : Ends), Inv X pins σ H s → t D σ H → wpAny (model X.prog X.w) X.A (execs st X.env) (SP X pins D) X.xe s
/-- weaken the end -/
theorem thn {α : Type} {t : Sem α} {Q Q' : α → Shared → Prop} {M : Model} {A : Around} {E : Value → Shared → Prop} {s : Shared} (h : wpAny M A t Q E s) (hQ : ∀ a s, Q a s → Q' a s) : wpAny M A t Q' E s := wpAny_mono h hQ fun _ _ x => x
end L2

namespace L2
open PySem PySem.Spec PyProof.Rows
section
variable {X : Cx}

/-- two expressions in a row -/
theorem bin {a b : Expr} {ta tb : TE} (ha : PE X a ta) (hb : PE X b tb) {pins : List (Addr × Obj)} {s : Shared} {σ : St} {H : Hp} {R : V → V → Hp → Prop} (I : Inv X pins σ H s) (h : ta σ H fun x H1 => tb σ H1 fun y H2 => R x y H2)
    {α : Type} {Q : α → Shared → Prop} {f : Value → Value → Sem α}
    (hf : ∀ v u s2 x y H2, Inv X pins σ H2 s2 → RelV x v → RelV y u → R x y H2 → wpAny (model X.prog X.w) X.A (f v u) Q X.xe s2) :
    wpAny (model X.prog X.w) X.A (eval a X.env) (fun v s₁ => wpAny (model X.prog X.w) X.A (eval b X.env) (fun u s₂ => wpAny (model X.prog X.w) X.A (f v u) Q X.xe s₂) X.xe s₁) X.xe s := by
  refine thn (ha pins s σ H _ I h) fun v s1 ⟨x, H1, I1, r1, q1⟩ => ?_
  refine thn (hb pins s1 σ H1 _ I1 q1) fun u s2 ⟨y, H2, I2, r2, q2⟩ => ?_
  exact hf v u s2 x y H2 I2 r1 r2 q2

/-! ### names and constants -/
def tVar (i : Nat) : TE := fun σ H Q => ∃ v, σ[i]? = some (some v) ∧ Q v H
def tC (v : V) : TE := fun _ H Q => Q v H
theorem pe_var {i : Nat} {x : Str} {pos : Pos} (hN : X.N[i]? = some x) (hv : Vis X.env.scope x) (hd : (x == ("__debug__" : Str)) = false := by decide) (hcd : (x == ("__classdict__" : Str)) = false := by decide) : PE X (.Name x pos) (tVar i) := by
  intro pins s σ H Q I h
  obtain ⟨v, e, h⟩ := h
  obtain ⟨m, hn, hl⟩ := I.loc
  obtain ⟨u, r, l⟩ := hl i x v hN e hv
  have fin : EP X pins σ Q u s := ⟨v, H, I, r, h⟩
  rcases l with ⟨hk, hm⟩ | ⟨hk, c, hc, hcell⟩
  · exact wpAny_Name (wpAny_loadName_local I.ok.kind hk hn hm fin) hd
  · rcases hk with hk | hk
    · exact wpAny_Name (wpAny_loadName_cell I.ok.kind hk hc hcell fin) hd
    · exact wpAny_Name (wpAny_loadName_free I.ok.kind hk hc hcell fin hcd) hd
theorem pe_int {i j pos} : PE X (.Constant (.int i) j pos) (tC (.int i)) := fun _ _ _ H _ I h => wpAny_Constant_int ⟨.int i, H, I.tok _, ⟨_, rfl⟩, h⟩
theorem pe_bl {b j pos} : PE X (.Constant (.bool b) j pos) (tC (.bl b)) := fun _ _ _ H _ I h => Constant_bool ⟨.bl b, H, I, rfl, h⟩
theorem pe_non {j pos} : PE X (.Constant .none j pos) (tC .non) := fun _ _ _ H _ I h => Constant_none ⟨.non, H, I, rfl, h⟩
theorem pe_str {x j pos} : PE X (.Constant (.str x) j pos) (tC (.str x)) := fun _ _ _ H _ I h => Calls.Constant_str ⟨.str x, H, I.tok _, ⟨_, rfl⟩, h⟩

/-- a global name of the def -/
def Gl (X : Cx) (x : Str) : Prop := X.env.kindOf x = some .globalImplicit
theorem ld_glob {E : Value → Shared → Prop} {pins : List (Addr × Obj)} {s : Shared} {σ : St} {H : Hp} {x : Str} {u : Value} {pos : Pos} {Q : Value → Shared → Prop} (I : Inv X pins σ H s) (hg : Gl X x) (hm : X.mg x = some u) (h : Q u s)
    (hd : (x == ("__debug__" : Str)) = false := by decide) : wpAny (model X.prog X.w) X.A (eval (.Name x pos) X.env) Q E s :=
  Calls.Name_function_global I.ok.kind hg (Calls.loadGlobal_global (by rw [I.ok.glob]; exact I.mod.glob.keeps I.bk) hm h) hd
theorem ld_blt {E : Value → Shared → Prop} {pins : List (Addr × Obj)} {s : Shared} {σ : St} {H : Hp} {x : Str} {u : Value} {pos : Pos} {Q : Value → Shared → Prop} (I : Inv X pins σ H s) (hg : Gl X x) (hm : X.mg x = none) (hv : bootBuiltins x = some u) (h : Q u s)
    (hn : x ≠ "__name__" := by decide) (hd : (x == ("__debug__" : Str)) = false := by decide) : wpAny (model X.prog X.w) X.A (eval (.Name x pos) X.env) Q E s := by
  obtain ⟨mb, h1, h2⟩ := I.mod.blt
  exact Calls.Name_function_global I.ok.kind hg (Calls.loadGlobal_builtin (by rw [I.ok.glob]; exact I.mod.glob.keeps I.bk) hm (by rw [I.ok.blt]; exact h1.keeps I.bk) ((h2 x hn).trans hv) h) hd
/-- a module's constant, a class, a function, as a value -/
theorem pe_glob {x : Str} {v : V} {u : Value} {pos : Pos} (hg : Gl X x) (hm : X.mg x = some u) (r : RelV v u) (hd : (x == ("__debug__" : Str)) = false := by decide) : PE X (.Name x pos) (tC v) :=
  fun _ _ _ H _ I h => ld_glob I hg hm ⟨v, H, I, r, h⟩ hd
theorem pe_bltn {x : Str} {v : V} {u : Value} {pos : Pos} (hg : Gl X x) (hm : X.mg x = none) (hv : bootBuiltins x = some u) (r : RelV v u) (hn : x ≠ "__name__" := by decide) (hd : (x == ("__debug__" : Str)) = false := by decide) : PE X (.Name x pos) (tC v) :=
  fun _ _ _ H _ I h => ld_blt I hg hm hv ⟨v, H, I, r, h⟩ hn hd

/-! ### arithmetic -/
/-- two ints -/
def t2I (ta tb : TE) (k : Int → Int → Hp → Prop) : St → Hp → Prop := fun σ H => ta σ H fun x H1 => tb σ H1 fun y H2 => ∃ i j, x = .int i ∧ y = .int j ∧ k i j H2
def tAdd (ta tb : TE) : TE := fun σ H Q => t2I ta tb (fun i j H2 => Q (.int (i + j)) H2) σ H
def tSub (ta tb : TE) : TE := fun σ H Q => t2I ta tb (fun i j H2 => Q (.int (i - j)) H2) σ H
/-- the left factor below 2^64 -/
def tMul (ta tb : TE) : TE := fun σ H Q => t2I ta tb (fun i j H2 => (-(2 ^ 64) < i ∧ i < 2 ^ 64) ∧ Q (.int (i * j)) H2) σ H
variable {a b : Expr} {ta tb : TE} {pos : Pos}
theorem pe_add (ha : PE X a ta) (hb : PE X b tb) : PE X (.BinOp a .Add b pos) (tAdd ta tb) := by
  intro pins s σ H Q I h
  refine wpAny_BinOp (bin ha hb I h fun v u s2 x y H2 I2 rx ry q => ?_)
  obtain ⟨i, j, rfl, rfl, q⟩ := q
  obtain ⟨t, rfl⟩ := rx
  obtain ⟨t', rfl⟩ := ry
  exact add_int ⟨.int _, H2, I2.tok _, ⟨_, rfl⟩, q⟩
theorem pe_sub (ha : PE X a ta) (hb : PE X b tb) : PE X (.BinOp a .Sub b pos) (tSub ta tb) := by
  intro pins s σ H Q I h
  refine wpAny_BinOp (bin ha hb I h fun v u s2 x y H2 I2 rx ry q => ?_)
  obtain ⟨i, j, rfl, rfl, q⟩ := q
  obtain ⟨t, rfl⟩ := rx
  obtain ⟨t', rfl⟩ := ry
  exact sub_int ⟨.int _, H2, I2.tok _, ⟨_, rfl⟩, q⟩
theorem pe_mul (ha : PE X a ta) (hb : PE X b tb) : PE X (.BinOp a .Mult b pos) (tMul ta tb) := by
  intro pins s σ H Q I h
  refine wpAny_BinOp (bin ha hb I h fun v u s2 x y H2 I2 rx ry q => ?_)
  obtain ⟨i, j, rfl, rfl, ⟨q1, q2⟩, q⟩ := q
  obtain ⟨t, rfl⟩ := rx
  obtain ⟨t', rfl⟩ := ry
  exact mul_int ⟨.int _, H2, I2.tok _, ⟨_, rfl⟩, q⟩ (.of_left (intBits_le_64 q1 q2))

/-! ### comparisons -/
def PC (X : Cx) (op : CmpOp) (a b : Expr) (t : TE) : Prop :=
  ∀ (pins : List (Addr × Obj)) (s : Shared) (σ : St) (H : Hp) (Q : VK), Inv X pins σ H s → t σ H Q →
    wpAny (model X.prog X.w) X.A (eval a X.env) (fun v s₁ => wpAny (model X.prog X.w) X.A (eval b X.env) (fun u s₂ => wpAny (model X.prog X.w) X.A (compareOp op v u) (EP X pins σ Q) X.xe s₂) X.xe s₁) X.xe s
theorem nobehind (b : Expr) {op : CmpOp} (h : op ≠ .In) (h2 : op ≠ .NotIn) : behindInMarks op b = false := by
  have e1 : (op == CmpOp.In) = false := by cases op <;> first | rfl | exact absurd rfl h
  have e2 : (op == CmpOp.NotIn) = false := by cases op <;> first | rfl | exact absurd rfl h2
  cases b <;> simp [behindInMarks, e1, e2]
def tCmp (p : Int → Int → Bool) (ta tb : TE) : TE := fun σ H Q => t2I ta tb (fun i j H2 => Q (.bl (p i j)) H2) σ H
abbrev tLt : TE → TE → TE := tCmp fun i j => decide (i < j)
abbrev tLe : TE → TE → TE := tCmp fun i j => decide (i ≤ j)
abbrev tGt : TE → TE → TE := tCmp fun i j => decide (j < i)
abbrev tGe : TE → TE → TE := tCmp fun i j => decide (j ≤ i)
abbrev tEqI : TE → TE → TE := tCmp fun i j => decide (i = j)
abbrev tNeI : TE → TE → TE := tCmp fun i j => !decide (i = j)
/-- a comparison of two ints, by its rule -/
theorem pc_int {op : CmpOp} {p : Int → Int → Bool} (ha : PE X a ta) (hb : PE X b tb)
    (rule : ∀ (i j : Int) (t u : Tok) (Q : Value → Shared → Prop) (s : Shared), Q (.bool (p i j)) s → wpAny (model X.prog X.w) X.A (compareOp op (.int i t) (.int j u)) Q X.xe s) : PC X op a b (tCmp p ta tb) := by
  intro pins s σ H Q I h
  refine bin ha hb I h fun v u s2 x y H2 I2 rx ry q => ?_
  obtain ⟨i, j, rfl, rfl, q⟩ := q
  obtain ⟨t, rfl⟩ := rx
  obtain ⟨t', rfl⟩ := ry
  exact rule i j t t' _ s2 ⟨.bl _, H2, I2, rfl, q⟩
theorem pc_lt (ha : PE X a ta) (hb : PE X b tb) : PC X .Lt a b (tLt ta tb) := pc_int ha hb fun _ _ _ _ _ _ h => lt_int h
theorem pc_le (ha : PE X a ta) (hb : PE X b tb) : PC X .LtE a b (tLe ta tb) := pc_int ha hb fun _ _ _ _ _ _ h => le_int h
theorem pc_gt (ha : PE X a ta) (hb : PE X b tb) : PC X .Gt a b (tGt ta tb) := pc_int ha hb fun _ _ _ _ _ _ h => gt_int h
theorem pc_ge (ha : PE X a ta) (hb : PE X b tb) : PC X .GtE a b (tGe ta tb) := pc_int ha hb fun _ _ _ _ _ _ h => ge_int h
theorem pc_eqI (ha : PE X a ta) (hb : PE X b tb) : PC X .Eq a b (tEqI ta tb) := pc_int ha hb fun _ _ _ _ _ _ h => eq_int (by rw [Bool.beq_eq_decide_eq]; exact h)
theorem pc_neI (ha : PE X a ta) (hb : PE X b tb) : PC X .NotEq a b (tNeI ta tb) := pc_int ha hb fun _ _ _ _ _ _ h => ne_int (by rw [bne, Bool.beq_eq_decide_eq]; exact h)
/-- is None -/
def tIsN (ta : TE) : TE := fun σ H Q => ta σ H fun x H1 => Q (.bl (decide (x = .non))) H1
def tNotN (ta : TE) : TE := fun σ H Q => ta σ H fun x H1 => Q (.bl (!decide (x = .non))) H1
theorem RelV.none_iff {x : V} {v : Value} (r : RelV x v) : (v == Value.none) = decide (x = .non) := by
  cases x with
  | non => cases r; rfl
  | bl _ => cases r; rfl
  | int _ => obtain ⟨t, rfl⟩ := r; rfl
  | str _ => obtain ⟨t, rfl⟩ := r; rfl
  | byt _ => obtain ⟨t, rfl⟩ := r; rfl
  | flt _ => obtain ⟨t, rfl⟩ := r; rfl
  | ref _ => cases r; rfl
  | ty _ => cases r; rfl
theorem pc_isN {j pos'} (ha : PE X a ta) : PC X .Is a (.Constant .none j pos') (tIsN ta) := by
  intro pins s σ H Q I h
  refine thn (ha pins s σ H _ I h) fun v s1 ⟨x, H1, I1, r1, q1⟩ => ?_
  exact Constant_none (is_none_gen ⟨.bl _, H1, I1, by rw [r1.none_iff]; rfl, q1⟩)
theorem pc_notN {j pos'} (ha : PE X a ta) : PC X .IsNot a (.Constant .none j pos') (tNotN ta) := by
  intro pins s σ H Q I h
  refine thn (ha pins s σ H _ I h) fun v s1 ⟨x, H1, I1, r1, q1⟩ => ?_
  exact Constant_none (isnot_none_gen ⟨.bl _, H1, I1, by rw [r1.none_iff]; rfl, q1⟩)
/-- a comparison as a value, as a test -/
def tB (t : TE) : TT := fun σ H Q => t σ H fun x H1 => ∃ c, x = .bl c ∧ Q c H1
theorem pe_cmp {op : CmpOp} {t : TE} (h : PC X op a b t) (h1 : behindInMarks op b = false := by first | exact nobehind _ (by decide) (by decide) | rfl) : PE X (.Compare a [op] [b] pos) t := fun pins s σ H Q I hw => wpAny_Compare1 (h pins s σ H Q I hw) h1
theorem pt_cmp {op : CmpOp} {t : TE} (h : PC X op a b t) (h1 : behindInMarks op b = false := by first | exact nobehind _ (by decide) (by decide) | rfl) : PT X (.Compare a [op] [b] pos) (tB t) := by
  intro pins s σ H Q I hw
  refine wpAny_isTrue_Compare1 (thn (h pins s σ H _ I hw) fun v s1 h1 => thn h1 fun u s2 h2 => thn h2 fun c s3 ⟨x, H1, I1, r1, q1⟩ => ?_) h1
  obtain ⟨d, rfl, q⟩ := q1
  cases r1
  exact wpAny_truthy_bool ⟨H1, I1, q⟩
/-- an expression whose value is a bool, as a test -/
theorem pt_val {e : Expr} {t : TE} (h : PE X e t) (he : ∀ whole, isTrue e X.env whole = (do let v ← whole; standAt e.pos; holding [v] (truthy v)) := by intro _; rfl) : PT X e (tB t) := by
  intro pins s σ H Q I hw
  refine isTrue_plain (thn (h pins s σ H _ I hw) fun v s1 ⟨x, H1, I1, r1, q1⟩ => ?_) (he _)
  obtain ⟨d, rfl, q⟩ := q1
  cases r1
  exact wpAny_truthy_bool ⟨H1, I1, q⟩

/-! ### and, or, not -/
variable {tA tB' : TT} {rest : List Expr}
def tAnd (t u : TT) : TT := fun σ H Q => t σ H fun c H1 => if c = true then u σ H1 Q else Q false H1
def tOr (t u : TT) : TT := fun σ H Q => t σ H fun c H1 => if c = true then Q true H1 else u σ H1 Q
def tNot (t : TT) : TT := fun σ H Q => t σ H fun c H1 => Q (!c) H1
theorem pw_and1 (ha : PT X a tA) : PW X (.BoolOp .And [a] pos) tA := by
  intro wh pins s σ H Q I h
  refine isTrue_and (thn (ha pins s σ H Q I h) fun c s1 e => ?_)
  cases c with
  | true => exact isTrue_and_nil e
  | false => exact e
theorem pw_or1 (ha : PT X a tA) : PW X (.BoolOp .Or [a] pos) tA := by
  intro wh pins s σ H Q I h
  refine isTrue_or (thn (ha pins s σ H Q I h) fun c s1 e => ?_)
  cases c with
  | false => exact isTrue_or_nil e
  | true => exact e
theorem pw_and (ha : PT X a tA) (hb : PW X (.BoolOp .And (b :: rest) pos) tB') : PW X (.BoolOp .And (a :: b :: rest) pos) (tAnd tA tB') := by
  intro wh pins s σ H Q I h
  refine isTrue_and (thn (ha pins s σ H _ I h) fun c s1 ⟨H1, I1, q1⟩ => ?_)
  cases c with
  | true => exact hb wh pins s1 σ H1 Q I1 q1
  | false => exact ⟨H1, I1, q1⟩
theorem pw_or (ha : PT X a tA) (hb : PW X (.BoolOp .Or (b :: rest) pos) tB') : PW X (.BoolOp .Or (a :: b :: rest) pos) (tOr tA tB') := by
  intro wh pins s σ H Q I h
  refine isTrue_or (thn (ha pins s σ H _ I h) fun c s1 ⟨H1, I1, q1⟩ => ?_)
  cases c with
  | true => exact ⟨H1, I1, q1⟩
  | false => exact hb wh pins s1 σ H1 Q I1 q1
theorem pt_not (ha : PT X a tA) : PT X (.UnaryOp .Not a pos) (tNot tA) := by
  intro pins s σ H Q I h
  exact isTrue_not (ha pins s σ H (fun c H1 => Q (!c) H1) I h)
/-- .. as values (bools) -/
def tAndV (ta tb : TE) : TE := fun σ H Q => ta σ H fun x H1 => ∃ c, x = .bl c ∧ if c = true then tb σ H1 Q else Q (.bl false) H1
def tOrV (ta tb : TE) : TE := fun σ H Q => ta σ H fun x H1 => ∃ c, x = .bl c ∧ if c = true then Q (.bl true) H1 else tb σ H1 Q
def tNotV (ta : TE) : TE := fun σ H Q => ta σ H fun x H1 => ∃ c, x = .bl c ∧ Q (.bl (!c)) H1
theorem pe_one {op} {t : TE} (h : PE X a t) : PE X (.BoolOp op [a] pos) t := fun pins s σ H Q I hw => BoolOp_one (h pins s σ H Q I hw)
theorem pe_and (ha : PE X a ta) (hb : PE X (.BoolOp .And (b :: rest) pos) tb) : PE X (.BoolOp .And (a :: b :: rest) pos) (tAndV ta tb) := by
  intro pins s σ H Q I h
  refine BoolOp_and (thn (ha pins s σ H _ I h) fun v s1 ⟨x, H1, I1, r1, q1⟩ => ?_)
  obtain ⟨c, rfl, q1⟩ := q1
  cases r1
  refine wpAny_truthy_bool ?_
  cases c with
  | true => exact hb pins s1 σ H1 Q I1 q1
  | false => exact ⟨.bl false, H1, I1, rfl, q1⟩
theorem pe_or (ha : PE X a ta) (hb : PE X (.BoolOp .Or (b :: rest) pos) tb) : PE X (.BoolOp .Or (a :: b :: rest) pos) (tOrV ta tb) := by
  intro pins s σ H Q I h
  refine BoolOp_or (thn (ha pins s σ H _ I h) fun v s1 ⟨x, H1, I1, r1, q1⟩ => ?_)
  obtain ⟨c, rfl, q1⟩ := q1
  cases r1
  refine wpAny_truthy_bool ?_
  cases c with
  | false => exact hb pins s1 σ H1 Q I1 q1
  | true => exact ⟨.bl true, H1, I1, rfl, q1⟩
theorem pe_not (ha : PE X a ta) : PE X (.UnaryOp .Not a pos) (tNotV ta) := by
  intro pins s σ H Q I h
  refine UnaryOp_ (thn (ha pins s σ H _ I h) fun v s1 ⟨x, H1, I1, r1, q1⟩ => ?_)
  obtain ⟨c, rfl, q1⟩ := q1
  cases r1
  exact not_of (wpAny_truthy_bool ⟨.bl (!c), H1, I1, rfl, q1⟩)
/-- a if t else b -/
def tIf (t : TT) (ta tb : TE) : TE := fun σ H Q => t σ H fun c H1 => if c = true then ta σ H1 Q else tb σ H1 Q
theorem pe_ifExp {c : Expr} (hc : PT X c tA) (ha : PE X a ta) (hb : PE X b tb) : PE X (.IfExp c a b pos) (tIf tA ta tb) := by
  intro pins s σ H Q I h
  refine wpAny_IfExp (thn (hc pins s σ H _ I h) fun d s1 ⟨H1, I1, q1⟩ => ?_)
  cases d with
  | true => exact ha pins s1 σ H1 Q I1 q1
  | false => exact hb pins s1 σ H1 Q I1 q1
end
end L2

namespace L2
open PySem PySem.Spec PyProof.Rows

/-! ### a list, a tuple that is read: tracked, frozen, or an object of the module -/
def SqL (K : PySem.W.Frag) (H : Hp) (a : Addr) (xs : List V) : Prop :=
  Rd H a (.lst xs) ∨
    ∃ (o : Obj) (its : Array Value) (n : Nat), K.lookup a = some o ∧ o.cls = .type "list" ∧ o.dict = none ∧ o.data = .seq its n ∧ its.size ≤ sizeLine ∧ Vals xs its.toList
def SqT (K : PySem.W.Frag) (H : Hp) (a : Addr) (xs : List V) : Prop :=
  Rd H a (.tup xs) ∨
    ∃ (o : Obj) (its : Array Value) (n : Nat), K.lookup a = some o ∧ o.cls = .type "tuple" ∧ o.data = .seq its n ∧ its.size ≤ sizeLine ∧ Vals xs its.toList
def absV : Value → Option V
  | .none => some .non
  | .bool b => some (.bl b)
  | .int i _ => some (.int i)
  | .str x _ => some (.str x)
  | .bytes b _ => some (.byt b)
  | .float b _ => some (.flt b)
  | .ref a => some (.ref a)
  | .type n => some (.ty n)
  | _ => none
theorem RelV.abs {x : V} {u : Value} (r : RelV x u) : absV u = some x := by
  cases x with
  | non => cases r; rfl
  | bl _ => cases r; rfl
  | int _ => obtain ⟨t, rfl⟩ := r; rfl
  | str _ => obtain ⟨t, rfl⟩ := r; rfl
  | byt _ => obtain ⟨t, rfl⟩ := r; rfl
  | flt _ => obtain ⟨t, rfl⟩ := r; rfl
  | ref _ => cases r; rfl
  | ty _ => cases r; rfl
theorem RelV.inj {x y : V} {u : Value} (r : RelV x u) (q : RelV y u) : x = y := Option.some.inj (r.abs.symm.trans q.abs)
theorem Vals.inj : ∀ {xs ys : List V} {us : List Value}, Vals xs us → Vals ys us → xs = ys
  | _, _, _, .nil, .nil => rfl
  | _, _, _, .cons r t, .cons r' t' => by rw [r.inj r', Vals.inj t t']
section
variable {X : Cx} {pins : List (Addr × Obj)} {σ : St} {H : Hp} {s : Shared} {a : Addr} {xs ys : List V}
theorem SqL.of {K : PySem.W.Frag} (h : H a = some (.lst xs)) : SqL K H a xs := .inl (.inl h)
theorem SqT.of {K : PySem.W.Frag} (h : H a = some (.tup xs)) : SqT K H a xs := .inl (.inl h)
theorem Inv.list (I : Inv X pins σ H s) (h : SqL X.K H a xs) : ∃ its : List Value, Vals xs its ∧ PlainL s.heap a its.toArray ∧ xs.length ≤ sizeLine := by
  rcases h with h | ⟨o, its, n, hk, hc, hd, hs, hz, r⟩
  · obtain ⟨z, its, n, r, e⟩ := h.ok I.hok
    exact ⟨its, r, ⟨_, n, e, rfl, rfl, rfl⟩, z⟩
  · refine ⟨its.toList, r, ⟨o, n, I.kIn a o hk, hc, hd, by simpa using hs⟩, ?_⟩
    have e := r.length
    simp only [Array.length_toList] at e
    omega
theorem Inv.tuple (I : Inv X pins σ H s) (h : SqT X.K H a xs) : ∃ its : List Value, Vals xs its ∧ IsTup s.heap a its.toArray ∧ xs.length ≤ sizeLine := by
  rcases h with h | ⟨o, its, n, hk, hc, hs, hz, r⟩
  · obtain ⟨z, its, r, p⟩ := h.ok I.hok
    exact ⟨its, r, p.isTup, z⟩
  · refine ⟨its.toList, r, ⟨o, I.kIn a o hk, hc, n, by simpa using hs⟩, ?_⟩
    have e := r.length
    simp only [Array.length_toList] at e
    omega
theorem Inv.list_inj (I : Inv X pins σ H s) (h : SqL X.K H a xs) (h' : SqL X.K H a ys) : xs = ys := by
  obtain ⟨its, r, ⟨o, n, e, _, _, d⟩, _⟩ := I.list h
  obtain ⟨its', r', ⟨o', n', e', _, _, d'⟩, _⟩ := I.list h'
  rw [e] at e'; cases e'
  rw [d] at d'
  injection d' with d1 _
  have : its = its' := by simpa using congrArg Array.toList d1
  subst this
  exact r.inj r'
theorem Inv.tuple_inj (I : Inv X pins σ H s) (h : SqT X.K H a xs) (h' : SqT X.K H a ys) : xs = ys := by
  obtain ⟨its, r, ⟨o, e, _, n, d⟩, _⟩ := I.tuple h
  obtain ⟨its', r', ⟨o', e', _, n', d'⟩, _⟩ := I.tuple h'
  rw [e] at e'; cases e'
  rw [d] at d'
  injection d' with d1 _
  have : its = its' := by simpa using congrArg Array.toList d1
  subst this
  exact r.inj r'
end

/-! ### another wish about exceptions -/
abbrev Cx.wish (X : Cx) (E : Value → Shared → Prop) : Cx := { X with xe := E }
/-- no exception leaves -/
abbrev Cx.nox (X : Cx) : Cx := X.wish fun _ _ => False
theorem Cx.Ok.wish {X : Cx} (ok : X.Ok) (E : Value → Shared → Prop) : (X.wish E).Ok :=
  ⟨ok.mod, ok.kind, ok.glob, ok.blt, ok.above, ok.inj, ok.has, ok.cab, ok.hd, ok.frames, ok.stk, ok.exf, ok.bs, ok.bsz, ok.noex, ok.exfs, ok.funs, ok.frf⟩
theorem Cx.Ok.unwish {X : Cx} {E : Value → Shared → Prop} (ok : (X.wish E).Ok) : X.Ok :=
  ⟨ok.mod, ok.kind, ok.glob, ok.blt, ok.above, ok.inj, ok.has, ok.cab, ok.hd, ok.frames, ok.stk, ok.exf, ok.bs, ok.bsz, ok.noex, ok.exfs, ok.funs, ok.frf⟩
section
variable {X : Cx} {pins : List (Addr × Obj)} {σ : St} {H : Hp} {s : Shared} {E : Value → Shared → Prop}
theorem Inv.wish (I : Inv X pins σ H s) (E : Value → Shared → Prop) : Inv (X.wish E) pins σ H s := ⟨I.ok.wish E, I.os, I.bare, I.base, I.loc, I.cell, I.free, I.freeC, I.pin, I.hok, I.len⟩
theorem Inv.unwish (I : Inv (X.wish E) pins σ H s) : Inv X pins σ H s := ⟨I.ok.unwish, I.os, I.bare, I.base, I.loc, I.cell, I.free, I.freeC, I.pin, I.hok, I.len⟩
theorem SP.unwish {D : Ends} {f : Flow} {s' : Shared} (h : SP (X.wish E) pins D f s') : SP X pins D f s' := by
  cases f with
  | next => obtain ⟨σ', H', I, q⟩ := h; exact ⟨σ', H', I.unwish, q⟩
  | brk => obtain ⟨σ', H', I, q⟩ := h; exact ⟨σ', H', I.unwish, q⟩
  | cont => obtain ⟨σ', H', I, q⟩ := h; exact ⟨σ', H', I.unwish, q⟩
  | ret u => obtain ⟨v, σ', H', I, r, q⟩ := h; exact ⟨v, σ', H', I.unwish, r, q⟩
theorem PE.nox {e : Expr} {t : TE} (h : PE X.nox e t) : PE X e t := fun pins s σ H Q I hw =>
  wpAny_mono (h pins s σ H Q (I.wish _) hw) (fun _ _ ⟨v, H', I', r, q⟩ => ⟨v, H', I'.unwish, r, q⟩) fun _ _ z => False.elim z
theorem PT.nox {e : Expr} {t : TT} (h : PT X.nox e t) : PT X e t := fun pins s σ H Q I hw =>
  wpAny_mono (h pins s σ H Q (I.wish _) hw) (fun _ _ ⟨H', I', q⟩ => ⟨H', I'.unwish, q⟩) fun _ _ z => False.elim z
theorem PSs.nox {st : List Stmt} {t : TS} (h : PSs X.nox st t) : PSs X st t := fun pins s σ H D I hw =>
  wpAny_mono (h pins s σ H D (I.wish _) hw) (fun _ _ q => q.unwish) fun _ _ z => False.elim z
end

/-! ### blocks and small statements -/
section
variable {X : Cx} {st : Stmt} {rest : List Stmt} {t u : TS} {e : Expr} {te : TE} {pos : Pos}
def tNext : TS := fun D σ H => D.nx σ H
def tSeq (t u : TS) : TS := fun D σ H => t { D with nx := u D } σ H
theorem pss_nil : PSs X [] tNext := fun _ _ σ H _ I h => wpAny_execs_nil ⟨σ, H, I, h⟩
theorem pss_cons (h1 : PS X st t) (h2 : PSs X rest u) : PSs X (st :: rest) (tSeq t u) := by
  intro pins s σ H D I h
  refine wpAny_execs_cons (thn (h1 pins s σ H { D with nx := u D } I h) fun f s1 q => ?_)
  cases f with
  | next =>
    obtain ⟨σ', H', I', q⟩ := q
    exact h2 pins s1 σ' H' D I' q
  | ret v => exact q
  | brk => exact q
  | cont => exact q
theorem pss_one (h1 : PS X st t) : PSs X [st] t := by
  intro pins s σ H D I h
  refine wpAny_execs_cons (thn (h1 pins s σ H D I h) fun f s1 q => ?_)
  cases f with
  | next => exact wpAny_execs_nil q
  | ret v => exact q
  | brk => exact q
  | cont => exact q
def tBreak : TS := fun D σ H => D.bk σ H
def tCont : TS := fun D σ H => D.ct σ H
theorem ps_pass : PS X (.Pass pos) tNext := fun _ _ σ H _ I h => wpAny_Pass ⟨σ, H, I, h⟩
theorem ps_break : PS X (.Break pos) tBreak := fun _ _ σ H _ I h => wpAny_Break ⟨σ, H, I, h⟩
theorem ps_continue : PS X (.Continue pos) tCont := fun _ _ σ H _ I h => wpAny_Continue ⟨σ, H, I, h⟩
/-- in a def's body nothing is shown -/
theorem Inv.quiet {pins : List (Addr × Obj)} {σ : St} {H : Hp} {s : Shared} (I : Inv X pins σ H s) : interactive X.env = false := by simp [interactive, I.ok.kind]
/-- a docstring -/
theorem ps_doc {x j pos pos'} : PS X (.Expr (.Constant (.str x) j pos) pos') tNext := fun _ s σ H _ I h => wpAny_Expr (Calls.Constant_str (show SP X _ _ .next { s with toks := s.toks + 1 } from ⟨σ, H, I.tok _, h⟩)) I.quiet
/-- an expression whose value is dropped -/
def tDrop (te : TE) : TS := fun D σ H => te σ H fun _ H1 => D.nx σ H1
theorem ps_expr (he : PE X e te) (hs : swapsWith e none pos.line X.env = pure false := by rfl) : PS X (.Expr e pos) (tDrop te) := by
  intro pins s σ H D I h
  exact wpAny_Expr_any (thn (he pins s σ H _ I h) fun v s1 ⟨x, H1, I1, r1, q1⟩ => ⟨σ, H1, I1, q1⟩) I.quiet hs
def tRet (te : TE) : TS := fun D σ H => te σ H D.rt
theorem ps_ret (he : PE X e te) : PS X (.Return (some e) pos) (tRet te) := by
  intro pins s σ H D I h
  exact wpAny_Return_some (thn (he pins s σ H _ I h) fun v s1 ⟨x, H1, I1, r1, q1⟩ => ⟨x, σ, H1, I1, r1, q1⟩)
def tRetN : TS := fun D _ H => D.rt .non H
theorem ps_retN : PS X (.Return none pos) tRetN := fun _ _ σ H _ I h => wpAny_Return_none ⟨.non, σ, H, I, rfl, h⟩
def tIfS (c : TT) (t u : TS) : TS := fun D σ H => c σ H fun b H1 => if b = true then t D σ H1 else u D σ H1
theorem ps_if {c : Expr} {a b : List Stmt} {tc : TT} (hc : PT X c tc) (ha : PSs X a t) (hb : PSs X b u) : PS X (.If c a b pos) (tIfS tc t u) := by
  intro pins s σ H D I h
  refine wpAny_If (thn (hc pins s σ H _ I h) fun d s1 ⟨H1, I1, q1⟩ => ?_)
  cases d with
  | true => exact ha pins s1 σ H1 D I1 q1
  | false => exact hb pins s1 σ H1 D I1 q1
/-- code that the proof never comes to -/
def tNever : TS := fun _ _ _ => False
theorem ps_never : PS X st tNever := fun _ _ _ _ _ _ h => h.elim
theorem pss_never {sts : List Stmt} : PSs X sts tNever := fun _ _ _ _ _ _ h => h.elim
end

/-! ### targets -/
abbrev TG := V → St → Hp → (St → Hp → Prop) → Prop
abbrev TGs := List V → St → Hp → (St → Hp → Prop) → Prop
def PG (X : Cx) (target : Expr) (t : TG) : Prop :=
  ∀ (pins : List (Addr × Obj)) (s : Shared) (σ : St) (H : Hp) (v : V) (u : Value) (Q : St → Hp → Prop), Inv X pins σ H s → RelV v u → t v σ H Q →
    wpAny (model X.prog X.w) X.A (assign target X.env u) (fun _ s' => ∃ σ' H', Inv X pins σ' H' s' ∧ Q σ' H') X.xe s
/-- several targets, one after another -/
def PGs (X : Cx) (ts : List Expr) (t : TGs) : Prop :=
  ∀ (pins : List (Addr × Obj)) (s : Shared) (σ : St) (H : Hp) (vs : List V) (us : List Value) (Q : St → Hp → Prop), Inv X pins σ H s → Vals vs us → t vs σ H Q →
    wpAny (model X.prog X.w) X.A (assignInOrder ((assignEach ts X.env).map (·.2)) us) (fun _ s' => ∃ σ' H', Inv X pins σ' H' s' ∧ Q σ' H') X.xe s
/-- o[i] = v, by values -/
abbrev TSet := V → V → V → Hp → (Hp → Prop) → Prop
def PSet (X : Cx) (t : TSet) : Prop :=
  ∀ (pins : List (Addr × Obj)) (s : Shared) (σ : St) (H : Hp) (o i v : V) (ov iv u : Value) (Q : Hp → Prop), Inv X pins σ H s → RelV o ov → RelV i iv → RelV v u → t o i v H Q →
    wpAny (model X.prog X.w) X.A (setItem ov iv u) (fun _ s' => ∃ H', Inv X pins σ H' s' ∧ Q H') X.xe s
/-- a op= b, by values -/
abbrev TIp := V → V → Hp → VK → Prop
def PIp (X : Cx) (op : Operator) (t : TIp) : Prop :=
  ∀ (pins : List (Addr × Obj)) (s : Shared) (σ : St) (H : Hp) (x y : V) (v u : Value) (Q : VK), Inv X pins σ H s → RelV x v → RelV y u → t x y H Q →
    wpAny (model X.prog X.w) X.A (inplaceOp op v u) (EP X pins σ Q) X.xe s
section
variable {X : Cx} {pos : Pos}
def gName (i : Nat) : TG := fun v σ H Q => Q (σ.set i (some v)) H
theorem pg_name {i : Nat} {x : Str} (hN : X.N.Nodup) (hi : X.N[i]? = some x) (hx : Loc X.env.scope x) (hf : X.fn x = true ∨ X.env.scope.names.lookup x = some .local := by first | exact .inl rfl | exact .inr rfl | assumption) : PG X (.Name x pos) (gName i) := by
  intro pins s σ H v u Q I r h
  exact wpAny_assign_Name (store_ok I hN hi hx r (fun s' I' => ⟨_, H, I', h⟩) hf)
def gNil : TGs := fun vs σ H Q => vs = [] ∧ Q σ H
def gCons (t : TG) (u : TGs) : TGs := fun vs σ H Q => ∃ v r, vs = v :: r ∧ t v σ H fun σ' H' => u r σ' H' Q
theorem pgs_nil : PGs X [] gNil := by
  intro pins s σ H vs us Q I r h
  obtain ⟨e, h⟩ := h
  subst e
  cases r
  exact assignInOrder_nil ⟨σ, H, I, h⟩
theorem pgs_cons {e : Expr} {es : List Expr} {t : TG} {u : TGs} (h1 : PG X e t) (h2 : PGs X es u)
    (hs : (assignEach (e :: es) X.env).map (·.2) = assign e X.env :: (assignEach es X.env).map (·.2) := by rfl) : PGs X (e :: es) (gCons t u) := by
  intro pins s σ H vs us Q I r h
  obtain ⟨v, vr, e1, h⟩ := h
  subst e1
  cases r with
  | cons r rr =>
    rw [hs]
    refine assignInOrder_cons (thn (h1 pins s σ H _ _ _ I r h) fun _ s1 ⟨σ1, H1, I1, q1⟩ => ?_)
    exact h2 pins s1 σ1 H1 _ _ Q I1 rr q1
/-- (a, b, ..) = a tuple of that length -/
def gTup (K : PySem.W.Frag) (n : Nat) (t : TGs) : TG := fun v σ H Q => ∃ a xs, v = .ref a ∧ SqT K H a xs ∧ xs.length = n ∧ t xs σ H Q
theorem pg_tup {es : List Expr} {k : Nat} {t : TGs} {n : Nat} (hc : X.calm = true) (h : PGs X es t)
    (hn : (assignEach es X.env).length = n := by rfl) (hst : (assignEach es X.env).findIdx? (·.1) = none := by rfl) : PG X (.Tuple es k pos) (gTup X.K n t) := by
  intro pins s σ H v u Q I r hw
  obtain ⟨a, xs, e1, hq, hl, hw⟩ := hw
  subst e1
  cases r
  obtain ⟨its, rv, ht, hz⟩ := I.tuple hq
  refine assign_Tuple_tuple (I.ok.hd hc) ht (by simp [hn, ← hl, rv.length]) hst fun h' hx => ?_
  have I1 : Inv X pins σ H { s with heap := h' } := I.kept (t' := s.toks) fun b o e => hx b o (Nat.ne_of_lt (Heap.lt_size e)) e
  exact h pins _ σ H xs _ Q I1 (by simpa using rv) hw
/-- o[i] = .. -/
def gSub (to ti : TE) (t : TSet) : TG := fun v σ H Q => to σ H fun o H1 => ti σ H1 fun i H2 => t o i v H2 fun H3 => Q σ H3
theorem pg_sub {o i : Expr} {to ti : TE} {t : TSet} (ho : PE X o to) (hi : PE X i ti) (hs : PSet X t)
    (ha : ∀ v, assign (.Subscript o i pos) X.env v = (do
      let ov ← holding [v] (eval o X.env)
      let iv ← holding [v, ov] (eval i X.env)
      standAt pos
      holding [v, ov, iv] (setItem ov iv v)
      release [v, ov, iv] []) := by intro _; rfl) : PG X (.Subscript o i pos) (gSub to ti t) := by
  intro pins s σ H v u Q I r h
  rw [ha]
  refine wpAny_bind (wpAny_holding (thn (ho pins s σ H _ I h) fun ov s1 ⟨x, H1, I1, r1, q1⟩ => ?_))
  refine wpAny_bind (wpAny_holding (thn (hi pins s1 σ H1 _ I1 q1) fun iv s2 ⟨y, H2, I2, r2, q2⟩ => ?_))
  refine wpAny_bind (wpAny_standAt (wpAny_bind (wpAny_holding (thn (hs pins s2 σ H2 x y v ov iv u _ I2 r1 r2 r q2) fun _ s3 ⟨H3, I3, q3⟩ => ?_))))
  exact wpAny_release ⟨σ, H3, I3, q3⟩
/-- target = value -/
def tAsg (te : TE) (g : TG) : TS := fun D σ H => te σ H fun x H1 => g x σ H1 D.nx
theorem ps_asg {tg e : Expr} {te : TE} {g : TG} (he : PE X e te) (hg : PG X tg g) (hs : swapsWithSole [tg] e pos.line X.env = pure false := by rfl) (hw : swappedStores [tg] e X.env = pure none := by rfl)
    (h1 : (assignEach [tg] X.env).map (·.2) = [assign tg X.env] := by rfl) : PS X (.Assign [tg] e pos) (tAsg te g) := by
  intro pins s σ H D I h
  refine wpAny_Assign_stores (thn (he pins s σ H _ I h) fun v s1 ⟨x, H1, I1, r1, q1⟩ => ?_) hs hw
  rw [h1]
  exact thn (hg pins s1 σ H1 x v _ I1 r1 q1) fun _ s2 q => q
/-- name = value -/
theorem ps_set {i : Nat} {x : Str} {e : Expr} {te : TE} {pos' : Pos} (hN : X.N.Nodup) (hi : X.N[i]? = some x) (hx : Loc X.env.scope x) (he : PE X e te) (hs : swapsWith e (some (.Name x pos')) pos.line X.env = pure false := by rfl) (hf : X.fn x = true ∨ X.env.scope.names.lookup x = some .local := by first | exact .inl rfl | exact .inr rfl | assumption) :
    PS X (.Assign [.Name x pos'] e pos) (tAsg te (gName i)) := by
  intro pins s σ H D I h
  refine wpAny_Assign_Name (thn (he pins s σ H _ I h) fun v s1 ⟨y, H1, I1, r1, q1⟩ => ?_) hs
  exact store_ok I1 hN hi hx r1 (fun s2 I2 => ⟨_, H1, I2, q1⟩) hf
/-- a, b = x, y with plain local names: stored from the right; the pair itself is not tracked (the opening rows as in PyProof/Rows/TupAssign.lean:23) -/
def tPar (i j : Nat) (ta : TA) : TS := fun D σ H => ta σ H fun vs H1 => ∃ v w, vs = [v, w] ∧ D.nx ((σ.set i (some v)).set j (some w)) H1
theorem ps_par {i j : Nat} {x y : Str} {a b : Expr} {ta : TA} {px py pt : Pos} {kt k2 pt2} (hc : X.calm = true) (hN : X.N.Nodup) (hi : X.N[i]? = some x) (hj : X.N[j]? = some y) (hij : i ≠ j)
    (hx : X.env.scope.names.lookup x = some .local) (hy : X.env.scope.names.lookup y = some .local) (ha : PA X [a, b] ta)
    (hw : swappedStores [.Tuple [.Name x px, .Name y py] kt pt] (.Tuple [a, b] k2 pt2) X.env = pure (some [x, y]))
    (hs : swapsWithSole [.Tuple [.Name x px, .Name y py] kt pt] (.Tuple [a, b] k2 pt2) pos.line X.env = pure false := by rfl) :
    PS X (.Assign [.Tuple [.Name x px, .Name y py] kt pt] (.Tuple [a, b] k2 pt2) pos) (tPar i j ta) := by
  intro pins s σ H D I h
  rw [exec_Assign_arm]
  refine wpAny_bind (wpAny_standAt ?_)
  rw [hs]
  refine wpAny_bind (wpAny_pure ?_)
  rw [if_neg (by decide)]
  refine wpAny_bind (Tuple_ (thn (ha _ pins s σ H _ I h) fun us s1 ⟨vs, H1, I1, r1, q1⟩ => ?_))
  obtain ⟨v, w, e1, q1⟩ := q1
  subst e1
  obtain ⟨u1, u2, rfl, rv, rw'⟩ : ∃ u1 u2, us = [u1, u2] ∧ RelV v u1 ∧ RelV w u2 := by
    cases r1 with
    | cons p q =>
      cases q with
      | cons p' q' =>
        cases q'
        exact ⟨_, _, rfl, p, p'⟩
  refine wpAny_newObj_type ?_ (by show 2 ≤ sizeLine; decide)
  have I2 : Inv X pins σ H1 { s1 with heap := s1.heap.push { cls := .type "tuple", data := .seq [u1, u2].toArray } } := I1.kept (t' := s1.toks) fun b o e => Heap.get?_push_of_some _ e
  rw [hw]
  refine wpAny_bind (wpAny_pure ?_)
  show wpAny (model X.prog X.w) X.A (do rule "assign.swapped-stores"; let items ← unpackItems (.ref s1.heap.objs.size) 2 none; assignInOrder [fun v => bindName X.env y v, fun v => bindName X.env x v] items.reverse; pure Flow.next) _ _ _
  refine wpAny_bind (wpAny_rule (wpAny_bind (unpackItems_tuple (items := #[u1, u2]) (I.ok.hd hc) (IsTup.new s1.heap _) fun h' hx' => ?_)))
  have I3 := I2.kept (h' := h') (t' := s1.toks) fun b o e => hx' b o (Nat.ne_of_lt (Heap.lt_size e)) e
  show wpAny _ _ (assignInOrder [fun v => bindName X.env y v, fun v => bindName X.env x v] [u2, u1] >>= fun _ => pure Flow.next) _ _ _
  refine wpAny_bind (assignInOrder_cons (wpAny_bindName (store_ok I3 hN hj (.inl hy) rw' (fun s2 I4 => ?_) (.inr hy))))
  refine assignInOrder_cons (wpAny_bindName (store_ok I4 hN hi (.inl hx) rv (fun s3 I5 => assignInOrder_nil (wpAny_pure ?_)) (.inr hx)))
  rw [List.set_comm _ _ (Ne.symm hij)] at I5
  exact ⟨_, H1, I5, q1⟩
/-- name op= e -/
def tAug (i : Nat) (te : TE) (ti : TIp) : TS := fun D σ H => ∃ x, σ[i]? = some (some x) ∧ te σ H fun y H1 => ti x y H1 fun z H2 => D.nx (σ.set i (some z)) H2
theorem ps_aug {i : Nat} {x : Str} {e : Expr} {te : TE} {op : Operator} {ti : TIp} {pos' : Pos} (hN : X.N.Nodup) (hi : X.N[i]? = some x) (hx : Loc X.env.scope x) (he : PE X e te) (ho : PIp X op ti) (hf : X.fn x = true ∨ X.env.scope.names.lookup x = some .local := by first | exact .inl rfl | exact .inr rfl | assumption) :
    PS X (.AugAssign (.Name x pos') op e pos) (tAug i te ti) := by
  intro pins s σ H D I h
  obtain ⟨v, e1, h⟩ := h
  obtain ⟨m, hn, hl⟩ := I.loc
  have vis : Vis X.env.scope x := by rcases hx with k | k; exact .inl k; exact .inr (.inl k)
  obtain ⟨u, r, l⟩ := hl i x v hi e1 vis
  refine wpAny_AugAssign_Name ?_
  have go : wpAny (model X.prog X.w) X.A (eval e X.env) (fun w s₂ => wpAny (model X.prog X.w) X.A (inplaceOp op u w) (fun r s₃ => wpAny (model X.prog X.w) X.A (storeName X.env x r) (fun _ => SP X pins D .next) X.xe s₃) X.xe s₂) X.xe s := by
    refine thn (he pins s σ H _ I h) fun w s1 ⟨y, H1, I1, r1, q1⟩ => ?_
    refine thn (ho pins s1 σ H1 v y u w _ I1 r r1 q1) fun z s2 ⟨zv, H2, I2, r2, q2⟩ => ?_
    exact store_ok I2 hN hi hx r2 (fun s3 I3 => ⟨_, H2, I3, q2⟩) hf
  rcases l with ⟨hk, hm⟩ | ⟨hk, c, hc, hcell⟩
  · exact wpAny_loadName_local I.ok.kind hk hn hm go
  · rcases hk with hk | hk
    · exact wpAny_loadName_cell I.ok.kind hk hc hcell go
    · rcases hx with k | k
      · have : X.env.scope.names.lookup x = some .free := hk
        rw [k] at this; cases this
      · have : X.env.scope.names.lookup x = some .free := hk
        rw [k] at this; cases this
/-- o[i] op= e -/
def tAugS (to ti te : TE) (tget : V → V → Hp → VK → Prop) (tip : TIp) (tset : TSet) : TS := fun D σ H => to σ H fun o H1 => ti σ H1 fun i H2 => tget o i H2 fun x H3 => te σ H3 fun y H4 => tip x y H4 fun z H5 => tset o i z H5 fun H6 => D.nx σ H6
/-- o[i], by values -/
def PGet (X : Cx) (t : V → V → Hp → VK → Prop) : Prop :=
  ∀ (pins : List (Addr × Obj)) (s : Shared) (σ : St) (H : Hp) (o i : V) (ov iv : Value) (Q : VK), Inv X pins σ H s → RelV o ov → RelV i iv → t o i H Q →
    wpAny (model X.prog X.w) X.A (getItem ov iv) (EP X pins σ Q) X.xe s
theorem ps_augS {o i e : Expr} {to ti te : TE} {tget : V → V → Hp → VK → Prop} {tip : TIp} {tset : TSet} {op : Operator} {tpos : Pos} (ho : PE X o to) (hi : PE X i ti) (hg : PGet X tget) (he : PE X e te) (hp : PIp X op tip) (hs : PSet X tset)
    (ha : ∀ ov iv new, augStore i ov iv new = (do holding [new, ov, iv] (setItem ov iv new); release [new, ov, iv] []; pure .next) := by intros; rfl) : PS X (.AugAssign (.Subscript o i tpos) op e pos) (tAugS to ti te tget tip tset) := by
  intro pins s σ H D I h
  refine wpAny_AugAssign_SubscriptAny (thn (ho pins s σ H _ I h) fun ov s1 ⟨x1, H1, I1, r1, q1⟩ => ?_) ha
  refine thn (hi pins s1 σ H1 _ I1 q1) fun iv s2 ⟨x2, H2, I2, r2, q2⟩ => ?_
  refine thn (hg pins s2 σ H2 x1 x2 ov iv _ I2 r1 r2 q2) fun old s3 ⟨x3, H3, I3, r3, q3⟩ => ?_
  refine thn (he pins s3 σ H3 _ I3 q3) fun v s4 ⟨x4, H4, I4, r4, q4⟩ => ?_
  refine thn (hp pins s4 σ H4 x3 x4 old v _ I4 r3 r4 q4) fun new s5 ⟨x5, H5, I5, r5, q5⟩ => ?_
  exact thn (hs pins s5 σ H5 x1 x2 x5 ov iv new _ I5 r1 r2 r5 q5) fun _ s6 ⟨H6, I6, q6⟩ => ⟨σ, H6, I6, q6⟩
/-- ints -/
def ipI (f : Int → Int → Int) : TIp := fun x y H Q => ∃ i j, x = .int i ∧ y = .int j ∧ Q (.int (f i j)) H
theorem ip_add : PIp X .Add (ipI fun i j => i + j) := by
  intro pins s σ H x y v u Q I r1 r2 h
  obtain ⟨i, j, e1, e2, q⟩ := h
  subst e1; subst e2
  obtain ⟨t, rfl⟩ := r1
  obtain ⟨t', rfl⟩ := r2
  exact iadd_int ⟨.int _, H, I.tok _, ⟨_, rfl⟩, q⟩
theorem ip_sub : PIp X .Sub (ipI fun i j => i - j) := by
  intro pins s σ H x y v u Q I r1 r2 h
  obtain ⟨i, j, e1, e2, q⟩ := h
  subst e1; subst e2
  obtain ⟨t, rfl⟩ := r1
  obtain ⟨t', rfl⟩ := r2
  exact isub_int ⟨.int _, H, I.tok _, ⟨_, rfl⟩, q⟩
end

/-! ### while -/
section
variable {X : Cx} {pos : Pos}
/-- the invariant W with its measure -/
def tWhile (c : TT) (tb : TS) : TS := fun D σ H => ∃ W : Nat → St → Hp → Prop, (∃ m, W m σ H) ∧ ∀ m σ H, W m σ H →
  c σ H fun b H1 => if b = true then ∃ N : St → Hp → Prop, (∀ σ' H', N σ' H' → ∃ m', m' < m ∧ W m' σ' H') ∧ tb { D with nx := N, ct := N, bk := D.nx } σ H1 else D.nx σ H1
theorem ps_while {c : Expr} {body : List Stmt} {tc : TT} {tb : TS} (hp : PassesOwn (model X.prog X.w) X.A X.env X.xe) (hc : PT X c tc) (hb : PSs X body tb) : PS X (.While c body [] pos) (tWhile tc tb) := by
  intro pins s σ H D I h
  obtain ⟨W, ⟨m0, w0⟩, turn⟩ := h
  refine wpAny_While (codeAny_whileLoop (fun n s' => ∃ σ' H', Inv X pins σ' H' s' ∧ W n σ' H') ?_ m0 ⟨σ, H, I, w0⟩)
  rintro n s1 ⟨σ1, H1, I1, w1⟩
  refine wpAny_passesOwn hp (thn (hc pins s1 σ1 H1 _ I1 (turn n σ1 H1 w1)) fun b s2 ⟨H2, I2, q2⟩ => ?_)
  cases b with
  | true =>
    obtain ⟨N, hN, q2⟩ := q2
    rw [if_pos rfl]
    refine wpAny_passesOwn hp (thn (hb pins s2 σ1 H2 _ I2 q2) fun f s3 q3 => ?_)
    cases f with
    | next =>
      obtain ⟨σ3, H3, I3, n3⟩ := q3
      obtain ⟨m', hm, w3⟩ := hN σ3 H3 n3
      exact ⟨m', hm, σ3, H3, I3, w3⟩
    | cont =>
      obtain ⟨σ3, H3, I3, n3⟩ := q3
      obtain ⟨m', hm, w3⟩ := hN σ3 H3 n3
      exact ⟨m', hm, σ3, H3, I3, w3⟩
    | brk => exact q3
    | ret v => exact q3
  | false =>
    rw [if_neg Bool.false_ne_true]
    exact wpAny_execs_nil ⟨σ1, H2, I2, q2⟩
end

/-! ### what a loop or a comprehension walks -/
/-- at turn i: it yields x (the heap may grow), or it stops -/
structure It where
  go : Nat → Hp → Prop
  yld : Nat → Hp → V → Hp → Prop
  stop : Nat → Hp → Prop
/-- the iterator's own objects may turn: they are not the frame's, not pinned, younger than the entry (or a comprehension's own) -/
def FpOk (X : Cx) (pins : List (Addr × Obj)) (H : Hp) (b : Addr) : Prop :=
  H b = none ∧ b ≠ X.env.locals ∧ b ∉ X.fs ∧ (b ∈ X.ex ∨ X.s₀.heap.objs.size ≤ b) ∧ (∀ x c, X.env.cells.lookup x = some c → c ≠ b) ∧ ∀ p ∈ X.pn ++ pins, p.1 ≠ b
theorem Inv.fpOk {X : Cx} {pins : List (Addr × Obj)} {σ : St} {H H' : Hp} {s : Shared} {b : Addr} (I : Inv X pins σ H s) (hb : s.heap.objs.size ≤ b) (hn : H' b = none) : FpOk X pins H' b := by
  refine ⟨hn, Nat.ne_of_gt (Nat.lt_of_lt_of_le I.lt hb), I.nofs hb, .inr (Nat.le_trans I.sz hb), fun x c e z => ?_, fun p hp z => ?_⟩
  · obtain ⟨v, q⟩ := I.cell x c e
    exact absurd (Nat.lt_of_lt_of_le q.lt (by rw [z]; exact hb)) (Nat.lt_irrefl _)
  · exact absurd (Nat.lt_of_lt_of_le (Heap.lt_size (I.pin p hp).1) (by rw [z]; exact hb)) (Nat.lt_irrefl _)
structure Turn (P : Program) (w : World) (K : PySem.W.Frag) (tg : Expr) (J : It) (fp : List Addr) (it : Addr) (tn : Nat → Heap → Prop) : Prop where
  mem : it ∈ fp
  obj : ∀ i h, tn i h → ∀ b ∈ fp, ∃ o, h.get? b = some o ∧ ∀ v, o.data ≠ .cell v
  keep : ∀ i h h', tn i h → (∀ b ∈ fp, ∀ o, h.get? b = some o → h'.get? b = some o) → tn i h'
  item : ∀ (X : Cx), X.prog = P → X.w = w → X.K = K → X.calm = true → ∀ (i : Nat) (pins : List (Addr × Obj)) (s : Shared) (σ : St) (H : Hp) (E : Value → Shared → Prop), Inv X pins σ H s → (∀ b ∈ fp, FpOk X pins H b) → tn i s.heap → J.go i H →
    wpAny (model P w) X.A (pyNext (.ref it)) (fun r s1 => ∃ u, r = some u ∧
      wpAny (model P w) X.A (letOwnedTupleGo tg (.ref it) u) (fun _ s2 => ∃ x H', Inv X pins σ H' s2 ∧ RelV x u ∧ J.yld i H x H' ∧ tn (i + 1) s2.heap ∧ ∀ b ∈ fp, H' b = none) E s1) E s
  done : ∀ (X : Cx), X.prog = P → X.w = w → X.K = K → X.calm = true → ∀ (i : Nat) (pins : List (Addr × Obj)) (s : Shared) (σ : St) (H : Hp) (E : Value → Shared → Prop), Inv X pins σ H s → (∀ b ∈ fp, FpOk X pins H b) → tn i s.heap → J.stop i H →
    wpAny (model P w) X.A (pyNext (.ref it)) (fun r s1 => r = none ∧ Inv X pins σ H s1) E s
  self : ∀ (A : Around) (i : Nat) (s : Shared) (Q : Value → Shared → Prop) (E : Value → Shared → Prop), tn i s.heap → Q (.ref it) s → wpAny (model P w) A (pyIter (.ref it)) Q E s
abbrev TI := St → Hp → (It → Hp → Prop) → Prop
/-- an iterator has come -/
def PIE (X : Cx) (pins : List (Addr × Obj)) (σ : St) (tg : Expr) (R : It → Hp → Prop) (itv : Value) (s2 : Shared) : Prop :=
  ∃ (it : Addr) (fp : List Addr) (tn : Nat → Heap → Prop) (J : It) (H' : Hp), itv = .ref it ∧ Inv X pins σ H' s2 ∧ Turn X.prog X.w X.K tg J fp it tn ∧ tn 0 s2.heap ∧ (∀ b ∈ fp, FpOk X pins H' b) ∧ R J H'
def PI (X : Cx) (tg iter : Expr) (wi : TI) : Prop :=
  ∀ (pins : List (Addr × Obj)) (s : Shared) (σ : St) (H : Hp) (R : It → Hp → Prop), Inv X pins σ H s → wi σ H R →
    wpAny (model X.prog X.w) X.A (eval iter X.env) (fun v s1 => wpAny (model X.prog X.w) X.A (pyIter v) (PIE X pins σ tg R) X.xe s1) X.xe s

/-- the step ahead of the store is nothing for an iterator that keeps no tuple -/
theorem go_of {M : Model} {A : Around} {E : Value → Shared → Prop} {s : Shared} {tg : Expr} {it : Addr} {u : Value} {o : Obj} {n : String} {vs : Array Value} {Q : Unit → Shared → Prop} (ho : s.heap.get? it = some o) (hc : o.cls = .type n) (hd : o.data = .fields vs)
    (hn : ["enumerate", "zip", "dict_itemiterator", "dict_reverseitemiterator", "odict_iterator", "itertools.zip_longest", "itertools.pairwise"].contains n = false) (hQ : Q () s) : wpAny M A (letOwnedTupleGo tg (.ref it) u) Q E s := by
  unfold letOwnedTupleGo
  cases tg <;> first
    | exact wpAny_pure hQ
    | (cases u <;> first
        | exact wpAny_pure hQ
        | (refine wpAny_bind (wpAny_load ho ?_)
           rw [hc, hd]
           show wpAny M A (if (["enumerate", "zip", "dict_itemiterator", "dict_reverseitemiterator", "odict_iterator", "itertools.zip_longest", "itertools.pairwise"].contains n && vs[0]? == some (rawInt _)) = true then _ else _) Q E s
           rw [if_neg (by intro h; rw [hn, Bool.false_and] at h; cases h)]
           exact wpAny_pure hQ))

/-- the list at a, as it stands at each turn (a loop may append to it) -/
def Itl (K : PySem.W.Frag) (a : Addr) : It :=
  ⟨fun i H => ∃ xs x, SqL K H a xs ∧ xs[i]? = some x, fun i H x H' => H' = H ∧ ∀ xs, SqL K H a xs → xs[i]? = some x, fun i H => ∃ xs, SqL K H a xs ∧ xs.length ≤ i⟩
def Itt (K : PySem.W.Frag) (a : Addr) : It :=
  ⟨fun i H => ∃ xs x, SqT K H a xs ∧ xs[i]? = some x, fun i H x H' => H' = H ∧ ∀ xs, SqT K H a xs → xs[i]? = some x, fun i H => ∃ xs, SqT K H a xs ∧ xs.length ≤ i⟩
/-- lo, lo + 1, .. (n of them) -/
def Itr (lo : Int) (n : Nat) : It := ⟨fun i _ => i < n, fun i H x H' => H' = H ∧ x = .int (lo + i), fun i _ => n ≤ i⟩
theorem turn_list {P : Program} {w : World} {K : PySem.W.Frag} {tg : Expr} (a it : Addr) : Turn P w K tg (Itl K a) [it] it (fun i h => h.IsListIter it a i) where
  mem := by simp
  obj := fun i h st b hb => by
    have e : b = it := by simpa using hb
    subst e
    obtain ⟨o, e, c, d⟩ := st
    exact ⟨o, e, fun v z => by rw [d] at z; cases z⟩
  keep := fun i h h' st k => st.at fun o e => k it (by simp) o e
  item := by
    intro X hP hw hK hc i pins s σ H E I hf st hg
    subst hP hw hK
    obtain ⟨xs, x, hq, hx⟩ := hg
    obtain ⟨its, rv, p, hz⟩ := I.list hq
    obtain ⟨u, hu, ru⟩ := rv.get hx
    obtain ⟨f0, f1, f2, f3, f4, f5⟩ := hf it (by simp)
    refine wpAny_pyNext_list_item st p.isList (x := u) (by simpa using hu) fun h' st' sb => ?_
    have I1 : Inv X pins σ H { s with heap := h' } := I.turned (t' := s.toks) (fun b o hb e => (sb.2 b hb).trans e) f0 f1 f3 f4 f5
    obtain ⟨o, e, c, d⟩ := id st'
    exact ⟨u, rfl, go_of (s := { s with heap := h' }) e c d (by decide) ⟨x, H, I1, ru, ⟨rfl, fun ys hy => by rw [I.list_inj hy hq]; exact hx⟩, st', fun b hb => (hf b hb).1⟩⟩
  done := by
    intro X hP hw hK hc i pins s σ H E I hf st hg
    subst hP hw hK
    obtain ⟨xs, hq, hx⟩ := hg
    obtain ⟨its, rv, p, hz⟩ := I.list hq
    obtain ⟨f0, f1, f2, f3, f4, f5⟩ := hf it (by simp)
    have hl := rv.length
    exact wpAny_pyNext_list_end (I.ok.hd hc) st p.isList (by simp; omega) fun h' eb => ⟨rfl, I.turned (t' := s.toks) (fun b o hb e => eb b o hb e) f0 f1 f3 f4 f5⟩
  self := fun _ _ _ _ _ st h => wpAny_pyIter_listiter st h
theorem turn_tuple {P : Program} {w : World} {K : PySem.W.Frag} {tg : Expr} (a it : Addr) : Turn P w K tg (Itt K a) [it] it (fun i h => h.IsTupleIter it a i) where
  mem := by simp
  obj := fun i h st b hb => by
    have e : b = it := by simpa using hb
    subst e
    obtain ⟨o, e, c, d⟩ := st
    exact ⟨o, e, fun v z => by rw [d] at z; cases z⟩
  keep := fun i h h' st k => st.at fun o e => k it (by simp) o e
  item := by
    intro X hP hw hK hc i pins s σ H E I hf st hg
    subst hP hw hK
    obtain ⟨xs, x, hq, hx⟩ := hg
    obtain ⟨its, rv, p, hz⟩ := I.tuple hq
    obtain ⟨u, hu, ru⟩ := rv.get hx
    obtain ⟨f0, f1, f2, f3, f4, f5⟩ := hf it (by simp)
    refine wpAny_pyNext_tuple_item st (show s.heap.IsTuple a its.toArray from p) (x := u) (by simpa using hu) fun h' st' sb => ?_
    have I1 : Inv X pins σ H { s with heap := h' } := I.turned (t' := s.toks) (fun b o hb e => (sb.2 b hb).trans e) f0 f1 f3 f4 f5
    obtain ⟨o, e, c, d⟩ := id st'
    exact ⟨u, rfl, go_of (s := { s with heap := h' }) e c d (by decide) ⟨x, H, I1, ru, ⟨rfl, fun ys hy => by rw [I.tuple_inj hy hq]; exact hx⟩, st', fun b hb => (hf b hb).1⟩⟩
  done := by
    intro X hP hw hK hc i pins s σ H E I hf st hg
    subst hP hw hK
    obtain ⟨xs, hq, hx⟩ := hg
    obtain ⟨its, rv, p, hz⟩ := I.tuple hq
    obtain ⟨f0, f1, f2, f3, f4, f5⟩ := hf it (by simp)
    have hl := rv.length
    exact wpAny_pyNext_tuple_end (I.ok.hd hc) st (show s.heap.IsTuple a its.toArray from p) (by simp; omega) fun h' eb => ⟨rfl, I.turned (t' := s.toks) (fun b o hb e => eb b o hb e) f0 f1 f3 f4 f5⟩
  self := fun _ _ _ _ _ st h => wpAny_pyIter_tupleiter st h
theorem turn_range {P : Program} {w : World} {K : PySem.W.Frag} {tg : Expr} (it : Addr) (lo : Int) (n : Nat) : Turn P w K tg (Itr lo n) [it] it (fun i h => IsRangeIter h it (lo + (i : Nat) * 1) ((n : Int) - (i : Nat)) 1) where
  mem := by simp
  obj := fun i h st b hb => by
    have e : b = it := by simpa using hb
    subst e
    exact ⟨_, st, fun v z => by
      have z' : Data.fields _ = Data.cell v := z
      cases z'⟩
  keep := fun i h h' st k => k it (by simp) _ st
  item := by
    intro X hP hw hK hc i pins s σ H E I hf st hg
    subst hP hw hK
    obtain ⟨f0, f1, f2, f3, f4, f5⟩ := hf it (by simp)
    have W := Walks.range (prog := X.prog) (w := X.w) (I.ok.hd hc) it lo 1 n
    refine W.item i s _ _ hg st fun v h' tk hv st' kk => ?_
    obtain ⟨t, rfl⟩ := hv
    have I1 : Inv X pins σ H { s with heap := h', toks := tk } := I.turned (fun b o hb e => kk b o (by simpa using hb) e) f0 f1 f3 f4 f5
    refine ⟨_, rfl, go_of (s := { s with heap := h', toks := tk }) (n := "range_iterator") st' rfl rfl (by decide) ⟨.int (lo + i), H, I1, ⟨t, ?_⟩, ⟨rfl, rfl⟩, st', fun b hb => (hf b hb).1⟩⟩
    rw [Int.mul_one]
  done := by
    intro X hP hw hK hc i pins s σ H E I hf st hg
    subst hP hw hK
    obtain ⟨f0, f1, f2, f3, f4, f5⟩ := hf it (by simp)
    exact wpAny_pyNext_range_end (I.ok.hd hc) st (by have : n ≤ i := hg; omega) fun h' eb => ⟨rfl, I.turned (t' := s.toks) (fun b o hb e => eb b o hb e) f0 f1 f3 f4 f5⟩
  self := fun _ _ _ _ _ st h => wpAny_pyIter_rangeiter st h
end L2

namespace L2
open PySem PySem.Spec PyProof.Rows
section
variable {X : Cx} {tg : Expr}
def iList (K : PySem.W.Frag) (tl : TE) : TI := fun σ H R => tl σ H fun x H1 => ∃ a, x = .ref a ∧ (∃ xs, SqL K H1 a xs) ∧ R (Itl K a) H1
def iTup (K : PySem.W.Frag) (tl : TE) : TI := fun σ H R => tl σ H fun x H1 => ∃ a, x = .ref a ∧ (∃ xs, SqT K H1 a xs) ∧ R (Itt K a) H1
theorem pi_list {l : Expr} {tl : TE} (hl : PE X l tl) : PI X tg l (iList X.K tl) := by
  intro pins s σ H R I h
  refine thn (hl pins s σ H _ I h) fun v s1 ⟨x, H1, I1, r1, q1⟩ => ?_
  obtain ⟨a, e, ⟨xs, hq⟩, q⟩ := q1
  subst e
  cases r1
  obtain ⟨its, rv, p, hz⟩ := I1.list hq
  refine wpAny_pyIter_list p.isList ?_
  refine ⟨s1.heap.objs.size, [s1.heap.objs.size], _, _, H1, rfl, I1.kept (t' := s1.toks) fun b o e => Heap.get?_push_of_some _ e, turn_list a _, ⟨_, Heap.get?_push_size _ rfl, rfl, rfl⟩, fun b hb => ?_, q⟩
  have e : b = s1.heap.objs.size := by simpa using hb
  subst e
  exact I1.fpOk (Nat.le_refl _) (I1.hok.fresh (Nat.le_refl _))
theorem pi_tup {l : Expr} {tl : TE} (hl : PE X l tl) : PI X tg l (iTup X.K tl) := by
  intro pins s σ H R I h
  refine thn (hl pins s σ H _ I h) fun v s1 ⟨x, H1, I1, r1, q1⟩ => ?_
  obtain ⟨a, e, ⟨xs, hq⟩, q⟩ := q1
  subst e
  cases r1
  obtain ⟨its, rv, p, hz⟩ := I1.tuple hq
  refine wpAny_pyIter_tuple (show s1.heap.IsTuple a its.toArray from p) ?_
  refine ⟨s1.heap.objs.size, [s1.heap.objs.size], _, _, H1, rfl, I1.kept (t' := s1.toks) fun b o e => Heap.get?_push_of_some _ e, turn_tuple a _, ⟨_, Heap.get?_push_size _ rfl, rfl, rfl⟩, fun b hb => ?_, q⟩
  have e : b = s1.heap.objs.size := by simpa using hb
  subst e
  exact I1.fpOk (Nat.le_refl _) (I1.hok.fresh (Nat.le_refl _))
/-- a range object just made, walked -/
theorem range_it {pins : List (Addr × Obj)} {σ : St} {H : Hp} {s : Shared} {R : It → Hp → Prop} {E : Value → Shared → Prop} {lo hi : Int} {t u v : Tok} {tk : Nat} (I : Inv X pins σ H s) (h1 : -(2 ^ 62) ≤ lo) (h2 : lo < 2 ^ 62) (h3 : -(2 ^ 62) ≤ hi) (h4 : hi < 2 ^ 62)
    (q : R (Itr lo (hi - lo).toNat) H) : wpAny (model X.prog X.w) X.A (pyIter (.ref s.heap.objs.size)) (PIE X pins σ tg R) E { s with heap := s.heap.push { cls := .type "range", data := .fields #[.int lo t, .int hi u, .int 1 v] }, toks := tk } := by
  refine wpAny_pyIter_range (IsRange.new ..) (small_one h1 h2 h3 h4) ?_
  have I1 : Inv X pins σ H { s with heap := s.heap.push { cls := .type "range", data := .fields #[.int lo t, .int hi u, .int 1 v] }, toks := tk } := I.kept fun b o e => Heap.get?_push_of_some _ e
  refine ⟨(s.heap.push { cls := .type "range", data := .fields #[.int lo t, .int hi u, .int 1 v] }).objs.size, [(s.heap.push { cls := .type "range", data := .fields #[.int lo t, .int hi u, .int 1 v] }).objs.size], _, _, H, rfl,
    I1.kept (t' := tk) fun b o e => Heap.get?_push_of_some _ e, turn_range _ lo (hi - lo).toNat, ?_, fun b hb => ?_, q⟩
  · have e1 : lo + ((0 : Nat) : Int) * 1 = lo := by simp
    have e2 : (((hi - lo).toNat : Nat) : Int) - ((0 : Nat) : Int) = Builtin.Range.rangeSize lo hi 1 := by rw [rangeSize_one]; split <;> omega
    show IsRangeIter _ _ (lo + ((0 : Nat) : Int) * 1) ((((hi - lo).toNat : Nat) : Int) - ((0 : Nat) : Int)) 1
    rw [e1, e2]
    exact Heap.get?_push_size _ rfl
  · have e : b = (s.heap.push { cls := .type "range", data := .fields #[.int lo t, .int hi u, .int 1 v] }).objs.size := by simpa using hb
    subst e
    exact I1.fpOk (Nat.le_refl _) (I1.hok.fresh (Nat.le_refl _))
def iRng1 (ta : TA) : TI := fun σ H R => ta σ H fun vs H1 => ∃ j : Int, vs = [.int j] ∧ -(2 ^ 62) ≤ j ∧ j < 2 ^ 62 ∧ R (Itr 0 j.toNat) H1
def iRng2 (ta : TA) : TI := fun σ H R => ta σ H fun vs H1 => ∃ i j : Int, vs = [.int i, .int j] ∧ (-(2 ^ 62) ≤ i ∧ i < 2 ^ 62 ∧ -(2 ^ 62) ≤ j ∧ j < 2 ^ 62) ∧ R (Itr i (j - i).toNat) H1
theorem pi_range1 {a : Expr} {ta : TA} {p pos : Pos} (hg : Gl X "range") (hm : X.mg "range" = none) (ha : PA X [a] ta) (hs : starEach [a] X.env = [(false, eval a X.env)] := by rfl) : PI X tg (.Call (.Name "range" p) [a] [] pos) (iRng1 ta) := by
  intro pins s σ H R I h
  refine Call_ (ld_blt I hg hm boot_range (PyProof.Rows.callWith_type1 (thn (ha pos pins s σ H _ I h) fun us s1 ⟨vs, H1, I1, r1, q1⟩ => ?_) hs rfl))
  obtain ⟨j, e, q1, q2, q⟩ := q1
  subst e
  cases r1 with
  | cons r rr =>
    cases rr
    obtain ⟨t, rfl⟩ := r
    exact call_range_1 (range_it I1 (by omega) (by omega) q1 q2 (by simpa using q))
theorem pi_range2 {a b : Expr} {ta : TA} {p pos : Pos} (hg : Gl X "range") (hm : X.mg "range" = none) (ha : PA X [a, b] ta) (hs : starEach [a, b] X.env = [(false, eval a X.env), (false, eval b X.env)] := by rfl) (hs2 : starEach [b] X.env = [(false, eval b X.env)] := by rfl) :
    PI X tg (.Call (.Name "range" p) [a, b] [] pos) (iRng2 ta) := by
  intro pins s σ H R I h
  refine Call_ (ld_blt I hg hm boot_range (PyProof.Rows.callWith_type1 (thn (ha pos pins s σ H _ I h) fun us s1 ⟨vs, H1, I1, r1, q1⟩ => ?_) (by rw [hs, hs2]) (by rw [hs2]; rfl)))
  obtain ⟨i, j, e, ⟨q1, q2, q3, q4⟩, q⟩ := q1
  subst e
  cases r1 with
  | cons r rr =>
    cases rr with
    | cons r' rr =>
      cases rr
      obtain ⟨t, rfl⟩ := r
      obtain ⟨t', rfl⟩ := r'
      exact call_range_2 (range_it I1 q1 q2 q3 q4 q)

/-! ### for -/
/-- W: the invariant by the turn and a measure; N: what the body is to reach -/
def tFor (wi : TI) (g : TG) (tb : TS) : TS := fun D σ H => wi σ H fun J H1 => ∃ W : Nat → Nat → St → Hp → Prop, (∃ m, W 0 m σ H1) ∧ ∀ i m σ H, W i m σ H →
  (J.stop i H ∧ D.nx σ H) ∨ (J.go i H ∧ ∃ N : St → Hp → Prop, (∀ σ' H', N σ' H' → ∃ m', m' < m ∧ W (i + 1) m' σ' H') ∧ ∀ x H', J.yld i H x H' → g x σ H' fun σ2 H2 => tb { D with nx := N, ct := N, bk := D.nx } σ2 H2)
/-- the records at fp as they stand -/
def pinsAt (fp : List Addr) (h : Heap) : List (Addr × Obj) := fp.filterMap fun b => (h.get? b).map fun o => (b, o)
theorem mem_pinsAt {fp : List Addr} {h : Heap} {b : Addr} {o : Obj} (hb : b ∈ fp) (e : h.get? b = some o) : (b, o) ∈ pinsAt fp h := List.mem_filterMap.mpr ⟨b, hb, by rw [e]; rfl⟩
theorem of_pinsAt {fp : List Addr} {h : Heap} {p : Addr × Obj} (hp : p ∈ pinsAt fp h) : p.1 ∈ fp ∧ h.get? p.1 = some p.2 := by
  obtain ⟨b, hb, e⟩ := List.mem_filterMap.mp hp
  cases q : h.get? b with
  | none => rw [q] at e; cases e
  | some o =>
    rw [q] at e
    have e' : (b, o) = p := Option.some.inj e
    subst e'
    exact ⟨hb, q⟩
theorem Inv.pinned {pins : List (Addr × Obj)} {σ : St} {H : Hp} {s : Shared} {fp : List Addr} (I : Inv X pins σ H s) (hf : ∀ b ∈ fp, FpOk X pins H b) (ho : ∀ b ∈ fp, ∃ o, s.heap.get? b = some o ∧ ∀ v, o.data ≠ .cell v) : Inv X (pins ++ pinsAt fp s.heap) σ H s :=
  I.pins_of fun p hp => (List.mem_append.mp hp).elim (fun z => I.pin p (List.mem_append_right _ z)) fun z => by
    obtain ⟨hb, e⟩ := of_pinsAt z
    obtain ⟨f0, f1, f2, _⟩ := hf p.1 hb
    obtain ⟨o, e', d⟩ := ho p.1 hb
    rw [e] at e'; cases e'
    exact ⟨e, f0, f1, f2, d⟩
theorem Inv.unpinned {pins pl : List (Addr × Obj)} {σ : St} {H : Hp} {s : Shared} (I : Inv X (pins ++ pl) σ H s) : Inv X pins σ H s := I.pins_of fun p hp => I.pin p (List.mem_append_right _ (List.mem_append_left _ hp))
theorem ps_for {iter : Expr} {body : List Stmt} {wi : TI} {g : TG} {tb : TS} {pos : Pos} (hp : PassesOwn (model X.prog X.w) X.A X.env X.xe) (hc : X.calm = true) (hi : PI X tg iter wi) (hg : PG X tg g) (hb : PSs X body tb)
    (hs : ∀ x, foldedSetIterable iter X.env x = pure x := by intro _; rfl) : PS X (.For tg iter body [] pos) (tFor wi g tb) := by
  intro pins s σ H D I h
  refine wpAny_For (thn (hi pins s σ H _ I h) fun v s1 h1 => thn h1 fun itv s2 h2 => ?_) hs
  obtain ⟨it, fp, tn, J, H2, e, I2, T, st2, f2, W, ⟨m0, w0⟩, turn⟩ := h2
  subst e
  -- what stays true of the iterator's objects through the loop
  have stat : ∀ {H' : Hp}, (∀ b ∈ fp, H' b = none) → ∀ b ∈ fp, FpOk X pins H' b := fun hn b hb => ⟨hn b hb, (f2 b hb).2⟩
  refine codeAny_forLoop_any (fun n s' => ∃ i σ' H', Inv X pins σ' H' s' ∧ tn i s'.heap ∧ (∀ b ∈ fp, H' b = none) ∧ W i n σ' H') ?_ m0 ⟨0, σ, H2, I2, st2, fun b hb => (f2 b hb).1, w0⟩
  rintro n s3 ⟨i, σ3, H3, I3, st3, fr3, w3⟩
  rcases turn i n σ3 H3 w3 with ⟨stop, qn⟩ | ⟨go, N, hN, step⟩
  · refine wpAny_passesOwn hp (thn (T.done X rfl rfl rfl hc i pins s3 σ3 H3 X.xe I3 (stat fr3) st3 stop) fun r s4 ⟨hr, I4⟩ => ?_)
    subst hr
    exact wpAny_execs_nil ⟨σ3, H3, I4, qn⟩
  · refine wpAny_passesOwn hp (thn (T.item X rfl rfl rfl hc i pins s3 σ3 H3 X.xe I3 (stat fr3) st3 go) fun r s4 ⟨u, hr, h4⟩ => ?_)
    subst hr
    refine wpAny_passesOwn hp (thn h4 fun _ s5 ⟨x, H5, I5, r5, y5, st5, fr5⟩ => ?_)
    have I5' := I5.pinned (stat fr5) (T.obj _ _ st5)
    refine wpAny_passesOwn hp (thn (hg _ s5 σ3 H5 x u _ I5' r5 (step x H5 y5)) fun _ s6 ⟨σ6, H6, I6, q6⟩ => ?_)
    refine wpAny_passesOwn hp (thn (hb _ s6 σ6 H6 _ I6 q6) fun f s7 q7 => ?_)
    have again : ∀ {σ7 : St} {H7 : Hp}, Inv X (pins ++ pinsAt fp s5.heap) σ7 H7 s7 → N σ7 H7 → ∃ m, m < n ∧ ∃ i σ' H', Inv X pins σ' H' s7 ∧ tn i s7.heap ∧ (∀ b ∈ fp, H' b = none) ∧ W i m σ' H' := fun {σ7 H7} I7 n7 => by
      obtain ⟨m', hm, w7⟩ := hN σ7 H7 n7
      refine ⟨m', hm, i + 1, σ7, H7, I7.unpinned, T.keep _ _ _ st5 fun b hb o e => (I7.pin (b, o) (List.mem_append_right _ (List.mem_append_right _ (mem_pinsAt hb e)))).1, fun b hb => ?_, w7⟩
      obtain ⟨o, e, d⟩ := T.obj _ _ st5 b hb
      exact (I7.pin (b, o) (List.mem_append_right _ (List.mem_append_right _ (mem_pinsAt hb e)))).2.1
    cases f with
    | next => obtain ⟨σ7, H7, I7, n7⟩ := q7; exact again I7 n7
    | cont => obtain ⟨σ7, H7, I7, n7⟩ := q7; exact again I7 n7
    | brk => obtain ⟨σ7, H7, I7, q7⟩ := q7; exact ⟨σ7, H7, I7.unpinned, q7⟩
    | ret v => obtain ⟨x7, σ7, H7, I7, r7, q7⟩ := q7; exact ⟨x7, σ7, H7, I7.unpinned, r7, q7⟩
end

/-! ### the forms one uses -/
/-- over a list that the body leaves as it is -/
theorem for_list {K : PySem.W.Frag} {a : Addr} {xs : List V} {g : TG} {tb : TS} {D : Ends} {σ : St} {H : Hp} (Pv : Nat → St → Hp → Prop) (h0 : Pv 0 σ H) (hl : ∀ i σ H, i ≤ xs.length → Pv i σ H → SqL K H a xs)
    (hs : ∀ i x σ H, xs[i]? = some x → Pv i σ H → g x σ H fun σ2 H2 => tb { D with nx := Pv (i + 1), ct := Pv (i + 1), bk := D.nx } σ2 H2) (hd : ∀ σ H, Pv xs.length σ H → D.nx σ H) :
    ∃ W : Nat → Nat → St → Hp → Prop, (∃ m, W 0 m σ H) ∧ ∀ i m σ H, W i m σ H →
      ((Itl K a).stop i H ∧ D.nx σ H) ∨ ((Itl K a).go i H ∧ ∃ N : St → Hp → Prop, (∀ σ' H', N σ' H' → ∃ m', m' < m ∧ W (i + 1) m' σ' H') ∧ ∀ x H', (Itl K a).yld i H x H' → g x σ H' fun σ2 H2 => tb { D with nx := N, ct := N, bk := D.nx } σ2 H2) := by
  refine ⟨fun i m σ H => m = xs.length - i ∧ i ≤ xs.length ∧ Pv i σ H, ⟨xs.length, by simp, Nat.zero_le _, h0⟩, ?_⟩
  rintro i m σ H ⟨rfl, hi, p⟩
  have q := hl i σ H hi p
  by_cases hlt : i < xs.length
  · refine .inr ⟨⟨xs, xs[i], q, by simp [hlt]⟩, Pv (i + 1), fun σ' H' p' => ⟨xs.length - (i + 1), by omega, rfl, hlt, p'⟩, fun x H' y => ?_⟩
    obtain ⟨e, y⟩ := y
    subst e
    exact hs i x σ _ (y xs q) p
  · have e : i = xs.length := by omega
    subst e
    exact .inl ⟨⟨xs, q, Nat.le_refl _⟩, hd σ H p⟩
theorem for_tup {K : PySem.W.Frag} {a : Addr} {xs : List V} {g : TG} {tb : TS} {D : Ends} {σ : St} {H : Hp} (Pv : Nat → St → Hp → Prop) (h0 : Pv 0 σ H) (hl : ∀ i σ H, i ≤ xs.length → Pv i σ H → SqT K H a xs)
    (hs : ∀ i x σ H, xs[i]? = some x → Pv i σ H → g x σ H fun σ2 H2 => tb { D with nx := Pv (i + 1), ct := Pv (i + 1), bk := D.nx } σ2 H2) (hd : ∀ σ H, Pv xs.length σ H → D.nx σ H) :
    ∃ W : Nat → Nat → St → Hp → Prop, (∃ m, W 0 m σ H) ∧ ∀ i m σ H, W i m σ H →
      ((Itt K a).stop i H ∧ D.nx σ H) ∨ ((Itt K a).go i H ∧ ∃ N : St → Hp → Prop, (∀ σ' H', N σ' H' → ∃ m', m' < m ∧ W (i + 1) m' σ' H') ∧ ∀ x H', (Itt K a).yld i H x H' → g x σ H' fun σ2 H2 => tb { D with nx := N, ct := N, bk := D.nx } σ2 H2) := by
  refine ⟨fun i m σ H => m = xs.length - i ∧ i ≤ xs.length ∧ Pv i σ H, ⟨xs.length, by simp, Nat.zero_le _, h0⟩, ?_⟩
  rintro i m σ H ⟨rfl, hi, p⟩
  have q := hl i σ H hi p
  by_cases hlt : i < xs.length
  · refine .inr ⟨⟨xs, xs[i], q, by simp [hlt]⟩, Pv (i + 1), fun σ' H' p' => ⟨xs.length - (i + 1), by omega, rfl, hlt, p'⟩, fun x H' y => ?_⟩
    obtain ⟨e, y⟩ := y
    subst e
    exact hs i x σ _ (y xs q) p
  · have e : i = xs.length := by omega
    subst e
    exact .inl ⟨⟨xs, q, Nat.le_refl _⟩, hd σ H p⟩
theorem for_range {lo : Int} {n : Nat} {g : TG} {tb : TS} {D : Ends} {σ : St} {H : Hp} (Pv : Nat → St → Hp → Prop) (h0 : Pv 0 σ H)
    (hs : ∀ i σ H, i < n → Pv i σ H → g (.int (lo + i)) σ H fun σ2 H2 => tb { D with nx := Pv (i + 1), ct := Pv (i + 1), bk := D.nx } σ2 H2) (hd : ∀ σ H, Pv n σ H → D.nx σ H) :
    ∃ W : Nat → Nat → St → Hp → Prop, (∃ m, W 0 m σ H) ∧ ∀ i m σ H, W i m σ H →
      ((Itr lo n).stop i H ∧ D.nx σ H) ∨ ((Itr lo n).go i H ∧ ∃ N : St → Hp → Prop, (∀ σ' H', N σ' H' → ∃ m', m' < m ∧ W (i + 1) m' σ' H') ∧ ∀ x H', (Itr lo n).yld i H x H' → g x σ H' fun σ2 H2 => tb { D with nx := N, ct := N, bk := D.nx } σ2 H2) := by
  refine ⟨fun i m σ H => m = n - i ∧ i ≤ n ∧ Pv i σ H, ⟨n, by simp, Nat.zero_le _, h0⟩, ?_⟩
  rintro i m σ H ⟨rfl, hi, p⟩
  by_cases hlt : i < n
  · refine .inr ⟨hlt, Pv (i + 1), fun σ' H' p' => ⟨n - (i + 1), by omega, rfl, hlt, p'⟩, fun x H' y => ?_⟩
    obtain ⟨e, y⟩ := y
    subst e y
    exact hs i σ _ hlt p
  · have e : i = n := by omega
    subst e
    exact .inl ⟨Nat.le_refl _, hd σ H p⟩
/-- while, by a word and a measure of the state -/
theorem while_by {c : TT} {tb : TS} {D : Ends} {σ : St} {H : Hp} (Pv : St → Hp → Prop) (μ : St → Hp → Nat) (h0 : Pv σ H)
    (hs : ∀ σ H, Pv σ H → c σ H fun b H1 => if b = true then tb { D with nx := fun σ' H' => Pv σ' H' ∧ μ σ' H' < μ σ H, ct := fun σ' H' => Pv σ' H' ∧ μ σ' H' < μ σ H, bk := D.nx } σ H1 else D.nx σ H1)
    (mono : ∀ σ H Q Q', (∀ b H1, Q b H1 → Q' b H1) → c σ H Q → c σ H Q') : tWhile c tb D σ H := by
  refine ⟨fun m σ H => m = μ σ H ∧ Pv σ H, ⟨_, rfl, h0⟩, ?_⟩
  rintro m σ H ⟨rfl, p⟩
  refine mono σ H _ _ (fun b H1 q => ?_) (hs σ H p)
  cases b with
  | true => exact ⟨_, fun σ' H' ⟨p', l⟩ => ⟨_, l, rfl, p'⟩, q⟩
  | false => exact q
end L2

namespace L2
open PySem PySem.Spec PyProof.Rows

abbrev R2 := V → V → Hp → VK → Prop
/-- a two-place operation on values: f is binaryOp op, inplaceOp op or compareOp op -/
def OpR (X : Cx) (f : Value → Value → Sem Value) (r : R2) : Prop :=
  ∀ (pins : List (Addr × Obj)) (s : Shared) (σ : St) (H : Hp) (x y : V) (v u : Value) (Q : VK), Inv X pins σ H s → RelV x v → RelV y u → r x y H Q →
    wpAny (model X.prog X.w) X.A (f v u) (EP X pins σ Q) X.xe s
/-- a one-place operation -/
def UnR (X : Cx) (f : Value → Sem Value) (r : V → Hp → VK → Prop) : Prop :=
  ∀ (pins : List (Addr × Obj)) (s : Shared) (σ : St) (H : Hp) (x : V) (v : Value) (Q : VK), Inv X pins σ H s → RelV x v → r x H Q →
    wpAny (model X.prog X.w) X.A (f v) (EP X pins σ Q) X.xe s
/-- a call of a value that is known (a builtin, a type) with values -/
def CallR (X : Cx) (f : Value) (r : List V → Hp → VK → Prop) : Prop :=
  ∀ (pins : List (Addr × Obj)) (s : Shared) (σ : St) (H : Hp) (xs : List V) (us : List Value) (Q : VK), Inv X pins σ H s → Vals xs us → r xs H Q →
    wpAny (model X.prog X.w) X.A (call f us) (EP X pins σ Q) X.xe s
/-- a value's truth -/
def TruR (X : Cx) (r : V → Hp → (Bool → Hp → Prop) → Prop) : Prop :=
  ∀ (pins : List (Addr × Obj)) (s : Shared) (σ : St) (H : Hp) (x : V) (v : Value) (Q : Bool → Hp → Prop), Inv X pins σ H s → RelV x v → r x H Q →
    wpAny (model X.prog X.w) X.A (truthy v) (TP X pins σ Q) X.xe s

def tOp (r : R2) (ta tb : TE) : TE := fun σ H Q => ta σ H fun x H1 => tb σ H1 fun y H2 => r x y H2 Q
def tUn (r : V → Hp → VK → Prop) (ta : TE) : TE := fun σ H Q => ta σ H fun x H1 => r x H1 Q
/-- ints in, under C, and a value out -/
def rI (C : Int → Int → Prop) (g : Int → Int → V) : R2 := fun x y H Q => ∃ i j, x = .int i ∧ y = .int j ∧ C i j ∧ Q (g i j) H
def rI0 (g : Int → Int → V) : R2 := fun x y H Q => ∃ i j, x = .int i ∧ y = .int j ∧ Q (g i j) H
def rU (g : Int → V) : V → Hp → VK → Prop := fun x H Q => ∃ i, x = .int i ∧ Q (g i) H

section
variable {X : Cx} {a b c : Expr} {ta tb tc : TE} {pos : Pos}

theorem binT (ha : PE X a ta) (hb : PE X b tb) {pins : List (Addr × Obj)} {s : Shared} {σ : St} {H : Hp} {R : V → V → Hp → Prop} (I : Inv X pins σ H s)
    (h : ta σ H fun x H1 => tb σ H1 fun y H2 => R x y H2) {Q : Value → Shared → Prop} {f : Value → Value → Sem Value}
    (hf : ∀ v u s2 x y H2, Inv X pins σ H2 s2 → RelV x v → RelV y u → R x y H2 → wpAny (model X.prog X.w) X.A (f v u) Q X.xe s2) :
    wpAny (model X.prog X.w) X.A (eval a X.env) (fun v s₁ => wpAny (model X.prog X.w) X.A (eval b X.env) (fun u s₂ => wpAny (model X.prog X.w) X.A (f v u) Q X.xe s₂) X.xe s₁) X.xe s := by
  refine thn (ha pins s σ H _ I h) fun v s1 ⟨x, H1, I1, r1, q1⟩ => ?_
  refine thn (hb pins s1 σ H1 _ I1 q1) fun u s2 ⟨y, H2, I2, r2, q2⟩ => ?_
  exact hf v u s2 x y H2 I2 r1 r2 q2

theorem pe_op {op : Operator} {r : R2} (ho : OpR X (binaryOp op) r) (ha : PE X a ta) (hb : PE X b tb) : PE X (.BinOp a op b pos) (tOp r ta tb) := by
  intro pins s σ H Q I h
  exact wpAny_BinOp (binT ha hb I h fun v u s2 x y H2 I2 rx ry q => ho pins s2 σ H2 x y v u Q I2 rx ry q)
theorem pe_un {op : UnaryOp} {r : V → Hp → VK → Prop} (ho : UnR X (unaryOp op) r) (ha : PE X a ta) : PE X (.UnaryOp op a pos) (tUn r ta) := by
  intro pins s σ H Q I h
  exact UnaryOp_ (thn (ha pins s σ H _ I h) fun v s1 ⟨x, H1, I1, r1, q1⟩ => ho pins s1 σ H1 x v Q I1 r1 q1)
/-- a op= e at a name: the name's slot i -/
theorem augR {op : Operator} {r : R2} (ho : OpR X (inplaceOp op) r) {pins : List (Addr × Obj)} {s : Shared} {σ : St} {H : Hp} {x y : V} {v u : Value} {Q : VK} (I : Inv X pins σ H s)
    (rx : RelV x v) (ry : RelV y u) (q : r x y H Q) : wpAny (model X.prog X.w) X.A (inplaceOp op v u) (EP X pins σ Q) X.xe s := ho pins s σ H x y v u Q I rx ry q

/-! ### ints -/
theorem opI {f : Value → Value → Sem Value} {C : Int → Int → Prop} {g : Int → Int → Int}
    (rule : ∀ (i j : Int) (t u : Tok) (s : Shared) (Q : Value → Shared → Prop) (E : Value → Shared → Prop), C i j → Q (.int (g i j) s.toks) { s with toks := s.toks + 1 } → wpAny (model X.prog X.w) X.A (f (.int i t) (.int j u)) Q E s) :
    OpR X f (rI C fun i j => .int (g i j)) := by
  intro pins s σ H x y v u Q I rx ry h
  obtain ⟨i, j, rfl, rfl, hc, q⟩ := h
  obtain ⟨t, rfl⟩ := rx
  obtain ⟨t', rfl⟩ := ry
  exact rule i j t t' s _ _ hc ⟨.int (g i j), H, I.tok _, ⟨_, rfl⟩, q⟩
theorem opI0 {f : Value → Value → Sem Value} {g : Int → Int → Int}
    (rule : ∀ (i j : Int) (t u : Tok) (s : Shared) (Q : Value → Shared → Prop) (E : Value → Shared → Prop), Q (.int (g i j) s.toks) { s with toks := s.toks + 1 } → wpAny (model X.prog X.w) X.A (f (.int i t) (.int j u)) Q E s) :
    OpR X f (rI0 fun i j => .int (g i j)) := by
  intro pins s σ H x y v u Q I rx ry h
  obtain ⟨i, j, rfl, rfl, q⟩ := h
  obtain ⟨t, rfl⟩ := rx
  obtain ⟨t', rfl⟩ := ry
  exact rule i j t t' s _ _ ⟨.int (g i j), H, I.tok _, ⟨_, rfl⟩, q⟩
theorem opB0 {f : Value → Value → Sem Value} {g : Int → Int → Bool}
    (rule : ∀ (i j : Int) (t u : Tok) (s : Shared) (Q : Value → Shared → Prop) (E : Value → Shared → Prop), Q (.bool (g i j)) s → wpAny (model X.prog X.w) X.A (f (.int i t) (.int j u)) Q E s) :
    OpR X f (rI0 fun i j => .bl (g i j)) := by
  intro pins s σ H x y v u Q I rx ry h
  obtain ⟨i, j, rfl, rfl, q⟩ := h
  obtain ⟨t, rfl⟩ := rx
  obtain ⟨t', rfl⟩ := ry
  exact rule i j t t' s _ _ ⟨.bl (g i j), H, I, rfl, q⟩

def CDiv (i j : Int) : Prop := 0 < j ∧ j < 1073741824
def CDivN (i j : Int) : Prop := j ≠ 0 ∧ j.natAbs < 1073741824
def CPow (i j : Int) : Prop := 0 ≤ j ∧ j ≤ 1000000 ∧ i.natAbs < 2 ^ 64
def CMul (i j : Int) : Prop := (-(2 ^ 64) < i ∧ i < 2 ^ 64) ∨ (-(2 ^ 64) < j ∧ j < 2 ^ 64)
theorem CMul.ok {i j : Int} (h : CMul i j) : IntMulOk i j := by
  rcases h with ⟨h1, h2⟩ | ⟨h1, h2⟩
  · exact .of_left (intBits_le_64 h1 h2)
  · exact .of_right (intBits_le_64 h1 h2)
theorem two_pow_nn (k : Nat) : (0 : Int) ≤ 2 ^ k := by
  rw [two_pow_cast]
  exact Int.natCast_nonneg _

theorem op_add : OpR X (binaryOp .Add) (rI0 fun i j => .int (i + j)) := opI0 fun _ _ _ _ _ _ _ q => add_int q
theorem op_sub : OpR X (binaryOp .Sub) (rI0 fun i j => .int (i - j)) := opI0 fun _ _ _ _ _ _ _ q => sub_int q
theorem op_mul : OpR X (binaryOp .Mult) (rI CMul fun i j => .int (i * j)) := opI fun _ _ _ _ _ _ _ hc q => mul_int q hc.ok
/-- // by a positive divisor -/
theorem op_fdiv : OpR X (binaryOp .FloorDiv) (rI CDiv fun i j => .int (i / j)) := opI fun i j _ _ _ _ _ hc q => by
  have h1 : (0 : Int) < j := hc.1
  have h2 : j < 1073741824 := hc.2
  exact floordiv_int (by omega) (by rw [Int.fdiv_eq_ediv_of_nonneg i (by omega)]; exact q) (.inl (PyProof.noPylong_small (by omega)))
theorem op_fdivN : OpR X (binaryOp .FloorDiv) (rI CDivN fun i j => .int (i.fdiv j)) := opI fun _ _ _ _ _ _ _ hc q => floordiv_int hc.1 q (.inl (PyProof.noPylong_small hc.2))
/-- % by a positive divisor of any size -/
theorem op_mod : OpR X (binaryOp .Mod) (rI (fun _ j => 0 < j) fun i j => .int (i % j)) := opI fun i j _ _ _ _ _ hc q => by
  have h1 : (0 : Int) < j := hc
  exact mod_int' (by omega) (by rw [Int.fmod_eq_emod_of_nonneg i (by omega)]; exact q)
theorem op_modN : OpR X (binaryOp .Mod) (rI (fun _ j => j ≠ 0) fun i j => .int (i.fmod j)) := opI fun _ _ _ _ _ _ _ hc q => mod_int' hc q
theorem op_pow : OpR X (binaryOp .Pow) (rI CPow fun i j => .int (i ^ j.toNat)) := opI fun _ _ _ _ _ _ _ hc q => pow_int_small hc.1 hc.2.1 hc.2.2 q
theorem op_shl : OpR X (binaryOp .LShift) (rI CPow fun i j => .int (i * 2 ^ j.toNat)) := opI fun _ _ _ _ _ _ _ hc q => lshift_int_small hc.1 hc.2.1 hc.2.2 q
theorem op_shr : OpR X (binaryOp .RShift) (rI (fun _ j => 0 ≤ j) fun i j => .int (i / 2 ^ j.toNat)) := opI fun i j _ _ _ _ _ hc q =>
  rshift_int hc (by rw [Int.fdiv_eq_ediv_of_nonneg i (two_pow_nn _)]; exact q)
theorem op_and : OpR X (binaryOp .BitAnd) (rI0 fun i j => .int (Builtin.bitAnd i j)) := opI0 fun _ _ _ _ _ _ _ q => and_int q
theorem op_or : OpR X (binaryOp .BitOr) (rI0 fun i j => .int (Builtin.bitOr i j)) := opI0 fun _ _ _ _ _ _ _ q => or_int q
theorem op_xor : OpR X (binaryOp .BitXor) (rI0 fun i j => .int (Builtin.bitXor i j)) := opI0 fun _ _ _ _ _ _ _ q => xor_int q

theorem iop_add : OpR X (inplaceOp .Add) (rI0 fun i j => .int (i + j)) := opI0 fun _ _ _ _ _ _ _ q => iadd_int q
theorem iop_sub : OpR X (inplaceOp .Sub) (rI0 fun i j => .int (i - j)) := opI0 fun _ _ _ _ _ _ _ q => isub_int q
theorem iop_mul : OpR X (inplaceOp .Mult) (rI CMul fun i j => .int (i * j)) := opI fun _ _ _ _ _ _ _ hc q => imul_int q hc.ok
theorem iop_fdiv : OpR X (inplaceOp .FloorDiv) (rI CDiv fun i j => .int (i / j)) := opI fun i j _ _ _ _ _ hc q => by
  have h1 : (0 : Int) < j := hc.1
  have h2 : j < 1073741824 := hc.2
  exact ifloordiv_int (by omega) (by rw [Int.fdiv_eq_ediv_of_nonneg i (by omega)]; exact q) (.inl (PyProof.noPylong_small (by omega)))
theorem iop_mod : OpR X (inplaceOp .Mod) (rI (fun _ j => 0 < j) fun i j => .int (i % j)) := opI fun i j _ _ _ _ _ hc q => by
  have h1 : (0 : Int) < j := hc
  exact imod_int (by omega) (by rw [Int.fmod_eq_emod_of_nonneg i (by omega)]; exact q)
theorem iop_shl : OpR X (inplaceOp .LShift) (rI CPow fun i j => .int (i * 2 ^ j.toNat)) := opI fun _ _ _ _ _ _ _ hc q => ilshift_int_small hc.1 hc.2.1 hc.2.2 q
theorem iop_shr : OpR X (inplaceOp .RShift) (rI (fun _ j => 0 ≤ j) fun i j => .int (i / 2 ^ j.toNat)) := opI fun i j _ _ _ _ _ hc q =>
  irshift_int hc (by rw [Int.fdiv_eq_ediv_of_nonneg i (two_pow_nn _)]; exact q)
theorem iop_and : OpR X (inplaceOp .BitAnd) (rI0 fun i j => .int (Builtin.bitAnd i j)) := opI0 fun _ _ _ _ _ _ _ q => iand_int q
theorem iop_or : OpR X (inplaceOp .BitOr) (rI0 fun i j => .int (Builtin.bitOr i j)) := opI0 fun _ _ _ _ _ _ _ q => ior_int q
theorem iop_xor : OpR X (inplaceOp .BitXor) (rI0 fun i j => .int (Builtin.bitXor i j)) := opI0 fun _ _ _ _ _ _ _ q => ixor_int q

theorem unI {f : Value → Sem Value} {g : Int → Int}
    (rule : ∀ (i : Int) (t : Tok) (s : Shared) (Q : Value → Shared → Prop) (E : Value → Shared → Prop), Q (.int (g i) s.toks) { s with toks := s.toks + 1 } → wpAny (model X.prog X.w) X.A (f (.int i t)) Q E s) :
    UnR X f (rU fun i => .int (g i)) := by
  intro pins s σ H x v Q I rx h
  obtain ⟨i, rfl, q⟩ := h
  obtain ⟨t, rfl⟩ := rx
  exact rule i t s _ _ ⟨.int (g i), H, I.tok _, ⟨_, rfl⟩, q⟩
theorem un_neg : UnR X (unaryOp .USub) (rU fun i => .int (-i)) := unI fun _ _ _ _ _ q => neg_int q
theorem un_inv : UnR X (unaryOp .Invert) (rU fun i => .int (Builtin.bitNot i)) := unI fun _ _ _ _ _ q => invert_int q

/-! ### bools among ints: n += (a < b) -/
theorem op_add_ib : OpR X (binaryOp .Add) (fun x y H Q => ∃ i k, x = .int i ∧ y = .bl k ∧ Q (.int (i + b2i k)) H) := by
  intro pins s σ H x y v u Q I rx ry h
  obtain ⟨i, k, rfl, rfl, q⟩ := h
  obtain ⟨t, rfl⟩ := rx
  cases ry
  exact add_int_bool ⟨.int (i + b2i k), H, I.tok _, ⟨_, rfl⟩, q⟩
end

/-! ### comparisons -/
/-- the scalars that == tells apart as data does -/
def scal : V → V → Bool
  | .non, .non => true | .non, .int _ => true | .int _, .non => true | .non, .bl _ => true | .bl _, .non => true | .non, .str _ => true | .str _, .non => true
  | .int _, .int _ => true | .bl _, .bl _ => true | .str _, .str _ => true | .byt _, .byt _ => true
  | .int _, .str _ => true | .str _, .int _ => true | .bl _, .str _ => true | .str _, .bl _ => true
  | _, _ => false
def rEq : R2 := fun x y H Q => scal x y = true ∧ Q (.bl (decide (x = y))) H
def rNe : R2 := fun x y H Q => scal x y = true ∧ Q (.bl (!decide (x = y))) H

theorem dec_int {i j : Int} : decide (V.int i = V.int j) = (i == j) := by
  rw [Bool.eq_iff_iff]
  simp
theorem dec_bl {i j : Bool} : decide (V.bl i = V.bl j) = (i == j) := by
  rw [Bool.eq_iff_iff]
  simp
theorem dec_str {i j : Str} : decide (V.str i = V.str j) = (i == j) := by
  rw [Bool.eq_iff_iff]
  simp
theorem dec_byt {i j : Array UInt8} : decide (V.byt i = V.byt j) = (i.toList == j.toList) := by
  rw [Bool.eq_iff_iff]
  cases i
  cases j
  simp

section
variable {X : Cx} {a b c : Expr} {ta tb tc : TE} {pos : Pos}
theorem fin_bl {pins : List (Addr × Obj)} {σ : St} {H : Hp} {s : Shared} {Q : VK} {k k' : Bool} (I : Inv X pins σ H s) (q : Q (.bl k) H) (e : k = k') : EP X pins σ Q (.bool k') s := by
  subst e
  exact ⟨.bl k, H, I, rfl, q⟩
theorem op_eq : OpR X (compareOp .Eq) rEq := by
  intro pins s σ H x y v u Q I rx ry h
  obtain ⟨hs, q⟩ := h
  cases x with
  | non =>
    cases rx
    cases y with
    | non => cases ry; exact PySem.EqNone.eq_none_none (fin_bl I q (by simp))
    | bl j => cases ry; exact PySem.EqNone.eq_none_bool (fin_bl I q (by simp))
    | int j => obtain ⟨t', rfl⟩ := ry; exact PySem.EqNone.eq_none_int (fin_bl I q (by simp))
    | str j => obtain ⟨t', rfl⟩ := ry; exact PySem.EqNone.eq_none_str (fin_bl I q (by simp))
    | _ => exact absurd (show false = true from hs) Bool.false_ne_true
  | bl i =>
    cases rx
    cases y with
    | non => cases ry; exact PySem.EqNone.eq_bool_none (fin_bl I q (by simp))
    | bl j => cases ry; exact eq_bool (fin_bl I q dec_bl)
    | str j => obtain ⟨t', rfl⟩ := ry; exact PySem.EqMixed.eq_bool_str (fin_bl I q (by simp))
    | _ => exact absurd (show false = true from hs) Bool.false_ne_true
  | int i =>
    obtain ⟨t, rfl⟩ := rx
    cases y with
    | non => cases ry; exact PySem.EqNone.eq_int_none (fin_bl I q (by simp))
    | int j => obtain ⟨t', rfl⟩ := ry; exact eq_int (fin_bl I q dec_int)
    | str j => obtain ⟨t', rfl⟩ := ry; exact PySem.EqMixed.eq_int_str (fin_bl I q (by simp))
    | _ => exact absurd (show false = true from hs) Bool.false_ne_true
  | str i =>
    obtain ⟨t, rfl⟩ := rx
    cases y with
    | non => cases ry; exact PySem.EqNone.eq_str_none (fin_bl I q (by simp))
    | bl j => cases ry; exact PySem.EqMixed.eq_str_bool (fin_bl I q (by simp))
    | int j => obtain ⟨t', rfl⟩ := ry; exact PySem.EqMixed.eq_str_int (fin_bl I q (by simp))
    | str j => obtain ⟨t', rfl⟩ := ry; exact eq_str (fin_bl I q dec_str)
    | _ => exact absurd (show false = true from hs) Bool.false_ne_true
  | byt i =>
    obtain ⟨t, rfl⟩ := rx
    cases y with
    | byt j => obtain ⟨t', rfl⟩ := ry; exact PySem.W.eq_bytes (fin_bl I q dec_byt)
    | _ => exact absurd (show false = true from hs) Bool.false_ne_true
  | _ => cases y <;> exact absurd (show false = true from hs) Bool.false_ne_true
theorem op_ne : OpR X (compareOp .NotEq) rNe := by
  intro pins s σ H x y v u Q I rx ry h
  obtain ⟨hs, q⟩ := h
  cases x with
  | non =>
    cases rx
    cases y with
    | non => cases ry; exact PySem.EqNone.ne_none_none (fin_bl I q (by simp))
    | bl j => cases ry; exact PySem.EqNone.ne_none_bool (fin_bl I q (by simp))
    | int j => obtain ⟨t', rfl⟩ := ry; exact PySem.EqNone.ne_none_int (fin_bl I q (by simp))
    | str j => obtain ⟨t', rfl⟩ := ry; exact PySem.EqNone.ne_none_str (fin_bl I q (by simp))
    | _ => exact absurd (show false = true from hs) Bool.false_ne_true
  | bl i =>
    cases rx
    cases y with
    | non => cases ry; exact PySem.EqNone.ne_bool_none (fin_bl I q (by simp))
    | bl j => cases ry; exact ne_bool (fin_bl I q (congrArg not dec_bl))
    | str j => obtain ⟨t', rfl⟩ := ry; exact PySem.EqMixed.ne_bool_str (fin_bl I q (by simp))
    | _ => exact absurd (show false = true from hs) Bool.false_ne_true
  | int i =>
    obtain ⟨t, rfl⟩ := rx
    cases y with
    | non => cases ry; exact PySem.EqNone.ne_int_none (fin_bl I q (by simp))
    | int j => obtain ⟨t', rfl⟩ := ry; exact ne_int (fin_bl I q (congrArg not dec_int))
    | str j => obtain ⟨t', rfl⟩ := ry; exact PySem.EqMixed.ne_int_str (fin_bl I q (by simp))
    | _ => exact absurd (show false = true from hs) Bool.false_ne_true
  | str i =>
    obtain ⟨t, rfl⟩ := rx
    cases y with
    | non => cases ry; exact PySem.EqNone.ne_str_none (fin_bl I q (by simp))
    | bl j => cases ry; exact PySem.EqMixed.ne_str_bool (fin_bl I q (by simp))
    | int j => obtain ⟨t', rfl⟩ := ry; exact PySem.EqMixed.ne_str_int (fin_bl I q (by simp))
    | str j => obtain ⟨t', rfl⟩ := ry; exact ne_str (fin_bl I q (congrArg not dec_str))
    | _ => exact absurd (show false = true from hs) Bool.false_ne_true
  | byt i =>
    obtain ⟨t, rfl⟩ := rx
    cases y with
    | byt j => obtain ⟨t', rfl⟩ := ry; exact PySem.W.ne_bytes (fin_bl I q (congrArg not dec_byt))
    | _ => exact absurd (show false = true from hs) Bool.false_ne_true
  | _ => cases y <;> exact absurd (show false = true from hs) Bool.false_ne_true

theorem op_lt : OpR X (compareOp .Lt) (rI0 fun i j => .bl (decide (i < j))) := opB0 fun _ _ _ _ _ _ _ q => lt_int q
theorem op_le : OpR X (compareOp .LtE) (rI0 fun i j => .bl (decide (i ≤ j))) := opB0 fun _ _ _ _ _ _ _ q => le_int q
theorem op_gt : OpR X (compareOp .Gt) (rI0 fun i j => .bl (decide (j < i))) := opB0 fun _ _ _ _ _ _ _ q => gt_int q
theorem op_ge : OpR X (compareOp .GtE) (rI0 fun i j => .bl (decide (j ≤ i))) := opB0 fun _ _ _ _ _ _ _ q => ge_int q
theorem op_lt_str : OpR X (compareOp .Lt) (fun x y H Q => ∃ i j, x = .str i ∧ y = .str j ∧ Q (.bl (decide (i.cps.toList < j.cps.toList))) H) := by
  intro pins s σ H x y v u Q I rx ry h
  obtain ⟨i, j, rfl, rfl, q⟩ := h
  obtain ⟨t, rfl⟩ := rx
  obtain ⟨t', rfl⟩ := ry
  exact lt_str (fin_bl I q rfl)
/-- the one string within the other -/
theorem op_in_str : OpR X (compareOp .In) (fun x y H Q => ∃ i j, x = .str i ∧ y = .str j ∧ Q (.bl (!(Builtin.Str.occurrences j i 0 j.length 1).isEmpty)) H) := by
  intro pins s σ H x y v u Q I rx ry h
  obtain ⟨i, j, rfl, rfl, q⟩ := h
  obtain ⟨t, rfl⟩ := rx
  obtain ⟨t', rfl⟩ := ry
  exact in_str (fin_bl I q rfl)

/-- is None, is not None: the right side a value none -/
theorem op_isN : OpR X (compareOp .Is) (fun x y H Q => y = .non ∧ Q (.bl (decide (x = .non))) H) := by
  intro pins s σ H x y v u Q I rx ry h
  obtain ⟨rfl, q⟩ := h
  cases ry
  refine is_none_gen (fin_bl I q ?_)
  cases x <;> first
    | (cases rx; rfl)
    | (obtain ⟨t, rfl⟩ := rx; rfl)
theorem op_notN : OpR X (compareOp .IsNot) (fun x y H Q => y = .non ∧ Q (.bl (!decide (x = .non))) H) := by
  intro pins s σ H x y v u Q I rx ry h
  obtain ⟨rfl, q⟩ := h
  cases ry
  refine isnot_none_gen (fin_bl I q ?_)
  cases x <;> first
    | (cases rx; rfl)
    | (obtain ⟨t, rfl⟩ := rx; rfl)

theorem op_notin_str : OpR X (compareOp .NotIn) (fun x y H Q => ∃ i j, x = .str i ∧ y = .str j ∧ Q (.bl (!(!(Builtin.Str.occurrences j i 0 j.length 1).isEmpty))) H) := by
  intro pins s σ H x y v u Q I rx ry h
  obtain ⟨i, j, rfl, rfl, q⟩ := h
  obtain ⟨t, rfl⟩ := rx
  obtain ⟨t', rfl⟩ := ry
  exact notIn_str (fin_bl I q rfl)
/-- is, is not of two objects that are tracked lists or instances -/
def isObj : HO → Bool
  | .lst _ => true
  | .ins _ _ _ => true
  | _ => false
theorem obj_there {pins : List (Addr × Obj)} {s : Shared} {σ : St} {H : Hp} {a : Addr} {o : HO} (I : Inv X pins σ H s) (h : H a = some o) (p : isObj o = true) : ∃ ob, s.heap.get? a = some ob ∧ ob.cls ≠ .type "tuple" := by
  cases o with
  | lst xs =>
    obtain ⟨_, its, n, _, e⟩ : xs.length ≤ sizeLine ∧ ∃ (its : List Value) (n : Nat), Vals xs its ∧ s.heap.get? a = some { cls := .type "list", data := .seq its.toArray n } := I.hok a _ h
    exact ⟨_, e, (by show Value.type "list" ≠ .type "tuple"; decide +kernel)⟩
  | ins C dx fs =>
    have x := I.hok a _ h
    obtain ⟨_, _, _, e, _⟩ := x
    exact ⟨_, e, (by show Value.ref C ≠ .type "tuple"; exact fun z => by cases z)⟩
  | _ => exact absurd (show false = true from p) Bool.false_ne_true
theorem op_is_ref : OpR X (compareOp .Is) (fun x y H Q => ∃ a b oa ob, x = .ref a ∧ y = .ref b ∧ H a = some oa ∧ isObj oa = true ∧ H b = some ob ∧ isObj ob = true ∧ Q (.bl (decide (a = b))) H) := by
  intro pins s σ H x y v u Q I rx ry h
  obtain ⟨a, b, oa, ob, rfl, rfl, ha, pa, hb, pb, q⟩ := h
  cases rx
  cases ry
  obtain ⟨o1, e1, n1⟩ := obj_there I ha pa
  obtain ⟨o2, e2, _⟩ := obj_there I hb pb
  by_cases z : a = b
  · subst z
    exact wpAny_is_ref_self (fin_bl I q (by simp))
  · exact wpAny_is_ref_other z e1 e2 n1 (fin_bl I q (by simp [z]))
theorem op_isnot_ref : OpR X (compareOp .IsNot) (fun x y H Q => ∃ a b oa ob, x = .ref a ∧ y = .ref b ∧ H a = some oa ∧ isObj oa = true ∧ H b = some ob ∧ isObj ob = true ∧ Q (.bl (!decide (a = b))) H) := by
  intro pins s σ H x y v u Q I rx ry h
  obtain ⟨a, b, oa, ob, rfl, rfl, ha, pa, hb, pb, q⟩ := h
  cases rx
  cases ry
  obtain ⟨o1, e1, n1⟩ := obj_there I ha pa
  obtain ⟨o2, e2, _⟩ := obj_there I hb pb
  by_cases z : a = b
  · subst z
    exact wpAny_isNot_ref_self (fin_bl I q (by simp))
  · exact wpAny_isNot_ref_other z e1 e2 n1 (fin_bl I q (by simp [z]))

/-- two rules for one operation: by cases -/
theorem OpR.or {f : Value → Value → Sem Value} {r r' : R2} (h : OpR X f r) (h' : OpR X f r') : OpR X f (fun x y H Q => r x y H Q ∨ r' x y H Q) := by
  intro pins s σ H x y v u Q I rx ry q
  rcases q with q | q
  · exact h pins s σ H x y v u Q I rx ry q
  · exact h' pins s σ H x y v u Q I rx ry q

theorem nomark (b : Expr) {op : CmpOp} (h : op ≠ .In := by decide) (h2 : op ≠ .NotIn := by decide) : behindInMarks op b = false := by
  have e1 : (op == CmpOp.In) = false := by cases op <;> first | rfl | exact absurd rfl h
  have e2 : (op == CmpOp.NotIn) = false := by cases op <;> first | rfl | exact absurd rfl h2
  cases b <;> simp [behindInMarks, e1, e2]
/-- a comparison as a value; hm: nomark b, or (for in, not in) by with_unfolding_all rfl -/
theorem pe_cmpR {op : CmpOp} {r : R2} (ho : OpR X (compareOp op) r) (ha : PE X a ta) (hb : PE X b tb) (hm : behindInMarks op b = false) : PE X (.Compare a [op] [b] pos) (tOp r ta tb) := by
  intro pins s σ H Q I h
  exact wpAny_Compare1 (binT ha hb I h fun v u s2 x y H2 I2 rx ry q => ho pins s2 σ H2 x y v u Q I2 rx ry q) hm
/-- a reading of a value as a test -/
def tTest (t : TE) : TT := fun σ H Q => t σ H fun x H' => ∃ k, x = .bl k ∧ Q k H'
theorem pt_cmpR {op : CmpOp} {r : R2} (ho : OpR X (compareOp op) r) (ha : PE X a ta) (hb : PE X b tb) (hm : behindInMarks op b = false) : PT X (.Compare a [op] [b] pos) (tTest (tOp r ta tb)) := by
  intro pins s σ H Q I h
  refine wpAny_isTrue_Compare1 (thn (ha pins s σ H _ I h) fun v s1 ⟨x, H1, I1, r1, q1⟩ => thn (hb pins s1 σ H1 _ I1 q1) fun u s2 ⟨y, H2, I2, r2, q2⟩ =>
    thn (ho pins s2 σ H2 x y v u _ I2 r1 r2 q2) fun c s3 ⟨z, H3, I3, r3, k, e, q3⟩ => ?_) hm
  subst e
  cases r3
  exact wpAny_truthy_bool ⟨H3, I3, q3⟩
/-- a op1 b op2 c -/
def tChain (r r' : R2) (ta tb tc : TE) : TE := fun σ H Q => ta σ H fun x H1 => tb σ H1 fun y H2 => r x y H2 fun z H3 => ∃ k, z = .bl k ∧
  (if k = true then tc σ H3 fun w' H4 => r' y w' H4 Q else Q (.bl false) H3)
theorem pe_chain {op op' : CmpOp} {r r' : R2} (ho : OpR X (compareOp op) r) (ho' : OpR X (compareOp op') r') (ha : PE X a ta) (hb : PE X b tb) (hc : PE X c tc)
    (hm : lastMarks [op, op'] [b, c] = false := by with_unfolding_all rfl) : PE X (.Compare a [op, op'] [b, c] pos) (tChain r r' ta tb tc) := by
  intro pins s σ H Q I h
  refine Compare_chain (thn (ha pins s σ H _ I h) fun v s1 ⟨x, H1, I1, r1, q1⟩ => chain_link (thn (hb pins s1 σ H1 _ I1 q1) fun u s2 ⟨y, H2, I2, r2, q2⟩ =>
    thn (ho pins s2 σ H2 x y v u _ I2 r1 r2 q2) fun d s3 ⟨z, H3, I3, r3, k, e, q3⟩ => ?_)) hm
  subst e
  cases r3
  refine wpAny_truthy_bool ?_
  cases k with
  | false => exact ite_ff ⟨.bl false, H3, I3, rfl, q3⟩
  | true => exact ite_tt (chain_last (thn (hc pins s3 σ H3 _ I3 q3) fun w' s4 ⟨z', H4, I4, r4, q4⟩ => ho' pins s4 σ H4 y z' u w' Q I4 r2 r4 q4))
theorem pt_chain {op op' : CmpOp} {r r' : R2} (ho : OpR X (compareOp op) r) (ho' : OpR X (compareOp op') r') (ha : PE X a ta) (hb : PE X b tb) (hc : PE X c tc)
    (hm : lastMarks [op, op'] [b, c] = false := by with_unfolding_all rfl) : PT X (.Compare a [op, op'] [b, c] pos) (tTest (tChain r r' ta tb tc)) := by
  intro pins s σ H Q I h
  refine isTrue_chain (thn (ha pins s σ H _ I h) fun v s1 ⟨x, H1, I1, r1, q1⟩ => test_link (thn (hb pins s1 σ H1 _ I1 q1) fun u s2 ⟨y, H2, I2, r2, q2⟩ =>
    thn (ho pins s2 σ H2 x y v u _ I2 r1 r2 q2) fun d s3 ⟨z, H3, I3, r3, k, e, q3⟩ => ?_)) hm
  subst e
  cases r3
  refine wpAny_truthy_bool ?_
  cases k with
  | false =>
    obtain ⟨k', e', q'⟩ := q3
    cases e'
    exact ite_ff ⟨H3, I3, q'⟩
  | true =>
    refine ite_tt (test_last (thn (hc pins s3 σ H3 _ I3 q3) fun w' s4 ⟨z', H4, I4, r4, q4⟩ => thn (ho' pins s4 σ H4 y z' u w' _ I4 r2 r4 q4) fun d' s5 ⟨z2, H5, I5, r5, k2, e2, q5⟩ => ?_))
    subst e2
    cases r5
    exact wpAny_truthy_bool ⟨H5, I5, q5⟩

/-! ### truth -/
/-- a value's truth by the abstract heap -/
def TruV (K : PySem.W.Frag) (x : V) (H : Hp) (k : Bool) : Prop :=
  match x with
  | .non => k = false
  | .bl b => k = b
  | .int i => k = (i != 0)
  | .str y => y.length ≤ sizeLine ∧ k = ((y.length : Int) != 0)
  | .byt y => y.size ≤ sizeLine ∧ k = ((y.size : Int) != 0)
  | .ref p => (∃ xs, SqL K H p xs ∧ k = !xs.isEmpty) ∨ (∃ xs, SqT K H p xs ∧ k = !xs.isEmpty) ∨ ∃ kvs, H p = some (.dK kvs) ∧ k = !kvs.isEmpty
  | _ => False
theorem isEmpty_kv {κ : Type} {kvs : List (κ × V)} {vs : List (κ × Value)} (r : KV kvs vs) : (!vs.isEmpty) = !kvs.isEmpty := by
  cases r <;> rfl
theorem isEmpty_of {xs : List V} {its : List Value} (r : Vals xs its) : (!its.toArray.isEmpty) = !xs.isEmpty := by
  cases r <;> simp
theorem line63 : (sizeLine : Nat) < 2 ^ 63 := by rw [sizeLine_eq]; decide
theorem tru_ok : TruR X (fun x H Q => ∃ k, TruV X.K x H k ∧ Q k H) := by
  intro pins s σ H x v Q I rx h
  obtain ⟨k, e, q⟩ := h
  have hl := line63
  have hs : sizeLine = 16777216 := sizeLine_eq
  cases x with
  | non =>
    cases rx
    have e' : k = false := e
    subst e'
    exact truthy_none ⟨H, I, q⟩
  | bl b =>
    cases rx
    have e' : k = b := e
    subst e'
    exact wpAny_truthy_bool ⟨H, I, q⟩
  | int i =>
    obtain ⟨t, rfl⟩ := rx
    have e' : k = (i != 0) := e
    subst e'
    exact PySem.P.truthy_int ⟨H, I, q⟩
  | str y =>
    obtain ⟨t, rfl⟩ := rx
    obtain ⟨hy, e'⟩ : y.length ≤ sizeLine ∧ k = ((y.length : Int) != 0) := e
    subst e'
    exact PySem.P.truthy_str (by omega) ⟨H, I.tok _, q⟩
  | byt y =>
    obtain ⟨t, rfl⟩ := rx
    obtain ⟨hy, e'⟩ : y.size ≤ sizeLine ∧ k = ((y.size : Int) != 0) := e
    subst e'
    exact PySem.W.truthy_bytes (by omega) ⟨H, I.tok _, q⟩
  | ref p =>
    cases rx
    have e' : (∃ xs, SqL X.K H p xs ∧ k = !xs.isEmpty) ∨ (∃ xs, SqT X.K H p xs ∧ k = !xs.isEmpty) ∨ ∃ kvs, H p = some (.dK kvs) ∧ k = !kvs.isEmpty := e
    rcases e' with ⟨xs, hx, e'⟩ | ⟨xs, hx, e'⟩ | ⟨kvs, hx, e'⟩
    · subst e'
      obtain ⟨its, r, pl, hz⟩ := I.list hx
      have hlen := r.length
      exact wpAny_truthy_list pl.isList (by simp only [List.size_toArray]; omega) ⟨H, I.tok _, by rw [isEmpty_of r]; exact q⟩
    · subst e'
      obtain ⟨its, r, pl, hz⟩ := I.tuple hx
      have hlen := r.length
      exact truthy_tuple pl (by simp only [List.size_toArray]; omega) ⟨H, I.tok _, by rw [isEmpty_of r]; exact q⟩
    · subst e'
      obtain ⟨hz, hS, vs, r, m⟩ : kvs.length ≤ sizeLine ∧ (p == sysModules) = false ∧ ∃ vs, KV kvs vs ∧ s.heap.DictOf (mixKind X.prog X.w) p vs := I.hok p _ hx
      have hlen : kvs.length = vs.length := Paired.length r
      exact wpAny_truthy_dict hS m (by omega) ⟨H, I.tok _, by rw [isEmpty_kv r]; exact q⟩
  | _ => exact (show False from e).elim
/-- any expression whose test is its value's truth (a name, a call, a subscript, a field ..: he by fun _ => rfl) -/
theorem pt_truth (ha : PE X a ta) (he : ∀ whole, isTrue a X.env whole = (do let v ← whole; standAt a.pos; holding [v] (truthy v))) :
    PT X a (fun σ H Q => ta σ H fun x H' => ∃ k, TruV X.K x H' k ∧ Q k H') := by
  intro pins s σ H Q I h
  exact isTrue_plain (thn (ha pins s σ H _ I h) fun v s1 ⟨x, H1, I1, r1, q1⟩ => tru_ok pins s1 σ H1 x v Q I1 r1 q1) (he _)

/-! ### strs and bytes -/
theorem pe_byt {x : List UInt8} {k : Nat} : PE X (.Constant (.bytes x) k pos) (fun _ H Q => Q (.byt x.toArray) H) := fun _ _ _ H _ I h => PySem.W.Constant_bytes ⟨.byt x.toArray, H, I.tok _, ⟨_, rfl⟩, h⟩
theorem op_add_str : OpR X (binaryOp .Add) (fun x y H Q => ∃ i j, x = .str i ∧ y = .str j ∧ i.length + j.length ≤ sizeLine ∧ Q (.str (i ++ j)) H) := by
  intro pins s σ H x y v u Q I rx ry h
  obtain ⟨i, j, rfl, rfl, hz, q⟩ := h
  obtain ⟨t, rfl⟩ := rx
  obtain ⟨t', rfl⟩ := ry
  exact add_str (fun t' tk => ⟨.str (i ++ j), H, I.tok _, ⟨_, rfl⟩, q⟩) hz
theorem iop_add_str : OpR X (inplaceOp .Add) (fun x y H Q => ∃ i j, x = .str i ∧ y = .str j ∧ i.length + j.length ≤ sizeLine ∧ Q (.str (i ++ j)) H) := by
  intro pins s σ H x y v u Q I rx ry h
  obtain ⟨i, j, rfl, rfl, hz, q⟩ := h
  obtain ⟨t, rfl⟩ := rx
  obtain ⟨t', rfl⟩ := ry
  exact iadd_str (fun t' tk => ⟨.str (i ++ j), H, I.tok _, ⟨_, rfl⟩, q⟩) hz
theorem op_add_byt : OpR X (binaryOp .Add) (fun x y H Q => ∃ i j, x = .byt i ∧ y = .byt j ∧ i.size + j.size ≤ 16777216 ∧ Q (.byt (i ++ j)) H) := by
  intro pins s σ H x y v u Q I rx ry h
  obtain ⟨i, j, rfl, rfl, hz, q⟩ := h
  obtain ⟨t, rfl⟩ := rx
  obtain ⟨t', rfl⟩ := ry
  exact PySem.W.KBy.add_bytes hz (fun t' tk => ⟨.byt (i ++ j), H, I.tok _, ⟨_, rfl⟩, q⟩)

def PlainIxT (b : Expr) : Prop := ∀ o i, subscripted b false o i = operate [o, i] (getItem o i)
/-- s[i], 0 ≤ i < len -/
theorem pe_item_str (ha : PE X a ta) (hb : PE X b tb) (hs : PlainIxT b) :
    PE X (.Subscript a b pos) (tOp (fun x y H Q => ∃ z i c, x = .str z ∧ y = .int i ∧ 0 ≤ i ∧ i < 2 ^ 63 ∧ i < z.length ∧ z.cps[i.toNat]? = some c ∧ Q (.str ⟨#[c]⟩) H) ta tb) := by
  intro pins s σ H Q I h
  refine Subscript_ (binT ha hb I h fun v u s2 x y H2 I2 rx ry q => ?_)
  obtain ⟨z, i, c, rfl, rfl, h0, h63, h1, hc, q⟩ := q
  obtain ⟨t, rfl⟩ := rx
  obtain ⟨t', rfl⟩ := ry
  have e : seqIndex? i z.length = some i.toNat := PySem.StrLaws.seqIndex_nonneg h0 h1
  exact tail_any (typeIs_str s2 z t) slot_str_getitem.lookup (getItem_str (c := c) (by
    have e1 : decide (i < -(2 ^ 63 : Int)) = false := decide_eq_false (by omega)
    have e2 : decide (i ≥ 2 ^ 63) = false := decide_eq_false (by omega)
    rw [e1, e2] <;> rfl) (by rw [e]; exact hc) ⟨.str ⟨#[c]⟩, H2, I2.tok _, ⟨_, rfl⟩, q⟩) (hs _ _)
/-- b[i], 0 ≤ i < len -/
theorem pe_item_byt (ha : PE X a ta) (hb : PE X b tb) (hs : PlainIxT b) :
    PE X (.Subscript a b pos) (tOp (fun x y H Q => ∃ (z : List UInt8) (i : Int), x = .byt z.toArray ∧ y = .int i ∧ z.length ≤ sizeLine ∧ 0 ≤ i ∧ i < z.length ∧ Q (.int ((z.getD i.toNat 0).toNat : Nat)) H) ta tb) := by
  intro pins s σ H Q I h
  refine Subscript_ (binT ha hb I h fun v u s2 x y H2 I2 rx ry q => ?_)
  obtain ⟨z, i, rfl, rfl, hz, h0, h1, q⟩ := q
  obtain ⟨t, rfl⟩ := rx
  obtain ⟨t', rfl⟩ := ry
  have hl : sizeLine = 16777216 := sizeLine_eq
  exact tail_any (PySem.W.typeIs_bytes s2 z.toArray t) PySem.W.FB.slot_bytes_getitem.lookup (PySem.W.getItem_bytes (by omega) h0 h1 ⟨.int ((z.getD i.toNat 0).toNat : Nat), H2, I2.tok _, ⟨_, rfl⟩, q⟩) (hs _ _)

/-! ### scalar builtins, by CallR -/
theorem vals1 {x : V} {us : List Value} (r : Vals [x] us) : ∃ u, us = [u] ∧ RelV x u := by
  cases r with
  | cons r1 r2 => cases r2; exact ⟨_, rfl, r1⟩
theorem vals2 {x y : V} {us : List Value} (r : Vals [x, y] us) : ∃ u w', us = [u, w'] ∧ RelV x u ∧ RelV y w' := by
  cases r with
  | cons r1 r2 =>
    cases r2 with
    | cons r3 r4 => cases r4; exact ⟨_, _, rfl, r1, r3⟩
theorem call_abs : CallR X (.builtin "abs") (fun xs H Q => ∃ i, xs = [.int i] ∧ Q (.int (if i < 0 then -i else i)) H) := by
  intro pins s σ H xs us Q I r h
  obtain ⟨i, rfl, q⟩ := h
  obtain ⟨u, rfl, t, rfl⟩ := vals1 r
  exact call_abs_int fun u tk => ⟨.int (if i < 0 then -i else i), H, I.tok _, ⟨_, rfl⟩, q⟩
theorem call_max2 (hc : X.calm = true) : CallR X (.builtin "max") (fun xs H Q => ∃ i j, xs = [.int i, .int j] ∧ Q (.int (if j > i then j else i)) H) := by
  intro pins s σ H xs us Q I r h
  obtain ⟨i, j, rfl, q⟩ := h
  obtain ⟨u, w', rfl, ⟨t, rfl⟩, ⟨t', rfl⟩⟩ := vals2 r
  refine max_two_ints (I.ok.hd hc) fun h' tk k => ⟨_, H, I.kept k, ?_, q⟩
  by_cases hj : j > i
  · rw [if_pos hj, if_pos hj]; exact ⟨_, rfl⟩
  · rw [if_neg hj, if_neg hj]; exact ⟨_, rfl⟩
theorem call_min2 (hc : X.calm = true) : CallR X (.builtin "min") (fun xs H Q => ∃ i j, xs = [.int i, .int j] ∧ Q (.int (if j < i then j else i)) H) := by
  intro pins s σ H xs us Q I r h
  obtain ⟨i, j, rfl, q⟩ := h
  obtain ⟨u, w', rfl, ⟨t, rfl⟩, ⟨t', rfl⟩⟩ := vals2 r
  refine min_two_ints (I.ok.hd hc) fun h' tk k => ⟨_, H, I.kept k, ?_, q⟩
  by_cases hj : j < i
  · rw [if_pos hj, if_pos hj]; exact ⟨_, rfl⟩
  · rw [if_neg hj, if_neg hj]; exact ⟨_, rfl⟩
theorem call_int1 : CallR X (.type "int") (fun xs H Q => (∃ i, xs = [.int i] ∧ Q (.int i) H) ∨ ∃ k, xs = [.bl k] ∧ Q (.int (if k then 1 else 0)) H) := by
  intro pins s σ H xs us Q I r h
  rcases h with ⟨i, rfl, q⟩ | ⟨k, rfl, q⟩
  · obtain ⟨u, rfl, t, rfl⟩ := vals1 r
    exact call_int_int ⟨.int i, H, I, ⟨_, rfl⟩, q⟩
  · obtain ⟨u, rfl, r1⟩ := vals1 r
    cases r1
    exact call_int_bool ⟨.int (if k then 1 else 0), H, I.tok _, ⟨_, rfl⟩, q⟩
theorem call_bool1 : CallR X (.type "bool") (fun xs H Q => (∃ i, xs = [.int i] ∧ Q (.bl (i != 0)) H) ∨ ∃ k, xs = [.bl k] ∧ Q (.bl k) H) := by
  intro pins s σ H xs us Q I r h
  rcases h with ⟨i, rfl, q⟩ | ⟨k, rfl, q⟩
  · obtain ⟨u, rfl, t, rfl⟩ := vals1 r
    exact call_bool_int ⟨.bl (i != 0), H, I, rfl, q⟩
  · obtain ⟨u, rfl, r1⟩ := vals1 r
    cases r1
    exact call_bool_bool ⟨.bl k, H, I, rfl, q⟩
theorem call_str_int : CallR X (.type "str") (fun xs H Q => ∃ i, xs = [.int i] ∧ i.natAbs.log2 < 1920 ∧ Q (.str (toString i)) H) := by
  intro pins s σ H xs us Q I r h
  obtain ⟨i, rfl, hz, q⟩ := h
  obtain ⟨u, rfl, t, rfl⟩ := vals1 r
  exact PySem.P.str_of_int hz ⟨.str _, H, I.tok _, ⟨_, rfl⟩, q⟩
theorem call_ord : CallR X (.builtin "ord") (fun xs H Q => ∃ x, xs = [.str x] ∧ x.length = 1 ∧ Q (.int (x.cps.getD 0 0 : Nat)) H) := by
  intro pins s σ H xs us Q I r h
  obtain ⟨x, rfl, hz, q⟩ := h
  obtain ⟨u, rfl, t, rfl⟩ := vals1 r
  exact ord_of_one hz ⟨.int _, H, I.tok _, ⟨_, rfl⟩, q⟩
theorem call_chr : CallR X (.builtin "chr") (fun xs H Q => ∃ i, xs = [.int i] ∧ 0 ≤ i ∧ i ≤ 1114111 ∧ Q (.str ⟨#[i.toNat]⟩) H) := by
  intro pins s σ H xs us Q I r h
  obtain ⟨i, rfl, h0, h1, q⟩ := h
  obtain ⟨u, rfl, t, rfl⟩ := vals1 r
  exact chr_of_range h0 h1 ⟨.str _, H, I.tok _, ⟨_, rfl⟩, q⟩
/-- len of a str, a bytes, a list, a tuple -/
def LenV (K : PySem.W.Frag) (x : V) (H : Hp) (n : Nat) : Prop :=
  match x with
  | .str y => y.length ≤ sizeLine ∧ n = y.length
  | .byt y => y.size ≤ sizeLine ∧ n = y.size
  | .ref p => (∃ xs, SqL K H p xs ∧ n = xs.length) ∨ ∃ xs, SqT K H p xs ∧ n = xs.length
  | _ => False
theorem call_len : CallR X (.builtin "len") (fun xs H Q => ∃ x n, xs = [x] ∧ LenV X.K x H n ∧ Q (.int n) H) := by
  intro pins s σ H xs us Q I r h
  obtain ⟨x, n, rfl, e, q⟩ := h
  obtain ⟨u, rfl, rx⟩ := vals1 r
  have hl := line63
  have hs : sizeLine = 16777216 := sizeLine_eq
  cases x with
  | str y =>
    obtain ⟨t, rfl⟩ := rx
    obtain ⟨hy, e'⟩ : y.length ≤ sizeLine ∧ n = y.length := e
    subst e'
    exact len_str (by omega) ⟨.int _, H, I.tok _, ⟨_, rfl⟩, q⟩
  | byt y =>
    obtain ⟨t, rfl⟩ := rx
    obtain ⟨hy, e'⟩ : y.size ≤ sizeLine ∧ n = y.size := e
    subst e'
    exact PySem.W.len_bytes (by omega) ⟨.int _, H, I.tok _, ⟨_, rfl⟩, q⟩
  | ref p =>
    cases rx
    have e' : (∃ xs, SqL X.K H p xs ∧ n = xs.length) ∨ ∃ xs, SqT X.K H p xs ∧ n = xs.length := e
    rcases e' with ⟨xs, hx, e'⟩ | ⟨xs, hx, e'⟩
    · subst e'
      obtain ⟨its, r', pl, hz⟩ := I.list hx
      have hlen := r'.length
      exact Calls.call_len_list pl.isList (by simp only [List.size_toArray]; omega) ⟨.int xs.length, H, I.tok _, ⟨_, by simp only [List.size_toArray]; rw [hlen]⟩, q⟩
    · subst e'
      obtain ⟨its, r', pl, hz⟩ := I.tuple hx
      have hlen := r'.length
      exact len_tuple pl (by simp only [List.size_toArray]; omega) ⟨.int xs.length, H, I.tok _, ⟨_, by simp only [List.size_toArray]; rw [hlen]⟩, q⟩
  | _ => exact (show False from e).elim
/-- divmod: a new tuple -/
theorem call_divmod : CallR X (.builtin "divmod") (fun xs H Q => ∃ i j, xs = [.int i, .int j] ∧ CDiv i j ∧ ∀ p, H p = none → Q (.ref p) (upd H p (.tup [.int (i / j), .int (i % j)]))) := by
  intro pins s σ H xs us Q I r h
  obtain ⟨i, j, rfl, ⟨h1, h2⟩, q⟩ := h
  obtain ⟨u, w', rfl, ⟨t, rfl⟩, ⟨t', rfl⟩⟩ := vals2 r
  refine divmod_int (by omega) ?_ (.inl (PyProof.noPylong_small (by omega)))
  rw [Int.fdiv_eq_ediv_of_nonneg i (by omega), Int.fmod_eq_emod_of_nonneg i (by omega)]
  have hn : H s.heap.objs.size = none := I.hok.fresh (Nat.le_refl _)
  refine ⟨.ref s.heap.objs.size, _, ?_, rfl, q _ hn⟩
  refine I.laid (fun b o e => Heap.get?_push_of_some _ e) (Nat.le_refl _) ⟨by simp only [List.length_cons, List.length_nil]; rw [sizeLine_eq]; decide, [.int (i / j) s.toks, .int (i % j) (s.toks + 1)], .cons ⟨_, rfl⟩ (.cons ⟨_, rfl⟩ .nil), ?_⟩
  exact ⟨_, Heap.get?_push_size s.heap rfl, rfl, rfl, 0, rfl⟩
end
end L2

namespace L2
open PySem PySem.Spec PyProof.Rows

/-! ### an instance, its attributes a map -/
structure ObjM (h : Heap) (x dx C : Addr) (mA : Str → Option Value) : Prop where
  obj : h.get? x = some (PySem.W.instObj C dx)
  ns : h.Ns1 dx mA
  ne : dx ≠ x

theorem lookIn_ns {h : Heap} {dx : Addr} {mA : Str → Option Value} (n : h.Ns1 dx mA) : ∃ od, h.get? dx = some od ∧ ∀ name, PySem.W.lookIn name od = some (mA name) := by
  obtain ⟨o, es, ep, ho, hd, hk, _, hm⟩ := n
  refine ⟨o, ho, fun name => ?_⟩
  have e := hm name
  unfold nsFind findBy at e
  rw [← Array.find?_toList] at e
  unfold PySem.W.lookIn
  rw [hd]
  dsimp only
  split
  · rename_i y q
    rw [q] at e
    exact congrArg some e
  · rename_i q
    rw [q] at e
    have a : es.toList.any (·.refKey) = false := by
      rw [List.any_eq_false]
      intro y hy
      obtain ⟨z, t, hkey⟩ := hk y (Array.mem_toList_iff.mp hy)
      simp [DictEntry.refKey, hkey]
    have a' : ¬ es.toList.any (·.refKey) = true := by rw [a]; exact Bool.false_ne_true
    rw [if_neg a']
    exact congrArg some e

theorem ObjM.look {h : Heap} {x dx C : Addr} {mA : Str → Option Value} (I : ObjM h x dx C mA) : ∃ od, PySem.W.InstAt h x (PySem.W.instObj C dx) C (some od) ∧ ∀ name, PySem.W.lookIn name od = some (mA name) :=
  let ⟨od, ho, hl⟩ := lookIn_ns I.ns
  ⟨od, ⟨I.obj, rfl, rfl, ho⟩, hl⟩

section
variable {prog : Program} {w : World} {A : Around} {E : Value → Shared → Prop} {s : Shared} {K : PySem.W.Frag} {x dx C f : Addr} {mA : Str → Option Value} {name : Str} {v : Value}

theorem get_map {expr : Bool} {Q : Value → Shared → Prop} (X : K.In s.heap) (I : ObjM s.heap x dx C mA) (hg : PySem.W.plainGet K C name = true) (hh : PySem.W.hasDictIn K C = true)
    (ha : PySem.W.findIn K (.ref C) name = some none) (hv : mA name = some v) (hv' : PySem.W.handedIn v = true) (h : Q v { s with toks := s.toks + 1 }) :
    wpAny (model prog w) A (getAttr (.ref x) name expr) Q E s := by
  obtain ⟨od, J, hl⟩ := I.look
  exact PySem.W.get_value X J (PySem.W.plainGet_of hg).1 (PySem.W.findObj_own hh ha rfl (by rw [hl, hv])) hv' h

theorem get_const {expr : Bool} {a : Value} {Q : Value → Shared → Prop} (X : K.In s.heap) (I : ObjM s.heap x dx C mA) (hg : PySem.W.plainGet K C name = true) (hh : PySem.W.hasDictIn K C = true)
    (ha : PySem.W.findIn K (.ref C) name = some (some a)) (hn : PySem.W.specialIn K a "__get__" = some none) (hc : PySem.W.copiedNames.contains name = false) (hv : mA name = none) (hv' : PySem.W.handedIn a = true)
    (h : Q a { s with toks := s.toks + 1 }) : wpAny (model prog w) A (getAttr (.ref x) name expr) Q E s := by
  obtain ⟨od, J, hl⟩ := I.look
  exact PySem.W.get_value X J (PySem.W.plainGet_of hg).1 (PySem.W.findObj_cls hh ha hn hv' hc (by rw [hl, hv])) hv' h

theorem get_meth {pl : Sem Bool} {Q : Value × List Value → Shared → Prop} (X : K.In s.heap) (I : ObjM s.heap x dx C mA) (hg : PySem.W.plainGet K C name = true)
    (hf : PySem.W.findIn K (.ref C) name = some (some (.ref f))) (ht : PySem.W.isFn K (.ref f) = true) (hv : mA name = none) (h : Q (.ref f, [.ref x]) s) :
    wpAny (model prog w) A (getMethod (.ref x) name pl) Q E s := by
  obtain ⟨od, J, hl⟩ := I.look
  exact PySem.W.method_fn X J (PySem.W.plainGet_of hg).1 (PySem.W.plainGet_of hg).2 hf (beq_iff_eq.mp ht) (by show (PySem.W.lookIn name od).map (·.isSome) = some false; rw [hl, hv]; rfl) h

theorem set_map {ns : List Str} {Q : Unit → Shared → Prop} (X : K.In s.heap) (I : ObjM s.heap x dx C mA)
    (hs : PySem.W.findIn K (.ref C) "__setattr__" = some (some (.builtin "object.__setattr__"))) (hp : PySem.W.plainOver K C = true) (ht : PySem.W.takerIn K C name = some none) (hh : PySem.W.hasDictIn K C = true)
    (hw : PySem.Within mA ns) (hsz : ns.length ≤ sizeLine)
    (h : ∀ h', ObjM h' x dx C (fun y => if y = name then some v else mA y) → Heap.SameBut dx s.heap h' → Q () { s with heap := h', toks := s.toks + 2 }) :
    wpAny (model prog w) A (setAttr (.ref x) name v) Q E s := by
  obtain ⟨od, J, hl⟩ := I.look
  refine PySem.W.set_plain X J hs (PySem.W.osa_open (s := { s with toks := s.toks + 1 }) (r := none) X J hp ht fun b => ?_)
  obtain ⟨cd, hc, hd'⟩ := PySem.W.any_some hh
  have hx : s.heap.get? x = some ⟨.ref C, some dx, .plain, #[]⟩ := I.obj
  refine wpAny_bind (wpAny_pure (wpAny_bind (wpAny_bind (wpAny_loadPart hx (wpAny_bind (PySem.W.Looks.here (s := { s with toks := s.toks + 1 }) (PySem.W.looks_clsIn X hc) ?_))))))
  rw [hd']
  refine wpAny_pure (a := some dx) (wpAny_bind (wpAny_pure (wpAny_bind ?_)))
  refine wpAny_nsSet1 (s := { s with toks := s.toks + 1 }) I.ns fun h' hn2 hs2 => ?_
  obtain ⟨oD, esD, epD, hoD, hdD, hcD⟩ := hn2.count (PySem.Within.cons name v hw)
  refine wpAny_bind (wpAny_lookBehind hoD (by rw [hdD]; exact pastItsLine_dict (Nat.le_trans hcD (by rw [List.length_cons]; omega))) ?_)
  exact wpAny_pure (h _ ⟨(hs2.2 _ (Ne.symm I.ne)).trans I.obj, hn2, I.ne⟩ hs2)

/-- C(..): the dict at the heap's end, the instance behind it; then its __init__ -/
theorem make_map {R : Result → Shared → Prop} {vs : List Value} {kw : List (Str × Value)} (X : K.In s.heap) (hm : PySem.W.makesIn K C = true)
    (hi : PySem.W.findIn K (.ref C) "__init__" = some (some (.ref f))) (hf : PySem.W.typeIn K (.ref f) = some (.type "function"))
    (h : codeAny (model prog w) (A.under (.builtin "type.__call__" ⟨.ref C :: vs, kw⟩)) (.call (.ref f) ⟨.ref (s.heap.objs.size + 1) :: vs, kw⟩) (PySem.W.InitBack (s.heap.objs.size + 1) R)
      { s with heap := (s.heap.push PySem.W.emptyDict).push (PySem.W.instObj C s.heap.objs.size) }) :
    codeAny (model prog w) A (.call (.ref C) ⟨vs, kw⟩) R s := by
  obtain ⟨hh, g, d, t, os⟩ := s
  exact PySem.W.make_core (PySem.W.makes_of X hm) (PySem.W.looks_findIn X hi) (fun self => PySem.W.bind_fn X self hf) (.inl rfl) h
/-- C() where there is no __init__ but object's -/
theorem make_map0 {R : Result → Shared → Prop} (X : K.In s.heap) (hm : PySem.W.makesIn K C = true)
    (hi : PySem.W.findIn K (.ref C) "__init__" = some (some (.builtin "object.__init__")))
    (hb : ∀ self, PySem.W.Looks (model prog w) s.heap (bindSpecial (.builtin "object.__init__") self) (.builtin "object.__init__", [self]))
    (h : codeAny (model prog w) (A.under (.builtin "type.__call__" ⟨[.ref C], []⟩)) (.call (.builtin "object.__init__") ⟨[.ref (s.heap.objs.size + 1)], []⟩) (PySem.W.InitBack (s.heap.objs.size + 1) R)
      { s with heap := (s.heap.push PySem.W.emptyDict).push (PySem.W.instObj C s.heap.objs.size) }) :
    codeAny (model prog w) A (.call (.ref C) ⟨[], []⟩) R s := by
  obtain ⟨hh, g, d, t, os⟩ := s
  exact PySem.W.make_core (PySem.W.makes_of X hm) (PySem.W.looks_findIn X hi) hb (.inr ⟨rfl, rfl⟩) h
end

/-! ### the attributes as a list of pairs -/
def putF (f : Str) (v : V) : List (Str × V) → List (Str × V)
  | [] => [(f, v)]
  | (g, x) :: r => if g = f then (g, v) :: r else (g, x) :: putF f v r
theorem lookup_putF (f g : Str) (v : V) : ∀ fs : List (Str × V), (putF f v fs).lookup g = if g = f then some v else fs.lookup g
  | [] => by
    show List.lookup g [(f, v)] = _
    by_cases h : g = f
    · have hb : (g == f) = true := beq_iff_eq.mpr h
      simp only [List.lookup, hb, if_pos h]
    · have hb : (g == f) = false := beq_eq_false_iff_ne.mpr h
      simp only [List.lookup, hb, if_neg h]
  | (k, x) :: r => by
    have ih := lookup_putF f g v r
    rw [show putF f v ((k, x) :: r) = (if k = f then (k, v) :: r else (k, x) :: putF f v r) from rfl]
    by_cases hk : k = f
    · rw [if_pos hk]
      by_cases h : g = k
      · have hb : (g == k) = true := beq_iff_eq.mpr h
        simp only [List.lookup, hb, if_pos (h.trans hk)]
      · have hb : (g == k) = false := beq_eq_false_iff_ne.mpr h
        simp only [List.lookup, hb, if_neg (fun e : g = f => h (e.trans hk.symm))]
    · rw [if_neg hk]
      by_cases h : g = k
      · have hb : (g == k) = true := beq_iff_eq.mpr h
        simp only [List.lookup, hb, if_neg (fun e : g = f => hk (h.symm.trans e))]
      · have hb : (g == k) = false := beq_eq_false_iff_ne.mpr h
        simp only [List.lookup, hb]
        exact ih
theorem keys_putF (f : Str) (v : V) : ∀ fs : List (Str × V), f ∈ (putF f v fs).map (·.1) ∧ ∀ g, g ∈ fs.map (·.1) → g ∈ (putF f v fs).map (·.1)
  | [] => ⟨by simp [putF], fun g h => by simp at h⟩
  | (k, x) :: r => by
    obtain ⟨i1, i2⟩ := keys_putF f v r
    rw [show putF f v ((k, x) :: r) = (if k = f then (k, v) :: r else (k, x) :: putF f v r) from rfl]
    by_cases hk : k = f
    · rw [if_pos hk]
      subst hk
      exact ⟨by simp, fun g h => by simpa using h⟩
    · rw [if_neg hk]
      refine ⟨?_, fun g h => ?_⟩
      · rw [List.map_cons]
        exact List.mem_cons_of_mem _ i1
      · rw [List.map_cons] at h ⊢
        rcases List.mem_cons.mp h with e | e
        · exact List.mem_cons.mpr (.inl e)
        · exact List.mem_cons_of_mem _ (i2 g e)
theorem length_putF (f : Str) (v : V) : ∀ fs : List (Str × V), (putF f v fs).length ≤ fs.length + 1
  | [] => by simp [putF]
  | (k, x) :: r => by
    have ih := length_putF f v r
    rw [show putF f v ((k, x) :: r) = (if k = f then (k, v) :: r else (k, x) :: putF f v r) from rfl]
    by_cases hk : k = f
    · rw [if_pos hk, List.length_cons, List.length_cons]; omega
    · rw [if_neg hk, List.length_cons, List.length_cons]; omega

theorem RelO.some_of {v : V} {o : Option Value} (r : RelO (some v) o) : ∃ u, o = some u ∧ RelV v u := by
  cases o with
  | none => exact (show False from r).elim
  | some u => exact ⟨u, rfl, r⟩
theorem RelO.none_of {o : Option Value} (r : RelO none o) : o = none := by
  cases o with
  | none => rfl
  | some u => exact (show False from r).elim
theorem handed_of {v : V} {u : Value} (r : RelV v u) : PySem.W.handedIn u = true := by
  cases v with
  | non => cases (show u = Value.none from r); rfl
  | bl b => cases (show u = Value.bool b from r); rfl
  | int i => obtain ⟨t, e⟩ := (show ∃ t, u = Value.int i t from r); cases e; rfl
  | str x => obtain ⟨t, e⟩ := (show ∃ t, u = Value.str x t from r); cases e; rfl
  | byt b => obtain ⟨t, e⟩ := (show ∃ t, u = Value.bytes b t from r); cases e; rfl
  | flt b => obtain ⟨t, e⟩ := (show ∃ t, u = Value.float b t from r); cases e; rfl
  | ref a => cases (show u = Value.ref a from r); rfl
  | ty n => cases (show u = Value.type n from r); rfl

section
variable {P : Program} {w : World} {H H' : Hp} {h h' : Heap} {a C dx : Addr} {fs fs' : List (Str × V)}
theorem ins_get (hok : HOk P w H h) (e : H a = some (.ins C dx fs)) : ∃ mA, ObjM h a dx C mA ∧ (∀ f, RelO (fs.lookup f) (mA f)) ∧ PySem.Within mA (fs.map (·.1)) ∧ fs.length ≤ 1000 ∧ H dx = some (.own a) := by
  obtain ⟨d, z, ne, ob, mA, n, r, q⟩ := (show ObjOk P w H h a (.ins C dx fs) from hok a _ e)
  exact ⟨mA, ⟨ob, n, ne⟩, r, q, z, d⟩
end

/-! ### what of the text a class must have -/
structure Cls (K : PySem.W.Frag) (C : Addr) : Prop where
  pg : PySem.W.plainGet K C Str.empty = true
  hd : PySem.W.hasDictIn K C = true
  po : PySem.W.plainOver K C = true
  sa : PySem.W.findIn K (.ref C) "__setattr__" = some (some (.builtin "object.__setattr__"))
theorem Cls.get {K : PySem.W.Frag} {C : Addr} (c : Cls K C) (f : Str) : PySem.W.plainGet K C f = true := c.pg
/-- no class of it has the name -/
def NoAttr (K : PySem.W.Frag) (C : Addr) (f : Str) : Prop := PySem.W.findIn K (.ref C) f = some none
theorem NoAttr.taker {K : PySem.W.Frag} {C : Addr} {f : Str} (n : NoAttr K C f) : PySem.W.takerIn K C f = some none := by
  unfold PySem.W.takerIn
  rw [show PySem.W.findIn K (.ref C) f = some none from n]
  rfl
/-- a constant of the class -/
structure Con (K : PySem.W.Frag) (C : Addr) (f : Str) (v : V) (u : Value) : Prop where
  at_ : PySem.W.findIn K (.ref C) f = some (some u)
  rel : RelV v u
  get : PySem.W.specialIn K u "__get__" = some none
  cp : PySem.W.copiedNames.contains f = false
/-- a method: a plain def of the class or of one above it -/
structure Meth (K : PySem.W.Frag) (C : Addr) (m : Str) (f : Addr) : Prop where
  at_ : PySem.W.findIn K (.ref C) m = some (some (.ref f))
  fn : PySem.W.isFn K (.ref f) = true
  kp : PySem.W.keepIn K (.ref f) = true

section
variable {X : Cx} {pins : List (Addr × Obj)} {σ : St} {H : Hp} {s : Shared} {a C dx : Addr} {fs : List (Str × V)} {f : Str} {v : V} {A : Around} {E : Value → Shared → Prop}

theorem getattr_ok {b : Bool} {Q : Value → Shared → Prop} (I : Inv X pins σ H s) (e : H a = some (.ins C dx fs)) (c : Cls X.K C) (n : NoAttr X.K C f) (l : fs.lookup f = some v)
    (h : ∀ u s', Inv X pins σ H s' → RelV v u → Q u s') : wpAny (model X.prog X.w) A (getAttr (.ref a) f b) Q E s := by
  obtain ⟨mA, O, r, _, _, _⟩ := ins_get I.hok e
  obtain ⟨u, hu, ru⟩ := RelO.some_of (v := v) (o := mA f) (by rw [← l]; exact r f)
  exact get_map I.kIn O (c.get f) c.hd n hu (handed_of ru) (h u _ (I.tok _) ru)

theorem getcon_ok {b : Bool} {u : Value} {Q : Value → Shared → Prop} (I : Inv X pins σ H s) (e : H a = some (.ins C dx fs)) (c : Cls X.K C) (k : Con X.K C f v u) (l : fs.lookup f = none)
    (h : ∀ s', Inv X pins σ H s' → Q u s') : wpAny (model X.prog X.w) A (getAttr (.ref a) f b) Q E s := by
  obtain ⟨mA, O, r, _, _, _⟩ := ins_get I.hok e
  have hn : mA f = none := RelO.none_of (by rw [← l]; exact r f)
  exact get_const I.kIn O (c.get f) c.hd k.at_ k.get k.cp hn (handed_of k.rel) (h _ (I.tok _))

theorem getmeth_ok {m : Str} {g : Addr} {pl : Sem Bool} {Q : Value × List Value → Shared → Prop} (I : Inv X pins σ H s) (e : H a = some (.ins C dx fs)) (c : Cls X.K C) (k : Meth X.K C m g) (l : fs.lookup m = none)
    (h : Q (.ref g, [.ref a]) s) : wpAny (model X.prog X.w) A (getMethod (.ref a) m pl) Q E s := by
  obtain ⟨mA, O, r, _, _, _⟩ := ins_get I.hok e
  have hn : mA m = none := RelO.none_of (by rw [← l]; exact r m)
  exact get_meth I.kIn O (c.get m) k.at_ k.fn hn h

theorem setattr_ok {y : V} {u : Value} {Q : Unit → Shared → Prop} (I : Inv X pins σ H s) (e : H a = some (.ins C dx fs)) (c : Cls X.K C) (n : NoAttr X.K C f) (hl : fs.length < 1000) (ry : RelV y u)
    (h : ∀ s', Inv X pins σ (upd H a (.ins C dx (putF f y fs))) s' → Q () s') : wpAny (model X.prog X.w) A (setAttr (.ref a) f u) Q E s := by
  obtain ⟨mA, O, r, wi, _, ho⟩ := ins_get I.hok e
  have hz : (fs.map (·.1)).length ≤ sizeLine := by rw [List.length_map, sizeLine_eq]; omega
  refine set_map I.kIn O c.sa c.po n.taker c.hd wi hz fun h' O' sb => h _ ?_
  have hd : ∃ o, h'.get? dx = some o := let ⟨o, _, _, e', _⟩ := O'.ns; ⟨o, e'⟩
  refine I.write (x := a) (e := dx) (by rw [e]; exact True.intro) (.inr ho) (fun b q hb z => (sb.2 b hb).trans z) hd ?_
  refine ⟨by rw [upd_ne O.ne]; exact ho, ?_, O.ne, O'.obj, _, O'.ns, fun g => ?_, fun g hg => ?_⟩
  · have := length_putF f y fs; omega
  · show RelO ((putF f y fs).lookup g) (if g = f then some u else mA g)
    rw [lookup_putF]
    by_cases q : g = f
    · rw [if_pos q, if_pos q]; exact ry
    · rw [if_neg q, if_neg q]; exact r g
  · by_cases q : g = f
    · rw [q]; exact (keys_putF f y fs).1
    · refine (keys_putF f y fs).2 g (wi g fun z => hg ?_)
      show (if g = f then some u else mA g) = none
      rw [if_neg q]; exact z

/-- a new instance, tracked, without attributes -/
theorem Inv.made (I : Inv X pins σ H s) : Inv X pins σ (upd (upd H s.heap.objs.size (.own (s.heap.objs.size + 1))) (s.heap.objs.size + 1) (.ins C s.heap.objs.size []))
    { s with heap := (s.heap.push PySem.W.emptyDict).push (PySem.W.instObj C s.heap.objs.size) } := by
  have e1 : (s.heap.push PySem.W.emptyDict).get? s.heap.objs.size = some PySem.W.emptyDict := Heap.get?_push_size s.heap rfl
  have e2 : ((s.heap.push PySem.W.emptyDict).push (PySem.W.instObj C s.heap.objs.size)).get? (s.heap.objs.size + 1) = some (PySem.W.instObj C s.heap.objs.size) := by
    have := Heap.get?_push_size (s.heap.push PySem.W.emptyDict) (o := PySem.W.instObj C s.heap.objs.size) rfl
    rwa [Heap.size_push] at this
  have e3 : (s.heap.push PySem.W.emptyDict).Ns s.heap.objs.size (fun _ => none) := ⟨PySem.W.emptyDict, #[], _, e1, rfl, (fun e he => absurd he (by simp)), fun _ => rfl⟩
  have I1 := I.laid (a := s.heap.objs.size) (o := .own (s.heap.objs.size + 1)) (h' := s.heap.push PySem.W.emptyDict) (t' := s.toks) (fun b u q => Heap.get?_push_of_some _ q) (Nat.le_refl _) ⟨_, e1⟩
  refine I1.laid (a := s.heap.objs.size + 1) (o := .ins C s.heap.objs.size []) (t' := s.toks) (fun b u q => Heap.get?_push_of_some _ q) (Nat.le_of_eq (Heap.size_push _ _)) ?_
  have ne : s.heap.objs.size ≠ s.heap.objs.size + 1 := Nat.ne_of_lt (Nat.lt_succ_self _)
  refine ⟨by rw [upd_ne ne, upd_same], Nat.zero_le _, ne, e2, fun _ => none, (Heap.Ns1.of_empty e3).at fun o q => Heap.get?_push_of_some _ q, fun _ => True.intro, fun y hy => absurd rfl hy⟩

/-- e.f where nothing but the object is asked: through attributeBase (super) and the last hold -/
theorem attr_of {prog : Program} {w : World} {env : Env} {e : Expr} {f : Str} {pos : Pos} {s : Shared} {Q : Value → Shared → Prop} (hb : attributeBase e f env (eval e env) = eval e env)
    (h : wpAny (model prog w) A (eval e env) (fun o s₁ => wpAny (model prog w) A (getAttr o f true) Q E s₁) E s) : wpAny (model prog w) A (eval (.Attribute e f pos) env) Q E s :=
  Attribute_any_ h (by rw [arm_eval_Attribute, hb])
end

/-! ### readings and rules -/
/-- e.f, an attribute of the instance -/
def tFld (K : PySem.W.Frag) (ta : TE) (f : Str) : TE := fun σ H Q => ta σ H fun x H1 => ∃ a C dx fs v, x = .ref a ∧ H1 a = some (.ins C dx fs) ∧ Cls K C ∧ NoAttr K C f ∧ fs.lookup f = some v ∧ Q v H1
/-- e.f, a constant of the class -/
def tCon (K : PySem.W.Frag) (ta : TE) (f : Str) : TE := fun σ H Q => ta σ H fun x H1 => ∃ a C dx fs v u, x = .ref a ∧ H1 a = some (.ins C dx fs) ∧ Cls K C ∧ Con K C f v u ∧ fs.lookup f = none ∧ Q v H1
/-- e.f = value -/
def sFld (K : PySem.W.Frag) (ta tv : TE) (f : Str) : TS := fun D σ H => tv σ H fun y H1 => ta σ H1 fun x H2 => ∃ a C dx fs, x = .ref a ∧ H2 a = some (.ins C dx fs) ∧ Cls K C ∧ NoAttr K C f ∧ fs.length < 1000 ∧
  D.nx σ (upd H2 a (.ins C dx (putF f y fs)))
/-- an augmented operator on two values -/
def InOp (X : Cx) (op : Operator) (rd : V → V → Hp → VK → Prop) : Prop :=
  ∀ (pins : List (Addr × Obj)) (s : Shared) (σ : St) (H : Hp) (x y : V) (u v : Value) (Q : VK), Inv X pins σ H s → RelV x u → RelV y v → rd x y H Q → wpAny (model X.prog X.w) X.A (inplaceOp op u v) (EP X pins σ Q) X.xe s
/-- e.f op= value -/
def sFldAug (K : PySem.W.Frag) (ta tv : TE) (rd : V → V → Hp → VK → Prop) (f : Str) : TS := fun D σ H => ta σ H fun x H1 => ∃ a C dx fs v, x = .ref a ∧ H1 a = some (.ins C dx fs) ∧ Cls K C ∧ NoAttr K C f ∧ fs.lookup f = some v ∧
  tv σ H1 fun y H2 => rd v y H2 fun z H3 => ∃ dx' fs', H3 a = some (.ins C dx' fs') ∧ fs'.length < 1000 ∧ D.nx σ (upd H3 a (.ins C dx' (putF f z fs')))

section
variable {X : Cx} {o e value : Expr} {f : Str} {pos pos' tpos : Pos} {ta tv : TE}
theorem pe_fld (he : PE X e ta) (hb : attributeBase e f X.env (eval e X.env) = eval e X.env) : PE X (.Attribute e f pos) (tFld X.K ta f) := by
  intro pins s σ H Q I h
  refine attr_of hb (thn (he pins s σ H _ I h) fun u s1 ⟨x, H1, I1, rx, a, C, dx, fs, v, ex, ea, c, n, l, q⟩ => ?_)
  subst ex
  obtain rfl : u = Value.ref a := rx
  exact getattr_ok I1 ea c n l fun u' s2 I2 ru => ⟨v, H1, I2, ru, q⟩
theorem pe_con (he : PE X e ta) (hb : attributeBase e f X.env (eval e X.env) = eval e X.env) : PE X (.Attribute e f pos) (tCon X.K ta f) := by
  intro pins s σ H Q I h
  refine attr_of hb (thn (he pins s σ H _ I h) fun u s1 ⟨x, H1, I1, rx, a, C, dx, fs, v, u0, ex, ea, c, k, l, q⟩ => ?_)
  subst ex
  obtain rfl : u = Value.ref a := rx
  exact getcon_ok I1 ea c k l fun s2 I2 => ⟨v, H1, I2, k.rel, q⟩
theorem ps_fld (ha : PE X o ta) (hv : PE X value tv) (hs : swapsWith value (some (.Attribute o f pos')) pos.line X.env = pure false) : PS X (.Assign [.Attribute o f pos'] value pos) (sFld X.K ta tv f) := by
  intro pins s σ H D I h
  refine plainObj_wpAny_Assign_Attribute (thn (hv pins s σ H _ I h) fun u s1 ⟨y, H1, I1, ry, q⟩ => thn (ha pins s1 σ H1 _ I1 q) fun ov s2 ⟨x, H2, I2, rx, a, C, dx, fs, ex, ea, c, n, l, q2⟩ => ?_) hs
  subst ex
  obtain rfl : ov = Value.ref a := rx
  exact setattr_ok I2 ea c n l ry fun s3 I3 => ⟨σ, _, I3, q2⟩
theorem ps_fldaug {op : Operator} {rd : V → V → Hp → VK → Prop} (ha : PE X o ta) (hv : PE X value tv) (hop : InOp X op rd) : PS X (.AugAssign (.Attribute o f tpos) op value pos) (sFldAug X.K ta tv rd f) := by
  intro pins s σ H D I h
  refine wpAny_AugAssign_AttributeAny (thn (ha pins s σ H _ I h) fun ov s1 ⟨x, H1, I1, rx, a, C, dx, fs, v, ex, ea, c, n, l, q⟩ => ?_)
  subst ex
  obtain rfl : ov = Value.ref a := rx
  refine getattr_ok I1 ea c n l fun u s2 I2 ru => thn (hv pins s2 σ H1 _ I2 q) fun w3 s3 ⟨y, H2, I3, ry, q3⟩ => thn (hop pins s3 σ H2 v y u w3 _ I3 ru ry q3) fun w4 s4 ⟨z, H3, I4, rz, dx', fs', ea', l', q4⟩ => ?_
  exact setattr_ok I4 ea' c n l' rz fun s5 I5 => ⟨σ, _, I5, q4⟩
def rAdd : V → V → Hp → VK → Prop := fun x y H Q => ∃ i j, x = .int i ∧ y = .int j ∧ Q (.int (i + j)) H
def rSub : V → V → Hp → VK → Prop := fun x y H Q => ∃ i j, x = .int i ∧ y = .int j ∧ Q (.int (i - j)) H
theorem in_add : InOp X .Add rAdd := by
  rintro pins s σ H x y u v Q I rx ry ⟨i, j, rfl, rfl, q⟩
  obtain ⟨t, rfl⟩ := (show ∃ t, u = Value.int i t from rx)
  obtain ⟨t', rfl⟩ := (show ∃ t', v = Value.int j t' from ry)
  exact PyProof.Rows.iadd_int ⟨.int (i + j), H, I.tok _, ⟨_, rfl⟩, q⟩
theorem in_sub : InOp X .Sub rSub := by
  rintro pins s σ H x y u v Q I rx ry ⟨i, j, rfl, rfl, q⟩
  obtain ⟨t, rfl⟩ := (show ∃ t, u = Value.int i t from rx)
  obtain ⟨t', rfl⟩ := (show ∃ t', v = Value.int j t' from ry)
  exact PyProof.Rows.isub_int ⟨.int (i - j), H, I.tok _, ⟨_, rfl⟩, q⟩

/-- what is between an instance and its method: the tree of a method call -/
theorem methcall_of {pl : Sem Bool} {m : Str} {apos : Pos} {args : List Expr} {pins : List (Addr × Obj)} {s : Shared} {σ : St} {H : Hp} {Q : Value → Shared → Prop} {te : TE} (he : PE X e te) (I : Inv X pins σ H s)
    (h : te σ H fun x H1 => ∃ a C dx fs g, x = .ref a ∧ H1 a = some (.ins C dx fs) ∧ Cls X.K C ∧ Meth X.K C m g ∧ fs.lookup m = none ∧
      ∀ s1, Inv X pins σ H1 s1 → wpAny (model X.prog X.w) X.A (callWith pos (.ref g) [.ref a] (backTo pos (starEach args X.env)) (backToKw pos (keywordEach [] X.env))) Q X.xe s1)
    (ht : eval (.Call (.Attribute e m apos) args [] pos) X.env = (do
      let ov ← eval e X.env
      standAt apos.atName
      let (f, first) ← holding [ov] (getMethod ov m pl)
      callWith pos f first (backTo pos (starEach args X.env)) (backToKw pos (keywordEach [] X.env)))) :
    wpAny (model X.prog X.w) X.A (eval (.Call (.Attribute e m apos) args [] pos) X.env) Q X.xe s := by
  refine PySem.W.methodCall_KW (pl := pl) (thn (he pins s σ H _ I h) fun u s1 ⟨x, H1, I1, rx, a, C, dx, fs, g, ex, ea, c, k, l, q⟩ => ?_) ht
  subst ex
  obtain rfl : u = Value.ref a := rx
  exact getmeth_ok I1 ea c k l (q s1 I1)
end

/-! ### isinstance -/
section
variable {X : Cx} {pins : List (Addr × Obj)} {σ : St} {H : Hp} {s : Shared} {A : Around} {E : Value → Shared → Prop} {Q : Value → Shared → Prop} {c : Value} {b : Bool}
/-- the type of a value, as the fragment's deciders take it; for an instance its class -/
inductive TyOf (K : PySem.W.Frag) (H : Hp) : V → Value → Prop where
  | non : TyOf K H .non (.type "NoneType")
  | bl (x : Bool) : TyOf K H (.bl x) (.type "bool")
  | int (i : Int) : TyOf K H (.int i) (.type "int")
  | str (x : Str) : TyOf K H (.str x) (.type "str")
  | flt (x : UInt64) : TyOf K H (.flt x) (.type "float")
  | lst {a : Addr} {xs : List V} (e : H a = some (.lst xs)) : TyOf K H (.ref a) (.type "list")
  | frz {a : Addr} {o : Obj} {xs : List V} (e : H a = some (.frz o (.lst xs))) : TyOf K H (.ref a) (.type "list")
  | tup {a : Addr} {xs : List V} (e : H a = some (.tup xs)) : TyOf K H (.ref a) (.type "tuple")
  | dK {a : Addr} {kvs : List (Key × V)} (e : H a = some (.dK kvs)) : TyOf K H (.ref a) (.type "dict")
  | dT {a : Addr} {kvs : List (List Key × V)} (e : H a = some (.dT kvs)) : TyOf K H (.ref a) (.type "dict")
  | ins {a C dx : Addr} {fs : List (Str × V)} (e : H a = some (.ins C dx fs)) (cl : Cls K C) (ha : PySem.W.findIn K (.ref C) "__class__" = some (some (.builtin "object.__class__")))
      (hn : PySem.W.specialIn K (.builtin "object.__class__") "__get__" = some (some (.builtin "getset_descriptor.__get__"))) (htk : PySem.W.takesIn K (.builtin "object.__class__") = some true)
      (hm : PySem.W.mroIn K C (.type "object") = some true) : TyOf K H (.ref a) (.ref C)
/-- isinstance(x, c) for one class c, a built-in or an own one: kitOne's answer -/
theorem isinst_ok {x : V} {u t : Value} (I : Inv X pins σ H s) (rx : RelV x u) (ty : TyOf X.K H x t) (e : PySem.W.kitOne X.K t c = some b) (h : ∀ tk, Q (.bool b) { s with toks := tk }) :
    wpAny (model X.prog X.w) A (call (.builtin "isinstance") [u, c]) Q E s := by
  cases ty with
  | non => cases (show u = Value.none from rx); exact PySem.W.kia_one PySem.W.kitx_none I.kIn True.intro e (fun z => nomatch z) h
  | bl y => cases (show u = Value.bool y from rx); exact PySem.W.kia_one PySem.W.kitx_bool I.kIn True.intro e (fun z => nomatch z) h
  | int i => obtain ⟨t, q⟩ := (show ∃ t, u = Value.int i t from rx); cases q; exact PySem.W.kia_one PySem.W.kitx_int I.kIn True.intro e (fun z => nomatch z) h
  | str y => obtain ⟨t, q⟩ := (show ∃ t, u = Value.str y t from rx); cases q; exact PySem.W.kia_one PySem.W.kitx_str I.kIn True.intro e (fun z => nomatch z) h
  | flt y => obtain ⟨t, q⟩ := (show ∃ t, u = Value.float y t from rx); cases q; exact PySem.W.kia_one PySem.W.kitx_float I.kIn True.intro e (fun z => nomatch z) h
  | @lst a xs ea =>
    cases (show u = Value.ref a from rx)
    obtain ⟨_, _, n, _, h1⟩ := (show ObjOk X.prog X.w H s.heap a (.lst xs) from I.hok a _ ea)
    exact PySem.W.kia_one PySem.W.kitx_list I.kIn ⟨_, h1, rfl⟩ e (fun z => nomatch z) h
  | @frz a ob xs ea =>
    cases (show u = Value.ref a from rx)
    obtain ⟨_, _, _, n, _, h1⟩ := (show ObjOk X.prog X.w H s.heap a (.frz ob (.lst xs)) from I.hok a _ ea)
    exact PySem.W.kia_one PySem.W.kitx_list I.kIn ⟨_, h1, rfl⟩ e (fun z => nomatch z) h
  | @tup a xs ea =>
    cases (show u = Value.ref a from rx)
    obtain ⟨_, _, _, p⟩ := (show ObjOk X.prog X.w H s.heap a (.tup xs) from I.hok a _ ea)
    obtain ⟨o, h1, h2, _⟩ := p
    exact PySem.W.kia_one PySem.W.kitx_tuple I.kIn ⟨o, h1, h2⟩ e (fun z => nomatch z) h
  | @dK a kvs ea =>
    cases (show u = Value.ref a from rx)
    obtain ⟨_, _, vs, _, p⟩ := (show ObjOk X.prog X.w H s.heap a (.dK kvs) from I.hok a _ ea)
    obtain ⟨o, es, ep, h1, h2, _⟩ := p
    exact PySem.W.kia_one PySem.W.kitx_dict I.kIn ⟨o, h1, h2.1⟩ e (fun z => nomatch z) h
  | @dT a kvs ea =>
    cases (show u = Value.ref a from rx)
    obtain ⟨_, _, xs, _, o, es, ep, h1, h2, _⟩ := (show ObjOk X.prog X.w H s.heap a (.dT kvs) from I.hok a _ ea)
    exact PySem.W.kia_one PySem.W.kitx_dict I.kIn ⟨o, h1, h2.1⟩ e (fun z => nomatch z) h
  | @ins a C dx fs ea cl ha hn htk hm =>
    cases (show u = Value.ref a from rx)
    obtain ⟨mA, O, _⟩ := ins_get I.hok ea
    obtain ⟨od, J, _⟩ := O.look
    exact PySem.W.kia_one (PySem.W.kitx_own (cl.get _) cl.hd ha hn htk hm) I.kIn J e (fun z => nomatch z) h
end
end L2

namespace L2
open PySem PySem.Spec PyProof.Rows

/-! ### room -/
structure Room (k : Nat) (A : Around) : Prop where
  hd : A.handled = none
  dp : A.depth + 3 * k + 5 < recursionLimit
  un : A.units + 16 * k + 200 < cLine
theorem Room.mono {j k : Nat} {A : Around} (r : Room k A) (h : j ≤ k) : Room j A := ⟨r.hd, by have := r.dp; omega, by have := r.un; omega⟩
theorem Room.deeper {k : Nat} {A : Around} (r : Room (k + 1) A) (env : Env) : Room k (A.deeper env) :=
  ⟨r.hd, by have := r.dp; show A.depth + 1 + 3 * k + 5 < _; omega, by have := r.un; show A.units + 3 + 16 * k + 200 < _; omega⟩
theorem Room.in1 {k : Nat} {A : Around} (r : Room (k + 1) A) : Room k A.in1 :=
  ⟨r.hd, by have := r.dp; show A.depth + 3 * k + 5 < _; omega, by have := r.un; show A.units + 1 + 16 * k + 200 < _; omega⟩
theorem make_depth {A : Around} {C : Addr} {us : List Value} {kw : List (Str × Value)} : (A.under (.builtin "type.__call__" ⟨.ref C :: us, kw⟩)).depth = A.depth + 1 := by
  first | rfl | simp [Around.under, Code.weight, Code.isCreation, Code.isGuard, Code.isCaller, Code.frames, Code.isFrame, guardIds]
theorem make_units {A : Around} {C : Addr} {us : List Value} {kw : List (Str × Value)} : (A.under (.builtin "type.__call__" ⟨.ref C :: us, kw⟩)).units = A.units + 1 := by
  first | rfl | simp [Around.under, Code.cUnits, Code.frames, Code.isFrame]
theorem Room.make {k : Nat} {A : Around} (r : Room (k + 1) A) (C : Addr) (us : List Value) (kw : List (Str × Value)) : Room k (A.under (.builtin "type.__call__" ⟨.ref C :: us, kw⟩)) :=
  ⟨r.hd, by have := r.dp; rw [make_depth]; omega, by have := r.un; rw [make_units]; omega⟩
theorem Room.depth {k : Nat} {A : Around} (r : Room k A) : A.depth < recursionLimit := by have := r.dp; omega
theorem Room.units {k : Nat} {A : Around} (r : Room k A) : A.units + 64 < cLine := by have := r.un; omega
theorem Room.units0 {k : Nat} {A : Around} (r : Room k A) : A.units < cLine := by have := r.un; omega

/-! ### argument lists and displays -/
def tNil : TA := fun _ H Q => Q [] H
def tCons (ta : TE) (tr : TA) : TA := fun σ H Q => ta σ H fun x H1 => tr σ H1 fun xs H2 => Q (x :: xs) H2
section
variable {X : Cx} {e : Expr} {es : List Expr} {te : TE} {t : TA} {pos : Pos}
theorem pa_nil : PA X [] tNil := fun _ _ _ _ H Q I h => Calls.spliced_nil ⟨[], H, I, .nil, h⟩
theorem pa_cons (ha : PE X e te) (hr : PA X es t) (hs : starEach (e :: es) X.env = (false, eval e X.env) :: starEach es X.env := by rfl) : PA X (e :: es) (tCons te t) := by
  intro pos pins s σ H Q I h
  rw [hs]
  show wpAny _ _ (spliced ((false, eval e X.env) :: backTo pos (starEach es X.env))) _ _ s
  refine Calls.spliced_cons (thn (ha pins s σ H _ I h) fun u s1 ⟨x, H1, I1, r1, q1⟩ => ?_)
  exact thn (hr pos pins s1 σ H1 _ I1 q1) fun us s2 ⟨xs, H2, I2, r2, q2⟩ => ⟨x :: xs, H2, I2, .cons r1 r2, q2⟩

/-- a tuple, a list of written items -/
def tTup (t : TA) : TE := fun σ H Q => t σ H fun xs H1 => xs.length ≤ sizeLine ∧ ∀ p, H1 p = none → Q (.ref p) (upd H1 p (.tup xs))
def tLst (t : TA) : TE := fun σ H Q => t σ H fun xs H1 => xs.length ≤ sizeLine ∧ ∀ p, H1 p = none → Q (.ref p) (upd H1 p (.lst xs))
theorem pe_tup {x1} (h : PA X es t) : PE X (.Tuple es x1 pos) (tTup t) := by
  intro pins s σ H Q I hq
  refine wpAny_Tuple_spliced (thn (h pos pins s σ H _ I hq) fun us s1 ⟨xs, H1, I1, r, z, q⟩ => ⟨by rw [← r.length]; exact z, ?_⟩)
  have hf : H1 s1.heap.objs.size = none := I1.hok.fresh (Nat.le_refl _)
  refine ⟨.ref s1.heap.objs.size, upd H1 s1.heap.objs.size (.tup xs), I1.laid (t' := s1.toks) (fun b u e => Heap.get?_push_of_some _ e) (Nat.le_refl _) ?_, rfl, q _ hf⟩
  exact ⟨z, us, r, ⟨_, Heap.get?_push_size _ rfl, rfl, rfl, _, rfl⟩⟩
theorem pe_lst (h : PA X es t) : PE X (.List es pos) (tLst t) := by
  intro pins s σ H Q I hq
  refine wpAny_List_spliced (thn (h pos pins s σ H _ I hq) fun us s1 ⟨xs, H1, I1, r, z, q⟩ => ⟨by rw [← r.length]; exact z, ?_⟩)
  have hf : H1 s1.heap.objs.size = none := I1.hok.fresh (Nat.le_refl _)
  refine ⟨.ref s1.heap.objs.size, upd H1 s1.heap.objs.size (.lst xs), I1.laid (t' := s1.toks) (fun b u e => Heap.get?_push_of_some _ e) (Nat.le_refl _) ?_, rfl, q _ hf⟩
  exact ⟨z, us, 0, r, Heap.get?_push_size _ rfl⟩
end

/-! ### what a def promises -/
/-- a def's promise: the bound arguments in the parameters' order, the heap, the wanted end, the wanted exception -/
abbrev Sp := List V → Hp → VK → XK → Prop
/-- how an exception lies behind a call (file 08 gives it): the callers' frames, abstract heap and state ahead of the call, the wish, the exception, the state -/
abbrev CXT := List Env → Hp → Shared → XK → Value → Shared → Prop

/-- the state at a call -/
structure Env0 (P : Program) (w : World) (K : PySem.W.Frag) (mg : Str → Option Value) (base : Heap) (A : Around) (outer : List Env) (s : Shared) (H : Hp) : Prop where
  frames : A.frames = some outer
  mod : Mod K mg base
  bs : ∀ b o, base.get? b = some o → s.heap.get? b = some o ∧ H b = none
  bsz : base.objs.size ≤ s.heap.objs.size
  funs : s.heap.FunFrames base outer
  frf : ∀ b ∈ frs outer, H b = none
  hok : HOk P w H s.heap
  bare : AllBare s.gens
/-- a call's end -/
def CE (outer : List Env) (P : Program) (w : World) (H : Hp) (s : Shared) (Q : VK) (u : Value) (s' : Shared) : Prop :=
  ∃ v H', s'.os = s.os ∧ AllBare s'.gens ∧ Un (frs outer) [] H H' s.heap s'.heap ∧ HOk P w H' s'.heap ∧ RelV v u ∧ Q v H'
def CR (CX : CXT) (outer : List Env) (P : Program) (w : World) (H : Hp) (s : Shared) (Q : VK) (E : XK) (r : Result) (s' : Shared) : Prop :=
  match r with
  | .ok (.ret u) => CE outer P w H s Q u s'
  | .ok _ => False
  | .error e => CX outer H s E e s'
structure FnOk (P : Program) (w : World) (K : PySem.W.Frag) (mg : Str → Option Value) (base : Heap) (CX : CXT) (k : Nat) (f : Addr) (fd : FuncData) (ps : List Str) (sp : Sp) : Prop where
  len : ∀ vs H Q E, sp vs H Q E → vs.length = ps.length
  run : ∀ (A : Around) (outer : List Env) (s : Shared) (H : Hp) (args : Args) (us : List Value) (vs : List V) (Q : VK) (E : XK), Room k A → Env0 P w K mg base A outer s H → BindsTo s fd args (ps.zip us) → Vals vs us → sp vs H Q E →
    codeAny (model P w) A (.call (.ref f) args) (CR CX outer P w H s Q E) s
theorem FnOk.mono {P : Program} {w : World} {K : PySem.W.Frag} {mg : Str → Option Value} {base : Heap} {CX : CXT} {j k : Nat} {f : Addr} {fd : FuncData} {ps : List Str} {sp : Sp} (F : FnOk P w K mg base CX j f fd ps sp) (h : j ≤ k) :
    FnOk P w K mg base CX k f fd ps sp := ⟨F.len, fun A outer s H args us vs Q E hr => F.run A outer s H args us vs Q E (hr.mono h)⟩
/-- a weaker promise -/
theorem FnOk.imp {P : Program} {w : World} {K : PySem.W.Frag} {mg : Str → Option Value} {base : Heap} {CX : CXT} {k : Nat} {f : Addr} {fd : FuncData} {ps : List Str} {sp sp' : Sp} (F : FnOk P w K mg base CX k f fd ps sp)
    (h : ∀ vs H Q E, sp' vs H Q E → sp vs H Q E) : FnOk P w K mg base CX k f fd ps sp' :=
  ⟨fun vs H Q E q => F.len vs H Q E (h _ _ _ _ q), fun A outer s H args us vs Q E hr he hb hv hs => F.run A outer s H args us vs Q E hr he hb hv (h _ _ _ _ hs)⟩

theorem Env0.make {P : Program} {w : World} {K : PySem.W.Frag} {mg : Str → Option Value} {base : Heap} {A : Around} {outer : List Env} {s : Shared} {H : Hp} (e : Env0 P w K mg base A outer s H) (C : Addr) (us : List Value) (kw : List (Str × Value)) :
    Env0 P w K mg base (A.under (.builtin "type.__call__" ⟨.ref C :: us, kw⟩)) outer s H := ⟨by first | exact e.frames | (simpa [Around.under, Code.envs, Code.isFrame, pushEnvs] using e.frames), e.mod, e.bs, e.bsz, e.funs, e.frf, e.hok, e.bare⟩
theorem Env0.in1 {P : Program} {w : World} {K : PySem.W.Frag} {mg : Str → Option Value} {base : Heap} {A : Around} {outer : List Env} {s : Shared} {H : Hp} (e : Env0 P w K mg base A outer s H) :
    Env0 P w K mg base A.in1 outer s H := ⟨e.frames, e.mod, e.bs, e.bsz, e.funs, e.frf, e.hok, e.bare⟩

section
variable {X : Cx} {pins : List (Addr × Obj)} {σ : St} {H : Hp} {s s' : Shared}
/-- from a body: what a callee wants -/
theorem Inv.env0 (I : Inv X pins σ H s) : Env0 X.prog X.w X.K X.mg X.base X.A X.stack s H :=
  ⟨I.ok.frames, I.ok.mod, I.bs, Nat.le_trans I.ok.bsz I.sz, I.stack, I.stkFree, I.hok, I.bare⟩
/-- behind a call -/
theorem Inv.after {Q : VK} {u : Value} (I : Inv X pins σ H s) (h : CE X.stack X.prog X.w H s Q u s') : EP X pins σ Q u s' := by
  obtain ⟨v, H', os, bare, un, hok, r, q⟩ := h
  obtain ⟨hh, g, d, t, os'⟩ := s'
  obtain rfl : os' = s.os := os
  exact ⟨v, H', I.call (h' := hh) (g' := g) (d' := d) (t' := t) (ch := []) un hok bare (fun b z => absurd z (by simp)), r, q⟩
end

/-! ### calls -/
/-- f(..): the written arguments, then the defaults dvs; E: what is wanted of an exception -/
def tCall (sp : Sp) (dvs : List V) (E : XK) (t : TA) : TE := fun σ H Q => t σ H fun vs H1 => sp (vs ++ dvs) H1 Q E
/-- o.m(..) of an instance of the class at C -/
def tMeth (C : Addr) (m : Str) (sp : Sp) (dvs : List V) (E : XK) (ta : TE) (t : TA) : TE := fun σ H Q => ta σ H fun x H1 => ∃ a dx fs, x = .ref a ∧ H1 a = some (.ins C dx fs) ∧ fs.lookup m = none ∧
  t σ H1 fun vs H2 => sp (x :: (vs ++ dvs)) H2 Q E
/-- C(..): a new instance and its dict, then __init__ -/
def tMake (C : Addr) (sp : Sp) (dvs : List V) (E : XK) (t : TA) : TE := fun σ H Q => t σ H fun vs H1 => ∀ x dx, H1 x = none → H1 dx = none → dx ≠ x →
  sp (.ref x :: (vs ++ dvs)) (upd (upd H1 dx (.own x)) x (.ins C dx [])) (fun v H2 => v = .non ∧ Q (.ref x) H2) E

/-- how the parameters are bound: us the positional arguments, kw the keywords' values by name, ds the defaults that fill up -/
def Binds (K : PySem.W.Frag) (fd : FuncData) (ps : List Str) (ds : List Value) : Prop :=
  ∀ (s : Shared) (us : List Value), K.In s.heap → (us ++ ds).length = ps.length → BindsTo s fd ⟨us, []⟩ (ps.zip (us ++ ds))
/-- every parameter is given -/
theorem Binds.all {K : PySem.W.Frag} {fd : FuncData} {ps : List Str} (h : ∀ us : List Value, us.length = ps.length → bindArgs fd ⟨us, []⟩ = pure (ps.zip us)) : Binds K fd ps [] := fun s us _ hl => by
  rw [List.append_nil] at hl ⊢
  exact .of_eq (h us hl)

/-- an exception of a callee reaches what this body wants of exceptions -/
def Passes (CX : CXT) (X : Cx) (E : XK) : Prop := ∀ (pins : List (Addr × Obj)) (σ : St) (H : Hp) (s : Shared) (e : Value) (s' : Shared), Inv X pins σ H s → CX X.stack H s E e s' → X.xe e s'

section
variable {X : Cx} {CX : CXT} {k : Nat} {f C : Addr} {fd : FuncData} {ps : List Str} {sp : Sp} {dvs : List V} {ds : List Value} {E : XK} {x m : Str} {p pos apos : Pos} {e o : Expr} {es : List Expr} {ta : TE} {t : TA}

/-- the callee runs -/
theorem run_fn {pins : List (Addr × Obj)} {σ : St} {H : Hp} {s : Shared} {Q : VK} {us : List Value} {vs : List V} (F : FnOk X.prog X.w X.K X.mg X.base CX k f fd ps sp) (hr : Room k X.A) (hb : Binds X.K fd ps ds) (hd : Vals dvs ds) (hx : Passes CX X E)
    (I : Inv X pins σ H s) (r : Vals vs us) (h : sp (vs ++ dvs) H Q E) : wpAny (model X.prog X.w) X.A (call (.ref f) us) (EP X pins σ Q) X.xe s := by
  have r2 : Vals (vs ++ dvs) (us ++ ds) := r.append hd
  have hl : (us ++ ds).length = ps.length := by rw [← r2.length]; exact F.len _ _ _ _ h
  refine wpAny_call (codeAny_mono (F.run X.A X.stack s H ⟨us, []⟩ (us ++ ds) (vs ++ dvs) Q E hr I.env0 (hb s us I.kIn hl) r2 h) fun r s' hq => ?_)
  cases r with
  | error e => exact hx pins σ H s e s' I hq
  | ok fl =>
    cases fl with
    | ret u => exact I.after hq
    | next => exact False.elim hq
    | brk => exact False.elim hq
    | cont => exact False.elim hq

theorem pe_call (F : FnOk X.prog X.w X.K X.mg X.base CX k f fd ps sp) (hr : Room k X.A) (hg : Gl X x) (hm : X.mg x = some (.ref f)) (hk : PySem.W.keepIn X.K (.ref f) = true) (hb : Binds X.K fd ps ds) (hd : Vals dvs ds) (hx : Passes CX X E)
    (ha : PA X (e :: es) t) (hdb : (x == ("__debug__" : Str)) = false := by decide) (he : starEach (e :: es) X.env = (false, eval e X.env) :: starEach es X.env := by rfl) (hpl : (backTo pos (starEach es X.env)).any (·.1) = false := by rfl) :
    PE X (.Call (.Name x p) (e :: es) [] pos) (tCall sp dvs E t) := by
  intro pins s σ H Q I h
  refine wpAny_Call_Name_kw (ld_glob I hg hm ?_ hdb)
  refine PySem.W.callWith_K (h₀ := X.base) I.ok.mod.kin hk (thn (ha pos pins s σ H _ I h) fun us s1 ⟨vs, H1, I1, r, q⟩ => ⟨I1.kIn, ?_⟩) he hpl
  exact run_fn F hr hb hd hx I1 r q
theorem pe_call0 (F : FnOk X.prog X.w X.K X.mg X.base CX k f fd ps sp) (hr : Room k X.A) (hg : Gl X x) (hm : X.mg x = some (.ref f)) (hk : PySem.W.keepIn X.K (.ref f) = true) (hb : Binds X.K fd ps ds) (hd : Vals dvs ds) (hx : Passes CX X E)
    (hdb : (x == ("__debug__" : Str)) = false := by decide) : PE X (.Call (.Name x p) [] [] pos) (tCall sp dvs E tNil) := by
  intro pins s σ H Q I h
  refine wpAny_Call_Name_kw (ld_glob I hg hm ?_ hdb)
  exact PySem.W.callWith_K0 I.kIn hk (run_fn (us := []) F hr hb hd hx I .nil h)

/-- o.m(e, ..) -/
theorem pe_meth {pl : Sem Bool} (he : PE X o ta) (c : Cls X.K C) (hm : Meth X.K C m f) (F : FnOk X.prog X.w X.K X.mg X.base CX k f fd ps sp) (hr : Room k X.A) (hb : Binds X.K fd ps ds) (hd : Vals dvs ds) (hx : Passes CX X E) (ha : PA X (e :: es) t)
    (hst : starEach (e :: es) X.env = (false, eval e X.env) :: starEach es X.env := by rfl) (hpl : (backTo pos (starEach es X.env)).any (·.1) = false := by rfl)
    (ht : eval (.Call (.Attribute o m apos) (e :: es) [] pos) X.env = (do
      let ov ← eval o X.env
      standAt apos.atName
      let (f, first) ← holding [ov] (getMethod ov m pl)
      callWith pos f first (backTo pos (starEach (e :: es) X.env)) (backToKw pos (keywordEach [] X.env))) := by rfl) :
    PE X (.Call (.Attribute o m apos) (e :: es) [] pos) (tMeth C m sp dvs E ta t) := by
  intro pins s σ H Q I h
  refine PySem.W.methodCall_KW (pl := pl) (thn (he pins s σ H _ I h) fun u s1 ⟨x, H1, I1, rx, a, dx, fs, ex, ea, l, q⟩ => ?_) ht
  subst ex
  obtain rfl : u = Value.ref a := rx
  refine getmeth_ok I1 ea c hm l ?_
  refine PySem.W.callWith_K (first := [.ref a]) (h₀ := X.base) I.ok.mod.kin hm.kp (thn (ha pos pins s1 σ H1 _ I1 q) fun us s2 ⟨vs, H2, I2, r, q2⟩ => ⟨I2.kIn, ?_⟩) hst hpl
  exact run_fn (us := .ref a :: us) (vs := .ref a :: vs) F hr hb hd hx I2 (.cons rfl r) q2
/-- o.m() -/
theorem pe_meth0 {pl : Sem Bool} (he : PE X o ta) (c : Cls X.K C) (hm : Meth X.K C m f) (F : FnOk X.prog X.w X.K X.mg X.base CX k f fd ps sp) (hr : Room k X.A) (hb : Binds X.K fd ps ds) (hd : Vals dvs ds) (hx : Passes CX X E)
    (ht : eval (.Call (.Attribute o m apos) [] [] pos) X.env = (do
      let ov ← eval o X.env
      standAt apos.atName
      let (f, first) ← holding [ov] (getMethod ov m pl)
      callWith pos f first (backTo pos (starEach [] X.env)) (backToKw pos (keywordEach [] X.env))) := by rfl) :
    PE X (.Call (.Attribute o m apos) [] [] pos) (tMeth C m sp dvs E ta tNil) := by
  intro pins s σ H Q I h
  refine PySem.W.methodCall_KW (pl := pl) (thn (he pins s σ H _ I h) fun u s1 ⟨x, H1, I1, rx, a, dx, fs, ex, ea, l, q⟩ => ?_) ht
  subst ex
  obtain rfl : u = Value.ref a := rx
  refine getmeth_ok I1 ea c hm l ?_
  exact PySem.W.callWith_K0 (first := [.ref a]) I1.kIn hm.kp (run_fn (us := [.ref a]) (vs := [.ref a]) F hr hb hd hx I1 (.cons rfl .nil) q)

/-- what a class must have to be made -/
structure Mk (K : PySem.W.Frag) (C f : Addr) : Prop where
  makes : PySem.W.makesIn K C = true
  init : PySem.W.findIn K (.ref C) "__init__" = some (some (.ref f))
  fn : PySem.W.isFn K (.ref f) = true
  kp : PySem.W.keepIn K (.ref C) = true

theorem run_make {pins : List (Addr × Obj)} {σ : St} {H : Hp} {s : Shared} {Q : VK} {us : List Value} {vs : List V} (M : Mk X.K C f) (F : FnOk X.prog X.w X.K X.mg X.base CX k f fd ps sp) (hr : Room (k + 1) X.A) (hb : Binds X.K fd ps ds) (hd : Vals dvs ds)
    (hx : Passes CX X E) (I : Inv X pins σ H s) (r : Vals vs us)
    (h : ∀ x dx, H x = none → H dx = none → dx ≠ x → sp (.ref x :: (vs ++ dvs)) (upd (upd H dx (.own x)) x (.ins C dx [])) (fun v H2 => v = .non ∧ Q (.ref x) H2) E) :
    wpAny (model X.prog X.w) X.A (call (.ref C) us) (EP X pins σ Q) X.xe s := by
  have hq := h (s.heap.objs.size + 1) s.heap.objs.size (I.hok.fresh (Nat.le_succ _)) (I.hok.fresh (Nat.le_refl _)) (Nat.ne_of_lt (Nat.lt_succ_self _))
  have I2 := Inv.made (C := C) I
  have r2 : Vals (V.ref (s.heap.objs.size + 1) :: (vs ++ dvs)) (Value.ref (s.heap.objs.size + 1) :: (us ++ ds)) := .cons rfl (r.append hd)
  have hl : (Value.ref (s.heap.objs.size + 1) :: us ++ ds).length = ps.length := by
    have e := r2.length
    rw [F.len _ _ _ _ hq] at e
    exact e.symm
  refine wpAny_call (make_map (f := f) I.kIn M.makes M.init (beq_iff_eq.mp M.fn) (codeAny_mono (F.run _ X.stack _ _ ⟨Value.ref (s.heap.objs.size + 1) :: us, []⟩ (Value.ref (s.heap.objs.size + 1) :: (us ++ ds)) _ _ E (hr.make C us [])
    (I2.env0.make C us []) (hb _ (Value.ref (s.heap.objs.size + 1) :: us) I2.kIn hl) r2 hq) fun r s' hq' => ?_))
  cases r with
  | error e => exact hx pins σ _ _ e s' I2 hq'
  | ok fl =>
    cases fl with
    | ret u =>
      obtain ⟨v, H', I3, rv, ev, q3⟩ := I2.after hq'
      subst ev
      exact ⟨rv, ⟨V.ref (s.heap.objs.size + 1), H', I3, rfl, q3⟩⟩
    | next => exact False.elim hq'
    | brk => exact False.elim hq'
    | cont => exact False.elim hq'
theorem pe_make (M : Mk X.K C f) (F : FnOk X.prog X.w X.K X.mg X.base CX k f fd ps sp) (hr : Room (k + 1) X.A) (hg : Gl X x) (hm : X.mg x = some (.ref C)) (hb : Binds X.K fd ps ds) (hd : Vals dvs ds) (hx : Passes CX X E)
    (ha : PA X (e :: es) t) (hdb : (x == ("__debug__" : Str)) = false := by decide) (he : starEach (e :: es) X.env = (false, eval e X.env) :: starEach es X.env := by rfl) (hpl : (backTo pos (starEach es X.env)).any (·.1) = false := by rfl) :
    PE X (.Call (.Name x p) (e :: es) [] pos) (tMake C sp dvs E t) := by
  intro pins s σ H Q I h
  refine wpAny_Call_Name_kw (ld_glob I hg hm ?_ hdb)
  refine PySem.W.callWith_K (h₀ := X.base) I.ok.mod.kin M.kp (thn (ha pos pins s σ H _ I h) fun us s1 ⟨vs, H1, I1, r, q⟩ => ⟨I1.kIn, ?_⟩) he hpl
  exact run_make M F hr hb hd hx I1 r q
theorem pe_make0 (M : Mk X.K C f) (F : FnOk X.prog X.w X.K X.mg X.base CX k f fd ps sp) (hr : Room (k + 1) X.A) (hg : Gl X x) (hm : X.mg x = some (.ref C)) (hb : Binds X.K fd ps ds) (hd : Vals dvs ds) (hx : Passes CX X E)
    (hdb : (x == ("__debug__" : Str)) = false := by decide) : PE X (.Call (.Name x p) [] [] pos) (tMake C sp dvs E tNil) := by
  intro pins s σ H Q I h
  refine wpAny_Call_Name_kw (ld_glob I hg hm ?_ hdb)
  exact PySem.W.callWith_K0 I.kIn M.kp (run_make (us := []) M F hr hb hd hx I .nil h)
end

/-! ### keywords -/
/-- the values of the keywords, from the left -/
def PK (X : Cx) (kws : List Keyword) (t : TA) : Prop :=
  ∀ (pos : Pos) (pins : List (Addr × Obj)) (s : Shared) (σ : St) (H : Hp) (Q : List V → Hp → Prop), Inv X pins σ H s → t σ H Q → wpAny (model X.prog X.w) X.A (evalAll ((backToKw pos (keywordEach kws X.env)).map (·.2))) (AP X pins σ Q) X.xe s
section
variable {X : Cx} {CX : CXT} {k : Nat} {f C : Addr} {fd : FuncData} {ps ks : List Str} {sp : Sp} {E : XK} {x m : Str} {p pos apos kpos : Pos} {e o : Expr} {es : List Expr} {kws : List Keyword} {te ta : TE} {t tk : TA} {nm : Option Str}
theorem pk_nil : PK X [] tNil := fun _ _ _ _ H Q I h => wpAny_evalAll_nil ⟨[], H, I, .nil, h⟩
theorem pk_cons (ha : PE X e te) (hr : PK X kws t) : PK X (⟨nm, e, kpos⟩ :: kws) (tCons te t) := by
  intro pos pins s σ H Q I h
  show wpAny _ _ (evalAll ((do let v ← eval e X.env; standAt pos; pure v) :: (backToKw pos (keywordEach kws X.env)).map (·.2))) _ _ s
  refine wpAny_evalAll_cons (wpAny_bind (thn (ha pins s σ H _ I h) fun u s1 ⟨x, H1, I1, r1, q1⟩ => wpAny_bind (wpAny_standAt (wpAny_pure ?_))))
  exact thn (hr pos pins s1 σ H1 _ I1 q1) fun us s2 ⟨xs, H2, I2, r2, q2⟩ => ⟨x :: xs, H2, I2, .cons r1 r2, q2⟩

/-- how a call with keywords binds: g puts the positional values us and the keywords' values ws (names ks) in the parameters' order, defaults among them -/
structure KBinds (K : PySem.W.Frag) (fd : FuncData) (ps ks : List Str) (g : List Value → List Value → List Value) (gV : List V → List V → List V) : Prop where
  to : ∀ (s : Shared) (us ws : List Value), K.In s.heap → (g us ws).length = ps.length → BindsTo s fd ⟨us, ks.zip ws⟩ (ps.zip (g us ws))
  rel : ∀ {vs : List V} {us : List Value} {zs : List V} {ws : List Value}, Vals vs us → Vals zs ws → Vals (gV vs zs) (g us ws)
def tCallK (sp : Sp) (gV : List V → List V → List V) (E : XK) (t tk : TA) : TE := fun σ H Q => t σ H fun vs H1 => tk σ H1 fun zs H2 => sp (gV vs zs) H2 Q E
variable {g : List Value → List Value → List Value} {gV : List V → List V → List V}
theorem run_fnk {pins : List (Addr × Obj)} {σ : St} {H : Hp} {s : Shared} {Q : VK} {us ws : List Value} {vs zs : List V} (F : FnOk X.prog X.w X.K X.mg X.base CX k f fd ps sp) (hr : Room k X.A) (hb : KBinds X.K fd ps ks g gV) (hx : Passes CX X E)
    (I : Inv X pins σ H s) (r : Vals vs us) (rz : Vals zs ws) (h : sp (gV vs zs) H Q E) : wpAny (model X.prog X.w) X.A (call (.ref f) us (ks.zip ws)) (EP X pins σ Q) X.xe s := by
  have r2 := hb.rel r rz
  have hl : (g us ws).length = ps.length := by rw [← r2.length]; exact F.len _ _ _ _ h
  refine wpAny_call (codeAny_mono (F.run X.A X.stack s H ⟨us, ks.zip ws⟩ (g us ws) (gV vs zs) Q E hr I.env0 (hb.to s us ws I.kIn hl) r2 h) fun r s' hq => ?_)
  cases r with
  | error e => exact hx pins σ H s e s' I hq
  | ok fl =>
    cases fl with
    | ret u => exact I.after hq
    | next => exact False.elim hq
    | brk => exact False.elim hq
    | cont => exact False.elim hq
/-- f(e, .., k = v, ..) -/
theorem pe_callK (F : FnOk X.prog X.w X.K X.mg X.base CX k f fd ps sp) (hr : Room k X.A) (hg : Gl X x) (hm : X.mg x = some (.ref f)) (hk : PySem.W.keepIn X.K (.ref f) = true) (hb : KBinds X.K fd ps ks g gV) (hx : Passes CX X E)
    (ha : PA X (e :: es) t) (hkw : PK X kws tk) (hall : (backToKw pos (keywordEach kws X.env)).all (·.1.isSome) = true := by rfl) (hks : (backToKw pos (keywordEach kws X.env)).filterMap (·.1) = ks := by rfl)
    (hdb : (x == ("__debug__" : Str)) = false := by decide) (he : starEach (e :: es) X.env = (false, eval e X.env) :: starEach es X.env := by rfl)
    (hpl : ((backTo pos (starEach (e :: es) X.env)).any (·.1) || (backToKw pos (keywordEach kws X.env)).any (·.1.isNone)) = false := by rfl) :
    PE X (.Call (.Name x p) (e :: es) kws pos) (tCallK sp gV E t tk) := by
  intro pins s σ H Q I h
  refine wpAny_Call_Name_kw (ld_glob I hg hm ?_ hdb)
  refine PySem.W.callWith_KW (h₀ := X.base) I.ok.mod.kin hk hall (thn (ha pos pins s σ H _ I h) fun us s1 ⟨vs, H1, I1, r, q⟩ => ?_) hpl he
  refine thn (hkw pos pins s1 σ H1 _ I1 q) fun ws s2 ⟨zs, H2, I2, rz, q2⟩ => ⟨I2.kIn, ?_⟩
  rw [hks]
  exact run_fnk F hr hb hx I2 r rz q2
end

/-! ### a def's body keeps its promise -/
/-- names: the parameters first -/
structure FnScope (N P : List Str) (sc : Scope) : Prop where
  kind : sc.kind = .function
  co : sc.isCoroutine = false
  gen : sc.isGenerator = false
  nd : N.Nodup
  pre : N.take P.length = P
  par : ∀ x ∈ P, sc.names.lookup x = some .local ∨ sc.names.lookup x = some .cell
  nofree : ∀ y ∈ sc.names, y.2 ≠ .free

theorem bindL_out {kindOf : Str → Option NameKind} {x : Str} : ∀ {binds : List (Str × Value)} {m : Str → Option Value}, (∀ v, (x, v) ∉ binds) → bindL kindOf binds m x = m x
  | [], _, _ => rfl
  | (n, v) :: r, m, h => by
    unfold bindL
    rw [bindL_out fun w hw => h w (List.mem_cons_of_mem _ hw)]
    split
    · have : x ≠ n := by rintro rfl; exact h v List.mem_cons_self
      simp [this]
    · rfl
theorem bindC_out {kindOf : Str → Option NameKind} {x : Str} : ∀ {binds : List (Str × Value)} {m : Str → Option Value}, (∀ v, (x, v) ∉ binds) → bindC kindOf binds m x = m x
  | [], _, _ => rfl
  | (n, v) :: r, m, h => by
    unfold bindC
    rw [bindC_out fun w hw => h w (List.mem_cons_of_mem _ hw)]
    split
    · rfl
    · have : x ≠ n := by rintro rfl; exact h v List.mem_cons_self
      simp [this]
theorem bindL_get {kindOf : Str → Option NameKind} {x : Str} {v : Value} : ∀ {P : List Str} {vs : List Value} {i : Nat} {m : Str → Option Value}, P.Nodup → P[i]? = some x → vs[i]? = some v → kindOf x = some .local →
    bindL kindOf (P.zip vs) m x = some v
  | [], _, _, _, _, h, _, _ => by simp at h
  | _ :: _, [], _, _, _, _, h, _ => by simp at h
  | p :: P, w :: vs, 0, m, nd, h1, h2, hk => by
    simp at h1 h2; subst h1; subst h2
    show bindL kindOf ((p, w) :: P.zip vs) m p = _
    unfold bindL
    rw [bindL_out fun v hv => (List.nodup_cons.mp nd).1 (List.of_mem_zip hv).1, if_pos hk]
    simp
  | p :: P, w :: vs, i + 1, m, nd, h1, h2, hk => by
    show bindL kindOf ((p, w) :: P.zip vs) m x = _
    unfold bindL
    exact bindL_get (i := i) (List.nodup_cons.mp nd).2 (by simpa using h1) (by simpa using h2) hk
theorem bindC_get {kindOf : Str → Option NameKind} {x : Str} {v : Value} : ∀ {P : List Str} {vs : List Value} {i : Nat} {m : Str → Option Value}, P.Nodup → P[i]? = some x → vs[i]? = some v → kindOf x ≠ some .local →
    bindC kindOf (P.zip vs) m x = some v
  | [], _, _, _, _, h, _, _ => by simp at h
  | _ :: _, [], _, _, _, _, h, _ => by simp at h
  | p :: P, w :: vs, 0, m, nd, h1, h2, hk => by
    simp at h1 h2; subst h1; subst h2
    show bindC kindOf ((p, w) :: P.zip vs) m p = _
    unfold bindC
    rw [bindC_out fun v hv => (List.nodup_cons.mp nd).1 (List.of_mem_zip hv).1, if_neg hk]
    simp
  | p :: P, w :: vs, i + 1, m, nd, h1, h2, hk => by
    show bindC kindOf ((p, w) :: P.zip vs) m x = _
    unfold bindC
    exact bindC_get (i := i) (List.nodup_cons.mp nd).2 (by simpa using h1) (by simpa using h2) hk

/-- the names' values at the entry -/
def start (N : List Str) (vs : List V) : St := vs.map some ++ List.replicate (N.length - vs.length) none

/-- the context of a def's body, at its entry; an exception leaves the frame, then lies as CX says -/
def cxOf (CX : CXT) (P : Program) (w : World) (K : PySem.W.Frag) (mg : Str → Option Value) (base : Heap) (N : List Str) (qual : Str) (scope : Scope) (f : Addr) (cd : Value) (A : Around) (outer : List Env) (s : Shared) (H : Hp) (E : XK) : Cx where
  prog := P
  w := w
  K := K
  mg := mg
  base := base
  A := A.deeper (envOfC qual scope s.heap.objs.size f cd)
  N := N
  s₀ := s
  H₀ := H
  env := envOfC qual scope s.heap.objs.size f cd
  outer := outer
  stack := envOfC qual scope s.heap.objs.size f cd :: outer
  ex := []
  calm := true
  fn := fun _ => true
  pn := []
  xe := fun e s' => wpAny (model P w) (A.deeper (envOfC qual scope s.heap.objs.size f cd)) (leaving (envOfC qual scope s.heap.objs.size f cd) e) (fun _ s'' => CX outer H s E e s'') (fun e' s'' => CX outer H s E e' s'') s'

theorem cell_has {sc : Scope} {n : Nat} {x : Str} (h : sc.names.lookup x = some .cell) : ∃ c, (cellsFrom n sc.names []).lookup x = some c := by
  have q := PySem.W.cellsFrom_some sc.names n [] (.inl h)
  exact Option.isSome_iff_exists.mp q

theorem inv_start {CX : CXT} {P : Program} {w : World} {K : PySem.W.Frag} {mg : Str → Option Value} {base : Heap} {N ps : List Str} {qual : Str} {scope : Scope} {f : Addr} {cd : Value} {A : Around} {outer : List Env} {s s1 : Shared} {H : Hp} {E : XK} {us : List Value} {vs : List V}
    (S : FnScope N ps scope) (hd : A.handled = none) (e0 : Env0 P w K mg base A outer s H) (hl : vs.length = ps.length) (r : Vals vs us)
    (x : InCallC s s.heap.objs.size (bindL (envOfC qual scope s.heap.objs.size f cd).kindOf (ps.zip us) fun _ => none) (cellsFrom (s.heap.objs.size + 1) scope.names []) (bindC (envOfC qual scope s.heap.objs.size f cd).kindOf (ps.zip us) fun _ => none) s1) :
    Inv (cxOf CX P w K mg base N qual scope f cd A outer s H E) [] (start N vs) H s1 := by
  have hpl : ps.length ≤ N.length := by have := congrArg List.length S.pre; rw [List.length_take] at this; omega
  obtain ⟨h1, tk, rfl, hk⟩ := x.done
  have noA : ∀ b : Addr, b ∉ (cxOf CX P w K mg base N qual scope f cd A outer s H E).ex := fun b z => absurd (show b ∈ ([] : List Addr) from z) (by simp)
  refine ⟨⟨e0.mod, S.kind, rfl, rfl, Nat.le_refl _, fun y z c h1 h2 => ?_, fun y hy => ?_, fun y c _ h => ?_, fun _ => hd, Around.frames_deeper e0.frames, .inr ⟨rfl, rfl⟩, fun b z => absurd z (noA b), e0.bs, e0.bsz, fun b _ _ => noA b, fun b z => absurd z (noA b), e0.funs, e0.frf⟩,
    rfl, e0.bare, Un.kept hk, ⟨_, x.toInCall.ns, fun i y v h1 h2 h3 => ?_⟩, fun y c h => ⟨_, x.cell y c h⟩, e0.hok.fresh (Nat.le_refl _), fun y c h => ?_, fun p hp => absurd (show p ∈ ([] : List (Addr × Obj)) from hp) (by simp), e0.hok.kept hk, ?_⟩
  · exact name_of_addr x.apart (PySem.mem_of_lookup h1) (PySem.mem_of_lookup h2)
  · have hy : scope.names.lookup y = some .cell ∨ scope.names.lookup y = some .free := hy
    rcases hy with hy | hy
    · exact cell_has hy
    · exact absurd rfl (S.nofree _ (PySem.mem_of_lookup hy))
  · exact Nat.le_of_lt (x.above y c (PySem.mem_of_lookup h))
  · have hi : i < vs.length := by
      unfold start at h2
      by_cases hi : i < vs.length
      · exact hi
      · rw [List.getElem?_append_right (by simpa using hi)] at h2
        rw [List.getElem?_replicate] at h2
        split at h2 <;> cases h2
    have ha : vs[i]? = some v := by
      unfold start at h2
      rw [List.getElem?_append_left (by simpa using hi), List.getElem?_map] at h2
      cases e : vs[i]? with
      | none => rw [e] at h2; cases h2
      | some a => rw [e] at h2; cases h2; rfl
    obtain ⟨u, hu, rv⟩ := r.get ha
    have hp : ps[i]? = some y := by
      rw [← S.pre, List.getElem?_take_of_lt (by omega)]; exact h1
    have ndP : ps.Nodup := by rw [← S.pre]; exact S.nd.sublist (List.take_sublist _ _)
    refine ⟨u, rv, ?_⟩
    rcases S.par y (List.mem_of_getElem? hp) with k | k
    · exact .inl ⟨k, bindL_get ndP hp hu k⟩
    · obtain ⟨c, e⟩ := cell_has (n := s.heap.objs.size + 1) k
      refine .inr ⟨.inl k, c, e, ?_⟩
      have q := x.cell y c e
      rw [bindC_get ndP hp hu (by show scope.names.lookup y ≠ _; rw [k]; decide)] at q
      exact q
  · exact e0.hok.fresh (Nat.le_of_lt (x.above y c (PySem.mem_of_lookup h)))
  · unfold start
    show _ = N.length
    rw [List.length_append, List.length_map, List.length_replicate]
    omega

/-- THE RULE: a def (or a method) of the text, by its body. The body's reading t is chosen for each entry; it is run at the parameters' values -/
theorem fn_of {CX : CXT} {P : Program} {w : World} {K : PySem.W.Frag} {mg : Str → Option Value} {base : Heap} {k : Nat} {f : Addr} {name qual : Str} {params : Arguments} {body : List Stmt} {scope : Scope} {dV kV doc pm cdv ct oc : Value} {an od : Option Addr}
    {osl : Array (Option Value)} {N ps : List Str} {sp : Sp} (lk : K.lookup f = some ⟨oc, od, .func (PySem.W.fnOf name qual params body scope dV kV doc pm an cdv ct), osl⟩) (hcd : PySem.W.codeIn K cdv qual = true) (S : FnScope N ps scope)
    (len : ∀ vs H Q E, sp vs H Q E → vs.length = ps.length)
    (hbody : ∀ (A : Around) (outer : List Env) (s : Shared) (H : Hp) (vs : List V) (Q : VK) (E : XK), Room k (A.deeper (envOfC qual scope s.heap.objs.size f cdv)) → sp vs H Q E →
      ∃ t, PSs (cxOf CX P w K mg base N qual scope f cdv A outer s H E) body t ∧ t { nx := fun _ H' => Q .non H', rt := Q } (start N vs) H) :
    FnOk P w K mg base CX (k + 1) f (PySem.W.fnOf name qual params body scope dV kV doc pm an cdv ct) ps sp := by
  refine ⟨len, fun A outer s H args us vs Q E hr e0 hb r hsp => ?_⟩
  have hl := len _ _ _ _ hsp
  have KX : K.In s.heap := e0.mod.kin.keeps fun b o e => (e0.bs b o e).1
  have lim : s.heap.NoLimit := e0.mod.nolimit.keeps fun b o e => (e0.bs b o e).1
  have hkind : ∀ y ∈ ps.zip us, scope.names.lookup y.1 = some .local ∨ (scope.names.lookup y.1 = some .cell ∧ ((cellsFrom (s.heap.objs.size + 1) scope.names []).lookup y.1).isSome = true) := fun ⟨n, v⟩ hy => by
    rcases S.par n (List.of_mem_zip hy).1 with q | q
    · exact .inl q
    · exact .inr ⟨q, PySem.W.cellsFrom_some _ _ _ (.inl q)⟩
  refine codeAny_call_function hr.depth (KX _ _ lk) rfl S.co S.gen rfl (PySem.W.codeRec_of KX hcd) (hb _ _ _ _ ?_)
  refine wpAny_newFunctionEnv_cells S.kind hkind fun env he s1 x => ?_
  subst he
  refine ⟨lim.keeps x.toInCall.keep, codeAny_func ?_⟩
  obtain ⟨t, ht, hq⟩ := hbody A outer s H vs Q E (hr.deeper _) hsp
  have I : Inv (cxOf CX P w K mg base N qual scope f cdv A outer s H E) [] (start N vs) H s1 := inv_start S hr.hd e0 hl r x
  refine wpAny_mono (ht [] s1 (start N vs) H _ I hq) (fun fl s' hs => ?_) fun e s' hs => hs
  have fin : ∀ {σ' : St} {H' : Hp} {v : V} {u : Value}, Inv (cxOf CX P w K mg base N qual scope f cdv A outer s H E) [] σ' H' s' → RelV v u → Q v H' → CE outer P w H s Q u s' :=
    fun {σ' H' v u} J rv q => ⟨v, H', J.os, J.bare, J.base, J.hok, rv, q⟩
  cases fl with
  | ret u =>
    obtain ⟨v, σ', H', J, rv, q⟩ := hs
    exact fin J rv q
  | next =>
    obtain ⟨σ', H', J, q⟩ := hs
    exact fin (v := V.non) (u := Value.none) J rfl q
  | brk =>
    obtain ⟨_, _, _, q⟩ := hs
    exact False.elim q
  | cont =>
    obtain ⟨_, _, _, q⟩ := hs
    exact False.elim q
end L2

namespace L2
open PySem PySem.Spec PyProof.Rows
section
variable {X : Cx} {x : Str} {p pos : Pos} {e : Expr} {es : List Expr} {t : TA} {id T : String} {r : List V → Hp → VK → Prop}

def tCB (r : List V → Hp → VK → Prop) (t : TA) : TE := fun σ H Q => t σ H fun vs H1 => r vs H1 Q
/-- f(e, ..), f a built-in function -/
theorem pe_callB (hc : CallR X (.builtin id) r) (hg : Gl X x) (hm : X.mg x = none) (hv : bootBuiltins x = some (.builtin id)) (ha : PA X (e :: es) t) (hn : x ≠ "__name__" := by decide) (hdb : (x == ("__debug__" : Str)) = false := by decide)
    (he : starEach (e :: es) X.env = (false, eval e X.env) :: starEach es X.env := by rfl) (hpl : (backTo pos (starEach es X.env)).any (·.1) = false := by rfl) : PE X (.Call (.Name x p) (e :: es) [] pos) (tCB r t) := by
  intro pins s σ H Q I h
  refine wpAny_Call_Name_kw (ld_blt I hg hm hv ?_ hn hdb)
  exact PyProof.Rows.callWith_builtin1 (thn (ha pos pins s σ H _ I h) fun us s1 ⟨vs, H1, I1, r1, q1⟩ => hc pins s1 σ H1 vs us Q I1 r1 q1) he hpl
/-- T(e, ..), T a built-in type -/
theorem pe_callTy (hc : CallR X (.type T) r) (hg : Gl X x) (hm : X.mg x = none) (hv : bootBuiltins x = some (.type T)) (ha : PA X (e :: es) t) (hn : x ≠ "__name__" := by decide) (hdb : (x == ("__debug__" : Str)) = false := by decide)
    (he : starEach (e :: es) X.env = (false, eval e X.env) :: starEach es X.env := by rfl) (hpl : (backTo pos (starEach es X.env)).any (·.1) = false := by rfl) : PE X (.Call (.Name x p) (e :: es) [] pos) (tCB r t) := by
  intro pins s σ H Q I h
  refine wpAny_Call_Name_kw (ld_blt I hg hm hv ?_ hn hdb)
  exact PyProof.Rows.callWith_type1 (thn (ha pos pins s σ H _ I h) fun us s1 ⟨vs, H1, I1, r1, q1⟩ => hc pins s1 σ H1 vs us Q I1 r1 q1) he hpl
/-- T() -/
theorem pe_callTy0 (hc : CallR X (.type T) r) (hg : Gl X x) (hm : X.mg x = none) (hv : bootBuiltins x = some (.type T)) (hn : x ≠ "__name__" := by decide) (hdb : (x == ("__debug__" : Str)) = false := by decide) :
    PE X (.Call (.Name x p) [] [] pos) (tCB r tNil) := by
  intro pins s σ H Q I h
  refine wpAny_Call_Name_kw (ld_blt I hg hm hv ?_ hn hdb)
  exact PyProof.Rows.callWith_type0 (hc pins s σ H [] [] Q I .nil h)
end
end L2

namespace HT
open PySem PyProof.Rows

/-- t < u of tuples of ints -/
def lexLt : List Int → List Int → Bool
  | [], [] => false
  | [], _ :: _ => true
  | _ :: _, [] => false
  | x :: xs, y :: ys => if x = y then lexLt xs ys else decide (x < y)
theorem lexLt_cons (x y : Int) (xs ys : List Int) : lexLt (x :: xs) (y :: ys) = if x = y then lexLt xs ys else decide (x < y) := rfl
theorem lexLt_nil_nil : lexLt [] [] = false := rfl
theorem lexLt_nil_cons (y : Int) (ys : List Int) : lexLt [] (y :: ys) = true := rfl
theorem lexLt_cons_nil (x : Int) (xs : List Int) : lexLt (x :: xs) [] = false := rfl

theorem eqAt_int (A : Around) (s : Shared) (a : Int) (t : Tok) (c : Int) (u : Tok) : ∃ e, SeqAt.EqAt A s (.int a t) (.int c u) e ∧ (e = true ↔ a = c) :=
  ⟨(a == c), SeqAt.EqAt.int_int a t c u, by simp⟩
theorem rcLt_int (A : Around) (s : Shared) (a : Int) (t : Tok) (c : Int) (u : Tok) (prog : Program) (w : World) (E : Value → Shared → Prop) (Q : Value → Shared → Prop) (h : Q (.bool (decide (a < c))) s) :
    wpAny (model prog w) A (richCompare .Lt (.int a t) (.int c u)) Q E s :=
  (PyProof.Rows.lt_int h : wpAny (model prog w) A (compareOp .Lt (.int a t) (.int c u)) Q E s)

section
open PySem.SeqAt
open PySem.AutoSeq1 (wpAny_loadPart')
open PySem.MeetsSeq PySem.MeetsSeq2 PySem.MeetsSeq3

theorem tuple_lt_ints (l b : Addr) (items items2 : Array Value) (n n2 : Nat) (dd dd2 : Option Addr) (sl sl2 : Array (Option Value)) (ns ms : List Int) (hi : IntsAre items.toList ns) (hj : IntsAre items2.toList ms) :
    Meets (Builtin.«tuple.__lt__» ⟨[.ref l, .ref b], []⟩)
      (fun _ R s => s.heap.get? l = some { cls := .type "tuple", dict := dd, data := .seq items n, slots := sl } ∧ s.heap.get? b = some { cls := .type "tuple", dict := dd2, data := .seq items2 n2, slots := sl2 } ∧
        R (.ok (.ret (.bool (lexLt ns ms)))) s) :=
  .of_wp fun prog w A R s h => by
    obtain ⟨hp, g, d, tk, os⟩ := s; obtain ⟨hl, hb, h⟩ := h
    have f2 := AutoSeq1.sub_tuple_tuple
    have z1 : items.size = ns.length := by rw [← hi.length]; simp
    have z2 : items2.size = ms.length := by rw [← hj.length]; simp
    wp_walk using wpAny_loadPart' hl, wpAny_loadPart' hb, wpAny_forIn_list _ (fun rest b s' => b.1 = none ∧ s' = ⟨hp, g, d, tk, os⟩ ∧ ∃ (vs ws : List Value) (ns' ms' : List Int), rest = vs.zip ws ∧
      IntsAre vs ns' ∧ IntsAre ws ms' ∧ ns'.length + items2.size = ms'.length + items.size ∧ R (.ok (.ret (.bool (lexLt ns' ms')))) ⟨hp, g, d, tk, os⟩) _
    case turn =>
      rintro ⟨y, x⟩ rest b s' ⟨hb', rfl, vs, ws, ns', ms', hz, hvi, hwi, hlen, hR⟩
      cases hvi with
      | nil => rw [List.zip_nil_left] at hz; cases hz
      | cons a t hvi' =>
        cases hwi with
        | nil => rw [List.zip_nil_right] at hz; cases hz
        | cons c u hwi' =>
          rw [List.zip_cons_cons] at hz
          injection hz with hyx hrest
          injection hyx with hy hx
          subst hy hx
          rw [lexLt_cons] at hR
          simp only [List.length_cons] at hlen
          obtain ⟨e, he, hiff⟩ := eqAt_int A.in1 ⟨hp, g, d, tk, os⟩ a t c u
          refine wpAny_bind (he prog w _ _ ?_)
          cases e with
          | true =>
            rw [if_pos (hiff.mp rfl)] at hR
            wp_walk
            exact ⟨rfl, rfl, _, _, _, _, hrest, hvi', hwi', by omega, hR⟩
          | false =>
            rw [if_neg (fun q => absurd (hiff.mpr q) Bool.false_ne_true)] at hR
            have hri := rcLt_int A.in1 ⟨hp, g, d, tk, os⟩ a t c u prog w
            wp_walk using hri
            exact ⟨_, rfl, by simpa using hR⟩
    case fin =>
      rintro ⟨b1, b2⟩ s' ⟨hb', rfl, vs, ws, ns', ms', hz, hvi, hwi, hlen, hR⟩
      simp only at hb'
      subst hb'
      have hv : lexLt ns' ms' = decide (items.size < items2.size) := by
        cases hvi with
        | nil =>
          cases hwi with
          | nil =>
            simp only [List.length_nil] at hlen
            rw [lexLt_nil_nil]
            exact (decide_eq_false (by omega)).symm
          | cons c u hw =>
            simp only [List.length_nil, List.length_cons] at hlen
            rw [lexLt_nil_cons]
            exact (decide_eq_true (by omega)).symm
        | cons a t hv =>
          cases hwi with
          | nil =>
            simp only [List.length_nil, List.length_cons] at hlen
            rw [lexLt_cons_nil]
            exact (decide_eq_false (by omega)).symm
          | cons c u hw =>
            rw [List.zip_cons_cons] at hz
            cases hz
      rw [hv] at hR
      wp_walk
      exact ⟨_, rfl, by simpa [Builtin.Tuple.tupleCompareSizes] using hR⟩
    case h =>
      exact ⟨rfl, rfl, items.toList, items2.toList, ns, ms, rfl, hi, hj, by omega, h⟩
end

section
variable {prog : Program} {w : World} {A : Around} {E : Value → Shared → Prop} {s : Shared}

theorem lt_tupInts {l b : Addr} {items items2 : Array Value} {ns ms : List Int} {Q : Value → Shared → Prop} (hl : IsTup s.heap l items) (hb : IsTup s.heap b items2) (hi : IntsAre items.toList ns) (hj : IntsAre items2.toList ms)
    (hu : A.units < cLine) (h : Q (.bool (lexLt ns ms)) s) : wpAny (model prog w) A (compareOp .Lt (.ref l) (.ref b)) Q E s := by
  obtain ⟨⟨cls, dd, data, sl⟩, ho, hc, n, hd⟩ := id hl
  obtain ⟨⟨cls2, dd2, data2, sl2⟩, ho2, hc2, n2, hd2⟩ := id hb
  simp only at hc hd hc2 hd2
  subst hc hd hc2 hd2
  exact richCompare_meets_room (op := .Lt) ⟨_, ho, rfl⟩ ⟨_, ho2, rfl⟩ PySem.F.slot_tuple_lt PySem.F.entry_tuple_lt (PySem.F.args_tuple_lt_2 _ _) (tuple_lt_ints l b items items2 n n2 dd dd2 sl sl2 ns ms hi hj)
    ⟨ho, ho2, show Value.bool (lexLt ns ms) ≠ Value.notImplemented ∧ Q (.bool (lexLt ns ms)) s from ⟨(fun x => nomatch x), h⟩⟩ hu

/-- t + u, t not empty -/
theorem cat_tup {t b : Addr} {vs ws : List Value} {Q : Value → Shared → Prop} (ht : IsTup s.heap t vs.toArray) (hb : IsTup s.heap b ws.toArray) (hv : vs ≠ [])
    (h1 : ws = [] → Q (.ref t) s) (h2 : ws ≠ [] → Q (.ref s.heap.objs.size) { s with heap := s.heap.push { cls := .type "tuple", data := .seq (vs ++ ws).toArray } })
    (hsz : vs.length + ws.length ≤ sizeLine) : wpAny (model prog w) A (binaryOp .Add (.ref t) (.ref b)) Q E s := by
  obtain ⟨⟨cls, dd, data, sl⟩, ho, hc, n, hd⟩ := id ht
  obtain ⟨⟨cls2, dd2, data2, sl2⟩, ho2, hc2, n2, hd2⟩ := id hb
  simp only at hc hd hc2 hd2
  subst hc hd hc2 hd2
  have e : vs.toArray ++ ws.toArray = (vs ++ ws).toArray := by simp
  by_cases hw : ws = []
  · exact concat_meets ⟨_, ho, rfl⟩ ⟨_, ho2, rfl⟩ noFill_tuple_add seq_tuple_add PySem.F.slot_tuple_add PySem.F.entry_tuple_add (PySem.F.args_tuple_add_2 _ _)
      (tuple_addW1 t b vs.toArray ws.toArray n n2 dd dd2 sl sl2 (by simpa using hv) (by simp [hw])) ⟨ho, ho2, h1 hw⟩
  · refine concat_meets ⟨_, ho, rfl⟩ ⟨_, ho2, rfl⟩ noFill_tuple_add seq_tuple_add PySem.F.slot_tuple_add PySem.F.entry_tuple_add (PySem.F.args_tuple_add_2 _ _)
      (tuple_addW2 t b vs.toArray ws.toArray n n2 dd dd2 sl sl2 (by simpa using hv) (by simpa using hw) (by rw [List.size_toArray, List.size_toArray]; exact hsz)) ⟨ho, ho2, ?_⟩
    rw [e]
    exact h2 hw

/-! ### t[a:b], not the whole -/
/-- a slice's bound as a place among n (d where it is left out) -/
def sIx (n d : Nat) : Option Int → Nat
  | none => d
  | some v => if v < 0 then (v + (n : Int)).toNat else min v.toNat n
theorem sIx_none (n d : Nat) : sIx n d none = d := rfl
theorem sIx_nat (n d k : Nat) : sIx n d (some (k : Int)) = min k n := by
  show (if (k : Int) < 0 then ((k : Int) + (n : Int)).toNat else min (k : Int).toNat n) = min k n
  rw [if_neg (by omega), Int.toNat_natCast]
theorem sIx_le (n d : Nat) (hd : d ≤ n) (o : Option Int) : sIx n d o ≤ n := by
  cases o with
  | none => exact hd
  | some v =>
    show (if v < 0 then (v + (n : Int)).toNat else min v.toNat n) ≤ n
    by_cases hv : v < 0
    · rw [if_pos hv]; omega
    · rw [if_neg hv]; exact Nat.min_le_right _ _
theorem clip_eq (v : Int) (n d : Nat) : (if v < 0 then max (v + (n : Int)) 0 else min v (n : Int)) = ((sIx n d (some v) : Nat) : Int) := by
  show (if v < 0 then max (v + (n : Int)) 0 else min v (n : Int)) = (((if v < 0 then (v + (n : Int)).toNat else min v.toNat n) : Nat) : Int)
  by_cases hv : v < 0
  · simp only [if_pos hv]; omega
  · simp only [if_neg hv]; omega
theorem adjust_gen (lo hi : Option Int) (n : Nat) : Builtin.Slice.sliceAdjust lo hi 1 (n : Int) = (((sIx n 0 lo : Nat) : Int), ((sIx n n hi : Nat) : Int)) := by
  have h1 : ¬ ((1 : Int) < 0) := by omega
  unfold Builtin.Slice.sliceAdjust
  simp only [h1, if_false]
  refine Prod.ext ?_ ?_
  · cases lo with
    | none => rfl
    | some v => exact clip_eq v n 0
  · cases hi with
    | none => rfl
    | some v => exact clip_eq v n n
theorem places_gen (i j : Nat) : Builtin.Slice.slicePlaces (i : Int) (j : Int) 1 = j - i := by
  unfold Builtin.Slice.slicePlaces
  have h1 : (1 : Int) > 0 := by omega
  simp only [h1, if_true, Int.ediv_one]
  split <;> omega
theorem slicePart_ {v : Value} {o : Option Int} {Q : Option Int → Shared → Prop} (p : IsPart v o) (h : Q o s) : wpAny (model prog w) A (Builtin.Slice.slicePartIndex v) Q E s := by
  cases p with
  | none => exact slicePart_none h
  | int i t => exact slicePart_int h
theorem sliceApplied_gen {sl : Addr} {vl vu : Value} {lo hi : Option Int} {n : Nat} {Q : Int × Int × Nat → Shared → Prop} (hs : s.heap.IsSliceOf sl vl vu .none) (pl : IsPart vl lo) (pu : IsPart vu hi)
    (h : Q (((sIx n 0 lo : Nat) : Int), 1, sIx n n hi - sIx n 0 lo) s) : wpAny (model prog w) A (Builtin.Slice.sliceApplied (.ref sl) (pure (n : Int))) Q E s := by
  obtain ⟨os, hos, hcs, hds⟩ := id hs
  unfold Builtin.Slice.sliceApplied Builtin.Slice.sliceFields
  refine wpAny_bind (wpAny_bind (wpAny_field hos hds (x := vl) rfl (wpAny_bind (wpAny_field hos hds (x := vu) rfl (wpAny_bind (wpAny_field hos hds (x := .none) rfl (wpAny_pure ?_)))))))
  refine wpAny_bind (slicePart_none ?_)
  show wpAny _ _ (if ((1 : Int) == 0) = true then _ else _) _ _ s
  rw [if_neg (by decide)]
  refine wpAny_bind (slicePart_ pl (wpAny_bind (slicePart_ pu (wpAny_bind (wpAny_pure ?_)))))
  show wpAny _ _ (match Builtin.Slice.sliceAdjust lo hi 1 (n : Int) with | (lo, hi) => pure (lo, (1 : Int), Builtin.Slice.slicePlaces lo hi 1)) _ _ s
  rw [adjust_gen lo hi n]
  show wpAny _ _ (pure (((sIx n 0 lo : Nat) : Int), (1 : Int), Builtin.Slice.slicePlaces ((sIx n 0 lo : Nat) : Int) ((sIx n n hi : Nat) : Int) 1)) _ _ s
  rw [places_gen]
  exact wpAny_pure h
theorem pick_gen (xs : Array Value) (i k : Nat) : ((List.range k).filterMap fun (m : Nat) => xs[((i : Int) + (m : Int) * 1).toNat]?).toArray = ((xs.toList.drop i).take k).toArray := by
  have e : (fun (m : Nat) => xs[((i : Int) + (m : Int) * 1).toNat]?) = fun m => xs[i + m]? := by
    funext m
    have : ((i : Int) + (m : Int) * 1).toNat = i + m := by omega
    rw [this]
  rw [e]
  have := pick_run xs i k
  rw [List.filterMap_map] at this
  have e2 : ((fun x => xs[x]?) ∘ fun x => i + x) = fun m => xs[i + m]? := rfl
  rw [e2] at this
  rw [this]

theorem getItem_tuple_cut {t sl : Addr} {items : Array Value} {vl vu : Value} {lo hi : Option Int} {Q : Value → Shared → Prop} (ht : IsTup s.heap t items) (hs : s.heap.IsSliceOf sl vl vu .none) (pl : IsPart vl lo) (pu : IsPart vu hi)
    (hw : ¬ (sIx items.size 0 lo = 0 ∧ sIx items.size items.size hi = items.size))
    (h : Q (.ref s.heap.objs.size) { s with heap := s.heap.push { cls := .type "tuple", data := .seq ((items.toList.drop (sIx items.size 0 lo)).take (sIx items.size items.size hi - sIx items.size 0 lo)).toArray } })
    (hsz : items.size ≤ sizeLine) : wpAny (model prog w) A (getItem (.ref t) (.ref sl)) Q E s := by
  have htake : sizeOk (.seq ((items.toList.drop (sIx items.size 0 lo)).take (sIx items.size items.size hi - sIx items.size 0 lo)).toArray) := by
    show ((items.toList.drop (sIx items.size 0 lo)).take (sIx items.size items.size hi - sIx items.size 0 lo)).toArray.size ≤ sizeLine
    rw [List.size_toArray, List.length_take, List.length_drop, Array.length_toList]
    omega
  have hj : sIx items.size items.size hi ≤ items.size := sIx_le _ _ (Nat.le_refl _) hi
  obtain ⟨os, hos, hcs, hds⟩ := id hs
  have hTs : s.TypeIs (.ref sl) "slice" := ⟨os, hos, hcs⟩
  unfold getItem
  try with_reducible refine wpAny_holding ?_
  first | refine wpAny_bind (wpAny_pure ?_) | skip
  refine wpAny_bind (wpAny_sequenceKey ht.typeIs (by decide) ?_)
  refine wpAny_bind (wpAny_callSpecial?_slot (name := Str.ofString "__getitem__") ht.typeIs PyProof.Rows.slot_tuple_getitem
    (wpAny_call_entry PyProof.Rows.slot_tuple_getitem ht.typeIs entry_tuple_getitem ?_ (args_tuple_getitem _ _)))
  show wpAny _ _ (Builtin.Tuple.tupleItemsOf (.ref t) >>= _) _ _ s
  refine wpAny_bind (tupleItemsOf_ ht ?_)
  refine wpAny_bind (wpAny_typeOf hTs ?_)
  rw [if_pos (by decide)]
  refine wpAny_bind (sliceApplied_gen hs pl pu ?_)
  have hno : ¬ ((((sIx items.size 0 lo : Nat) : Int) == 0 && (1 : Int) == 1 && (sIx items.size items.size hi - sIx items.size 0 lo) == items.size) = true) := by
    intro q
    rw [Bool.and_eq_true, Bool.and_eq_true] at q
    have q1 : ((sIx items.size 0 lo : Nat) : Int) = 0 := eq_of_beq q.1.1
    have q2 : sIx items.size items.size hi - sIx items.size 0 lo = items.size := eq_of_beq q.2
    exact hw ⟨by omega, by omega⟩
  show wpAny _ _ (if (((sIx items.size 0 lo : Nat) : Int) == 0 && (1 : Int) == 1 && (sIx items.size items.size hi - sIx items.size 0 lo) == items.size) = true then _ else _) _ _ s
  rw [if_neg hno, pick_gen]
  first
    | exact wpAny_bind (m := Builtin.Tuple.tupleExact _) (wpAny_newObj_type (wpAny_pure ⟨_, rfl, wpAny_pure h⟩) htake)
    | exact wpAny_bind (m := Builtin.Tuple.tupleExact _) (wpAny_newObj_type (wpAny_bind (wpAny_pure (wpAny_pure ⟨_, rfl, wpAny_pure h⟩))) htake)
    | exact wpAny_bind (wpAny_bind (m := Builtin.Tuple.tupleExact _) (wpAny_newObj_type (wpAny_pure (wpAny_pure ⟨_, rfl, wpAny_pure h⟩)) htake))
    | exact wpAny_bind (wpAny_bind (m := Builtin.Tuple.tupleExact _) (wpAny_newObj_type (wpAny_pure ⟨_, rfl, wpAny_pure h⟩) htake))
end
end HT

namespace L2
open PySem PySem.Spec PyProof.Rows

/-! ### the parts of a slice -/
abbrev TO := St → Hp → (Option Int → Hp → Prop) → Prop
/-- a slice's part (left out, or an int) -/
def PO (X : Cx) (e : Option Expr) (t : TO) : Prop :=
  ∀ (pins : List (Addr × Obj)) (s : Shared) (σ : St) (H : Hp) (Q : Option Int → Hp → Prop), Inv X pins σ H s → t σ H Q →
    wpAny (model X.prog X.w) X.A (evalPart e X.env) (fun u s' => ∃ o H', Inv X pins σ H' s' ∧ IsPart u o ∧ Q o H') X.xe s
def tNoPart : TO := fun _ H Q => Q none H
def tPart (t : TE) : TO := fun σ H Q => t σ H fun x H1 => ∃ i, x = .int i ∧ Q (some i) H1

theorem intsAre_of {ns : List Int} : ∀ {us : List Value}, Vals (ns.map V.int) us → IntsAre us ns := by
  induction ns with
  | nil => intro us r; rw [List.map_nil] at r; cases r; exact .nil
  | cons n ns ih =>
    intro us r
    rw [List.map_cons] at r
    cases r with
    | cons r1 r2 =>
      obtain ⟨t, e⟩ := r1
      subst e
      exact .cons n t (ih r2)

section
variable {X : Cx} {e : Expr} {te : TE} {lo hi : Option Expr} {tl th : TO} {pos p2 : Pos}

theorem po_none : PO X none tNoPart := by
  intro pins s σ H Q I h
  rw [evalPart_none]
  exact wpAny_pure ⟨none, H, I, .none, h⟩
theorem po_some (h : PE X e te) : PO X (some e) (tPart te) := by
  intro pins s σ H Q I hw
  rw [evalPart_some]
  refine thn (h pins s σ H _ I hw) fun u s1 ⟨x, H1, I1, r1, q1⟩ => ?_
  obtain ⟨i, rfl, q⟩ := q1
  obtain ⟨t, rfl⟩ := r1
  exact ⟨some i, H1, I1, .int i t, q⟩

/-- what a slice of a value is, by values: the slice object stands at sl -/
def SlR (X : Cx) (r : V → Option Int → Option Int → Hp → VK → Prop) : Prop :=
  ∀ (pins : List (Addr × Obj)) (s : Shared) (σ : St) (H : Hp) (x : V) (v vl vu : Value) (lo hi : Option Int) (sl : Addr) (Q : VK), Inv X pins σ H s → RelV x v → s.heap.IsSliceOf sl vl vu .none → IsPart vl lo → IsPart vu hi → r x lo hi H Q →
    ∃ T id, typeLookup (.type T) "__getitem__" = pure (some (.builtin id)) ∧ s.TypeIs v T ∧ wpAny (model X.prog X.w) X.A (getItem v (.ref sl)) (EP X pins σ Q) X.xe s
theorem SlR.or {r r' : V → Option Int → Option Int → Hp → VK → Prop} (h : SlR X r) (h' : SlR X r') : SlR X (fun x lo hi H Q => r x lo hi H Q ∨ r' x lo hi H Q) := by
  intro pins s σ H x v vl vu lo hi sl Q I rx hs pl pu q
  rcases q with q | q
  · exact h pins s σ H x v vl vu lo hi sl Q I rx hs pl pu q
  · exact h' pins s σ H x v vl vu lo hi sl Q I rx hs pl pu q
def tSl (r : V → Option Int → Option Int → Hp → VK → Prop) (te : TE) (tl th : TO) : TE := fun σ H Q => te σ H fun x H1 => tl σ H1 fun l H2 => th σ H2 fun u H3 => r x l u H3 Q
/-- a[lo:hi], any a -/
theorem pe_slice {r : V → Option Int → Option Int → Hp → VK → Prop} (hr : SlR X r) (he : PE X e te) (hl : PO X lo tl) (hu : PO X hi th) : PE X (.Subscript e (.Slice lo hi none p2) pos) (tSl r te tl th) := by
  intro pins s σ H Q I h
  refine Subscript_ (thn (he pins s σ H _ I h) fun v s1 ⟨x, H1, I1, r1, q1⟩ => ?_)
  refine wpAny_Slice (thn (hl pins s1 σ H1 _ I1 q1) fun vl s2 ⟨l, H2, I2, pl, q2⟩ => thn (hu pins s2 σ H2 _ I2 q2) fun vu s3 ⟨u, H3, I3, pu, q3⟩ => ?_)
  rw [evalPart_none]
  refine wpAny_pure ?_
  have I4 : Inv X pins σ H3 { s3 with heap := s3.heap.push { cls := .type "slice", data := .fields #[vl, vu, .none] } } := I3.kept (t' := s3.toks) fun b ob q => Heap.get?_push_of_some _ q
  obtain ⟨T, id, hT, ht, hg⟩ := hr pins { s3 with heap := s3.heap.push { cls := .type "slice", data := .fields #[vl, vu, .none] } } σ H3 x v vl vu l u s3.heap.objs.size Q I4 r1 (Heap.IsSliceOf.new ..) pl pu q3
  show wpAny (model X.prog X.w) X.A (subscriptTail e (.Slice lo hi none p2) v (.ref s3.heap.objs.size)) (EP X pins σ Q) X.xe { s3 with heap := s3.heap.push { cls := .type "slice", data := .fields #[vl, vu, .none] } }
  exact tail_any (ops := [.ref s3.heap.objs.size, v]) ht hT hg (by with_unfolding_all rfl)

/-- the items of xs[lo:hi] -/
def cutV (xs : List V) (lo hi : Option Int) : List V := (xs.drop (HT.sIx xs.length 0 lo)).take (HT.sIx xs.length xs.length hi - HT.sIx xs.length 0 lo)
theorem cutV_length (xs : List V) (lo hi : Option Int) : (cutV xs lo hi).length ≤ xs.length := by
  unfold cutV
  rw [List.length_take, List.length_drop]
  omega
/-- t[lo:hi], not the whole of it (the whole would be t itself) -/
def rSlT (K : PySem.W.Frag) : V → Option Int → Option Int → Hp → VK → Prop := fun x lo hi H Q => ∃ a xs, x = .ref a ∧ SqT K H a xs ∧
  ¬ (HT.sIx xs.length 0 lo = 0 ∧ HT.sIx xs.length xs.length hi = xs.length) ∧ ∀ p, H p = none → Q (.ref p) (upd H p (.tup (cutV xs lo hi)))
theorem sl_tup : SlR X (rSlT X.K) := by
  intro pins s σ H x v vl vu lo hi sl Q I rx hs pl pu h
  obtain ⟨a, xs, rfl, hx, hw, q⟩ := h
  cases rx
  obtain ⟨its, r, ht, hz⟩ := I.tuple hx
  have hlen : its.toArray.size = xs.length := by rw [List.size_toArray]; exact r.length.symm
  refine ⟨"tuple", _, PyProof.Rows.slot_tuple_getitem.lookup, ht.typeIs, ?_⟩
  refine HT.getItem_tuple_cut ht hs pl pu (by rw [hlen]; exact hw) ?_ (by rw [hlen]; exact hz)
  rw [hlen]
  refine ⟨.ref s.heap.objs.size, _, I.laid (t' := s.toks) (o := .tup (cutV xs lo hi)) (fun b ob q => Heap.get?_push_of_some _ q) (Nat.le_refl _) ?_, rfl, q _ (I.hok.fresh (Nat.le_refl _))⟩
  exact ⟨Nat.le_trans (cutV_length xs lo hi) hz, _, (r.drop (HT.sIx xs.length 0 lo)).take (HT.sIx xs.length xs.length hi - HT.sIx xs.length 0 lo), TupD.new _ _⟩

/-! ### t < u, t + u -/
def rLtT (K : PySem.W.Frag) : R2 := fun x y H Q => ∃ a b ns ms, x = .ref a ∧ y = .ref b ∧ SqT K H a (ns.map V.int) ∧ SqT K H b (ms.map V.int) ∧ Q (.bl (HT.lexLt ns ms)) H
theorem op_ltT (hu : X.A.units < cLine) : OpR X (compareOp .Lt) (rLtT X.K) := by
  intro pins s σ H x y v u Q I rx ry h
  obtain ⟨a, b, ns, ms, rfl, rfl, ha, hb, q⟩ := h
  cases rx
  cases ry
  obtain ⟨its, r1, p1, _⟩ := I.tuple ha
  obtain ⟨its2, r2, p2, _⟩ := I.tuple hb
  have i1 : IntsAre its.toArray.toList ns := intsAre_of r1
  have i2 : IntsAre its2.toArray.toList ms := intsAre_of r2
  exact HT.lt_tupInts p1 p2 i1 i2 hu ⟨.bl (HT.lexLt ns ms), H, I, rfl, q⟩
/-- t + u, t not empty: u empty gives t itself -/
def rCatT (K : PySem.W.Frag) : R2 := fun x y H Q => ∃ a b xs ys, x = .ref a ∧ y = .ref b ∧ SqT K H a xs ∧ SqT K H b ys ∧ xs ≠ [] ∧ xs.length + ys.length ≤ sizeLine ∧
  (ys = [] → Q (.ref a) H) ∧ (ys ≠ [] → ∀ p, H p = none → Q (.ref p) (upd H p (.tup (xs ++ ys))))
theorem Vals.nil_iff {xs : List V} {us : List Value} (r : Vals xs us) : us = [] ↔ xs = [] := by
  cases r with
  | nil => simp
  | cons _ _ => simp
theorem op_catT : OpR X (binaryOp .Add) (rCatT X.K) := by
  intro pins s σ H x y v u Q I rx ry h
  obtain ⟨a, b, xs, ys, rfl, rfl, ha, hb, hx, hz, q1, q2⟩ := h
  cases rx
  cases ry
  obtain ⟨its, r1, p1, _⟩ := I.tuple ha
  obtain ⟨its2, r2, p2, _⟩ := I.tuple hb
  refine HT.cat_tup p1 p2 (fun z => hx (r1.nil_iff.mp z)) (fun z => ⟨.ref a, H, I, rfl, q1 (r2.nil_iff.mp z)⟩) (fun z => ?_) (by rw [← r1.length, ← r2.length]; exact hz)
  refine ⟨.ref s.heap.objs.size, _, I.laid (t' := s.toks) (o := .tup (xs ++ ys)) (fun b ob q => Heap.get?_push_of_some _ q) (Nat.le_refl _) ?_, rfl, q2 (fun w => z (r2.nil_iff.mpr w)) _ (I.hok.fresh (Nat.le_refl _))⟩
  exact ⟨by rw [List.length_append]; exact hz, _, r1.append r2, TupD.new _ _⟩
/-- tuple(t) -/
theorem call_tupleT : CallR X (.type "tuple") (fun xs H Q => ∃ a ys, xs = [.ref a] ∧ SqT X.K H a ys ∧ Q (.ref a) H) := by
  intro pins s σ H xs us Q I r h
  obtain ⟨a, ys, rfl, ha, q⟩ := h
  obtain ⟨u, rfl, ru⟩ := vals1 r
  cases ru
  obtain ⟨its, _, p1, _⟩ := I.tuple ha
  exact call_tuple_same (items := its.toArray) p1 ⟨.ref a, H, I, rfl, q⟩
end
end L2

namespace L2
open PySem PySem.Spec PyProof.Rows

/-! ### places -/
/-- the place that an index of any sign means -/
def ixN (n : Nat) (i : Int) : Option Nat := if 0 ≤ i then (if i < n then some i.toNat else none) else if -(n : Int) ≤ i then some (i + n).toNat else none
def atI {α : Type} (xs : List α) (i : Int) : Option α := (ixN xs.length i).bind fun j => xs[j]?
theorem ixN_seq {n : Nat} {i : Int} {j : Nat} (h : ixN n i = some j) : seqIndex? i n = some j ∧ j < n ∧ -(n : Int) ≤ i ∧ i < n := by
  unfold ixN at h
  by_cases h0 : 0 ≤ i
  · rw [if_pos h0] at h
    by_cases h1 : i < n
    · rw [if_pos h1] at h
      have e : i.toNat = j := Option.some.inj h
      exact ⟨by rw [seqIndex_of h0 h1, e], by omega, by omega, h1⟩
    · rw [if_neg h1] at h; cases h
  · rw [if_neg h0] at h
    by_cases h1 : -(n : Int) ≤ i
    · rw [if_pos h1] at h
      have e : (i + n).toNat = j := Option.some.inj h
      exact ⟨by rw [seqIndex_neg (by omega) h1, e], by omega, h1, by omega⟩
    · rw [if_neg h1] at h; cases h
theorem atI_get {α : Type} {xs : List α} {i : Int} {v : α} (h : atI xs i = some v) : ∃ j, seqIndex? i xs.length = some j ∧ xs[j]? = some v ∧ j < xs.length ∧ -(xs.length : Int) ≤ i ∧ i < xs.length := by
  unfold atI at h
  cases e : ixN xs.length i with
  | none => rw [e] at h; cases h
  | some j =>
    rw [e] at h
    obtain ⟨h1, h2, h3, h4⟩ := ixN_seq e
    exact ⟨j, h1, h, h2, h3, h4⟩
theorem atI_nat {α : Type} {xs : List α} {j : Nat} {v : α} (h : xs[j]? = some v) : atI xs (j : Int) = some v := by
  have hj : j < xs.length := (List.getElem?_eq_some_iff.mp h).1
  have e : ixN xs.length (j : Int) = some j := by
    unfold ixN
    rw [if_pos (by omega), if_pos (by omega)]; simp
  unfold atI; rw [e]; exact h
theorem atI_last {α : Type} (xs : List α) (v : α) : atI (xs ++ [v]) (-1) = some v := by
  have hl : (xs ++ [v]).length = xs.length + 1 := by simp
  have e : ixN (xs ++ [v]).length (-1) = some xs.length := by
    unfold ixN
    rw [hl, if_neg (by decide), if_pos (by omega)]
    congr 1
    omega
  unfold atI
  rw [e]
  show (xs ++ [v])[xs.length]? = some v
  simp

/-! ### what may be subscripted -/
/-- what stands as an index of a plain subscript -/
def PlainIx (b : Expr) : Prop := ∀ o i, subscripted b false o i = operate [o, i] (getItem o i)
/-- a subscript by values -/
def IxR (X : Cx) (r : R2) : Prop :=
  ∀ (value slice : Expr) (pins : List (Addr × Obj)) (s : Shared) (σ : St) (H : Hp) (x y : V) (v u : Value) (Q : VK), Inv X pins σ H s → RelV x v → RelV y u → r x y H Q →
    subscripted slice false v u = operate [v, u] (getItem v u) → wpAny (model X.prog X.w) X.A (subscriptTail value slice v u) (EP X pins σ Q) X.xe s
/-- a call of a builtin's method by values: the receiver, the arguments -/
def MtR (X : Cx) (id : String) (r : V → List V → Hp → VK → Prop) : Prop :=
  ∀ (pins : List (Addr × Obj)) (s : Shared) (σ : St) (H : Hp) (x : V) (xs : List V) (v : Value) (us : List Value) (Q : VK), Inv X pins σ H s → RelV x v → Vals xs us → r x xs H Q →
    wpAny (model X.prog X.w) X.A (call (.builtin id) (v :: us)) (EP X pins σ Q) X.xe s
section
variable {X : Cx} {a b : Expr} {ta tb : TE} {pos : Pos}
theorem IxR.or {r r' : R2} (h : IxR X r) (h' : IxR X r') : IxR X (fun x y H Q => r x y H Q ∨ r' x y H Q) := by
  intro value slice pins s σ H x y v u Q I rx ry q hs
  rcases q with q | q
  · exact h value slice pins s σ H x y v u Q I rx ry q hs
  · exact h' value slice pins s σ H x y v u Q I rx ry q hs
theorem MtR.or {id : String} {r r' : V → List V → Hp → VK → Prop} (h : MtR X id r) (h' : MtR X id r') : MtR X id (fun x xs H Q => r x xs H Q ∨ r' x xs H Q) := by
  intro pins s σ H x xs v us Q I rx rs q
  rcases q with q | q
  · exact h pins s σ H x xs v us Q I rx rs q
  · exact h' pins s σ H x xs v us Q I rx rs q
/-- a[b] -/
theorem pe_ix {r : R2} (hr : IxR X r) (ha : PE X a ta) (hb : PE X b tb) (hs : PlainIx b) : PE X (.Subscript a b pos) (tOp r ta tb) := by
  intro pins s σ H Q I h
  exact Subscript_ (binT ha hb I h fun v u s2 x y H2 I2 rx ry q => hr a b pins s2 σ H2 x y v u Q I2 rx ry q (hs _ _))

def rIxL (K : PySem.W.Frag) : R2 := fun x y H Q => ∃ p xs i v, x = .ref p ∧ y = .int i ∧ SqL K H p xs ∧ atI xs i = some v ∧ Q v H
def rIxT (K : PySem.W.Frag) : R2 := fun x y H Q => ∃ p xs i v, x = .ref p ∧ y = .int i ∧ SqT K H p xs ∧ atI xs i = some v ∧ Q v H
def rIxS : R2 := fun x y H Q => ∃ z i c, x = .str z ∧ y = .int i ∧ z.length ≤ sizeLine ∧ atI z.cps.toList i = some c ∧ Q (.str ⟨#[c]⟩) H
theorem ix_list : IxR X (rIxL X.K) := by
  intro value slice pins s σ H x y v u Q I rx ry h hs
  obtain ⟨p, xs, i, z, rfl, rfl, hq, he, q⟩ := h
  cases rx
  obtain ⟨t, rfl⟩ := ry
  obtain ⟨its, r, pl, hz⟩ := I.list hq
  obtain ⟨j, h1, h2, h3, h4, h5⟩ := atI_get he
  obtain ⟨w, ew, rw'⟩ := r.get h2
  have hl := r.length
  have hn := line63
  have fin : EP X pins σ Q w s := ⟨z, H, I, rw', q⟩
  by_cases h0 : 0 ≤ i
  · have hj : i.toNat = j := by
      rw [seqIndex_of h0 h5] at h1
      exact Option.some.inj h1
    exact item_listR pl.isList h0 (by omega) (by rw [hj]; simpa using ew) fin hs
  · have hj : (i + (its.toArray.size : Int)).toNat = j := by
      rw [seqIndex_neg (by omega) h4] at h1
      rw [List.size_toArray, ← hl]
      exact Option.some.inj h1
    exact subscriptTail_builtinR (x := w) pl.isList.typeIs slot_list_getitem.lookup
      (wpAny_getItem_list_neg (Q := fun r s' => r = w ∧ EP X pins σ Q r s') pl.isList (by omega) (by rw [List.size_toArray] <;> omega) (by omega) (by rw [hj]; simpa using ew) ⟨rfl, fin⟩) hs
theorem ix_tup : IxR X (rIxT X.K) := by
  intro value slice pins s σ H x y v u Q I rx ry h hs
  obtain ⟨p, xs, i, z, rfl, rfl, hq, he, q⟩ := h
  cases rx
  obtain ⟨t, rfl⟩ := ry
  obtain ⟨its, r, pl, hz⟩ := I.tuple hq
  obtain ⟨j, h1, h2, h3, h4, h5⟩ := atI_get he
  obtain ⟨w, ew, rw'⟩ := r.get h2
  have hl := r.length
  have hn := line63
  have fin : EP X pins σ Q w s := ⟨z, H, I, rw', q⟩
  exact subscriptTail_builtinR (x := w) pl.typeIs slot_tuple_getitem.lookup
    (getItem_tuple (j := j) (Q := fun r s' => r = w ∧ EP X pins σ Q r s') pl (by omega) (by omega) (by rw [List.size_toArray, ← hl]; exact h1) (by simpa using ew) ⟨rfl, fin⟩) hs
theorem ix_str : IxR X rIxS := by
  intro value slice pins s σ H x y v u Q I rx ry h hs
  obtain ⟨z, i, c, rfl, rfl, hz, he, q⟩ := h
  obtain ⟨t, rfl⟩ := rx
  obtain ⟨t', rfl⟩ := ry
  obtain ⟨j, h1, h2, h3, h4, h5⟩ := atI_get he
  have hl : z.cps.toList.length = z.length := by simp [Str.length]
  rw [hl] at h1 h4 h5
  have hn := line63
  exact tail_any (typeIs_str s z t) slot_str_getitem.lookup (getItem_str (c := c) (by
    have e1 : decide (i < -(2 ^ 63 : Int)) = false := decide_eq_false (by omega)
    have e2 : decide (i ≥ 2 ^ 63) = false := decide_eq_false (by omega)
    rw [e1, e2, Bool.or_false]) (by rw [h1]; simpa using h2) ⟨.str ⟨#[c]⟩, H, I.tok _, ⟨_, rfl⟩, q⟩) hs
/-- list, tuple or str -/
def rIx (K : PySem.W.Frag) : R2 := fun x y H Q => rIxL K x y H Q ∨ rIxT K x y H Q ∨ rIxS x y H Q
theorem ix_seq : IxR X (rIx X.K) := ix_list.or (ix_tup.or ix_str)

/-! ### xs[i] = v, any sign -/
/-- the list's object behind a store -/
theorem mapSeq_set (its : List Value) (n j : Nat) (u : Value) : Obj.mapSeq (·.setIfInBounds j u) { cls := .type "list", data := .seq its.toArray n } = { cls := .type "list", data := .seq (its.set j u).toArray n } := by
  simp [Obj.mapSeq]
theorem Inv.lst {pins : List (Addr × Obj)} {σ : St} {H : Hp} {s : Shared} {p : Addr} {xs : List V} (I : Inv X pins σ H s) (h : H p = some (.lst xs)) :
    ∃ (its : List Value) (n : Nat), Vals xs its ∧ s.heap.get? p = some { cls := .type "list", data := .seq its.toArray n } ∧ xs.length ≤ sizeLine := by
  obtain ⟨z, its, n, r, e⟩ := I.hok p _ h
  exact ⟨its, n, r, e, z⟩
/-- the list at p is written by an update of its object -/
theorem Inv.lstUpd {pins : List (Addr × Obj)} {σ : St} {H : Hp} {s : Shared} {p : Addr} {xs ys : List V} {its its' : List Value} {n n' : Nat} {f : Obj → Obj} (I : Inv X pins σ H s) (h : H p = some (.lst xs))
    (ho : s.heap.get? p = some { cls := .type "list", data := .seq its.toArray n }) (hf : f { cls := .type "list", data := .seq its.toArray n } = { cls := .type "list", data := .seq its'.toArray n' }) (r : Vals ys its') (hz : ys.length ≤ sizeLine) (t : Nat) :
    Inv X pins σ (upd H p (.lst ys)) { s with heap := s.heap.update p f, toks := t } := by
  have e : (s.heap.update p f).get? p = some { cls := .type "list", data := .seq its'.toArray n' } := by
    rw [Heap.get?_update_self f ho (by rw [hf] <;> rfl), hf]
  refine I.write (x := p) (e := p) (by rw [h]; trivial) (.inl rfl) (fun b u hb q => (Heap.get?_update_other _ _ (Ne.symm hb)).trans q) ⟨_, e⟩ ?_
  exact ⟨hz, its', n', r, e⟩
def rSetL : V → V → V → Hp → (Hp → Prop) → Prop := fun o i v H Q => ∃ p xs k j, o = .ref p ∧ i = .int k ∧ H p = some (.lst xs) ∧ ixN xs.length k = some j ∧ Q (upd H p (.lst (xs.set j v)))
theorem set_list : PSet X rSetL := by
  intro pins s σ H o i v ov iv u Q I ro ri rv h
  obtain ⟨p, xs, k, j, rfl, rfl, hp, hj, q⟩ := h
  cases ro
  obtain ⟨t, rfl⟩ := ri
  obtain ⟨its, n, r, ho, hz⟩ := I.lst hp
  obtain ⟨h1, h2, h3, h4⟩ := ixN_seq hj
  have hl := r.length
  have hn := line63
  have I' : Inv X pins σ (upd H p (.lst (xs.set j v))) { s with heap := s.heap.update p (Obj.mapSeq (·.setIfInBounds j u)) } :=
    I.lstUpd hp ho (mapSeq_set its n j u) (r.set rv j) (by rw [List.length_set]; exact hz) s.toks
  by_cases h0 : 0 ≤ k
  · have hk : k.toNat = j := by
      rw [seqIndex_of h0 h4] at h1
      exact Option.some.inj h1
    exact PySem.W.ki_setAt ho h0 (by omega) (by rw [List.size_toArray, ← hl]; exact h4) (by rw [hk]; exact ⟨_, I', q⟩)
  · have hk : (k + (its.toArray.size : Int)).toNat = j := by
      rw [seqIndex_neg (by omega) h3] at h1
      rw [List.size_toArray, ← hl]
      exact Option.some.inj h1
    exact PySem.W.ki_setBack ho (by omega) (by rw [List.size_toArray, ← hl]; exact h3) (by omega) (by rw [hk]; exact ⟨_, I', q⟩)

/-! ### slices -/
theorem slice_bounds (lo hi : Option Int) (n : Nat) : (sliceBounds lo hi none n).1 = ((HT.sIx n 0 lo : Nat) : Int) ∧ (sliceBounds lo hi none n).2.1 = ((HT.sIx n n hi : Nat) : Int) ∧ (sliceBounds lo hi none n).2.2 = 1 := by
  refine ⟨?_, ?_, rfl⟩
  · cases lo with
    | none => simp [sliceBounds, HT.sIx]
    | some i =>
      simp only [sliceBounds, HT.sIx, Option.getD_none, show (1 : Int) > 0 by decide, if_true]
      by_cases h : i < 0
      · simp only [h, if_true] <;> omega
      · simp only [h, if_false] <;> omega
  · cases hi with
    | none => simp [sliceBounds, HT.sIx]
    | some i =>
      simp only [sliceBounds, HT.sIx, Option.getD_none, show (1 : Int) > 0 by decide, if_true]
      by_cases h : i < 0
      · simp only [h, if_true] <;> omega
      · simp only [h, if_false] <;> omega
theorem slicePick_cut (its : List Value) (lo hi : Option Int) : slicePick its.toArray lo hi none = ((its.drop (HT.sIx its.length 0 lo)).take (HT.sIx its.length its.length hi - HT.sIx its.length 0 lo)).toArray := by
  obtain ⟨h1, h2, h3⟩ := slice_bounds lo hi its.toArray.size
  unfold slicePick
  rw [h1, h2, h3]
  simp only [sliceRange_one, pick_run, List.size_toArray] <;> rfl
/-- xs[lo:hi] of a list: a new list -/
def rSlL (K : PySem.W.Frag) : V → Option Int → Option Int → Hp → VK → Prop := fun x lo hi H Q => ∃ a xs, x = .ref a ∧ SqL K H a xs ∧ ∀ p, H p = none → Q (.ref p) (upd H p (.lst (cutV xs lo hi)))
theorem sl_list : SlR X (rSlL X.K) := by
  intro pins s σ H x v vl vu lo hi sl Q I rx hs pl pu h
  obtain ⟨a, xs, rfl, hx, q⟩ := h
  cases rx
  obtain ⟨its, r, ht, hz⟩ := I.list hx
  have hlen := r.length
  refine ⟨"list", _, slot_list_getitem.lookup, ht.isList.typeIs, ?_⟩
  refine wpAny_getItem_list_slice ht.isList hs pl pu .none (by simp) ?_ (by rw [List.size_toArray] <;> omega)
  rw [slicePick_cut, ← hlen]
  refine ⟨.ref s.heap.objs.size, _, I.laid (t' := s.toks) (o := .lst (cutV xs lo hi)) (fun b ob q => Heap.get?_push_of_some _ q) (Nat.le_refl _) ?_, rfl, q _ (I.hok.fresh (Nat.le_refl _))⟩
  exact ⟨Nat.le_trans (cutV_length xs lo hi) hz, _, 0, (r.drop (HT.sIx xs.length 0 lo)).take (HT.sIx xs.length xs.length hi - HT.sIx xs.length 0 lo), Heap.get?_push_size _ rfl⟩

/-! ### in, not in: flat items -/
def flatV : V → Bool
  | .non => true
  | .bl _ => true
  | .int _ => true
  | .str _ => true
  | _ => false
/-- == of flat values -/
def eqV : V → V → Bool
  | .non, .non => true
  | .bl a, .bl b => a == b
  | .bl a, .int b => (if a then 1 else 0) == b
  | .int a, .bl b => a == (if b then 1 else 0)
  | .int a, .int b => a == b
  | .str a, .str b => a == b
  | _, _ => false
theorem eqAt_V {A : Around} {s : Shared} {y x : V} {u v : Value} (ry : RelV y u) (rx : RelV x v) (fy : flatV y = true) (fx : flatV x = true) : SeqAt.EqAt A s u v (eqV y x) := by
  cases y with
  | non =>
    cases ry
    cases x with
    | non => cases rx; exact SeqAt.EqAt.same _
    | bl b => cases rx; exact SeqAt.EqAt.none_bool b
    | int b => obtain ⟨t, rfl⟩ := rx; exact SeqAt.EqAt.none_int b t
    | str b => obtain ⟨t, rfl⟩ := rx; exact SeqAt.EqAt.none_str b t
    | _ => exact absurd (show false = true from fx) Bool.false_ne_true
  | bl a =>
    cases ry
    cases x with
    | non => cases rx; exact SeqAt.EqAt.bool_none a
    | bl b => cases rx; exact SeqAt.EqAt.bool_bool a b
    | int b => obtain ⟨t, rfl⟩ := rx; exact SeqAt.EqAt.bool_int a b t
    | str b => obtain ⟨t, rfl⟩ := rx; exact SeqAt.EqAt.bool_str a b t
    | _ => exact absurd (show false = true from fx) Bool.false_ne_true
  | int a =>
    obtain ⟨t', rfl⟩ := ry
    cases x with
    | non => cases rx; exact SeqAt.EqAt.int_none a t'
    | bl b => cases rx; exact SeqAt.EqAt.int_bool a t' b
    | int b => obtain ⟨t, rfl⟩ := rx; exact SeqAt.EqAt.int_int a t' b t
    | str b => obtain ⟨t, rfl⟩ := rx; exact SeqAt.EqAt.int_str a t' b t
    | _ => exact absurd (show false = true from fx) Bool.false_ne_true
  | str a =>
    obtain ⟨t', rfl⟩ := ry
    cases x with
    | non => cases rx; exact SeqAt.EqAt.str_none a t'
    | bl b => cases rx; exact SeqAt.EqAt.str_bool a t' b
    | int b => obtain ⟨t, rfl⟩ := rx; exact SeqAt.EqAt.str_int a t' b t
    | str b => obtain ⟨t, rfl⟩ := rx; exact SeqAt.EqAt.str_str a t' b t
    | _ => exact absurd (show false = true from fx) Bool.false_ne_true
  | _ => exact absurd (show false = true from fy) Bool.false_ne_true
/-- the items' answers, read off the values (a value's own answer does not lean on its token) -/
def eqU (x : V) (u : Value) : Bool := match u with
  | .none => eqV .non x
  | .bool b => eqV (.bl b) x
  | .int i _ => eqV (.int i) x
  | .str z _ => eqV (.str z) x
  | _ => false
theorem eqU_of {x y : V} {u : Value} (r : RelV y u) (f : flatV y = true) : eqU x u = eqV y x := by
  cases y with
  | non => cases r; rfl
  | bl b => cases r; rfl
  | int i => obtain ⟨t, rfl⟩ := r; rfl
  | str z => obtain ⟨t, rfl⟩ := r; rfl
  | _ => exact absurd (show false = true from f) Bool.false_ne_true
theorem any_eqU {x : V} : ∀ {xs : List V} {us : List Value}, Vals xs us → xs.all flatV = true → us.any (eqU x) = xs.any fun y => eqV y x
  | _, _, .nil, _ => rfl
  | y :: xs, u :: us, .cons r t, f => by
    rw [List.all_cons, Bool.and_eq_true] at f
    rw [List.any_cons, List.any_cons, eqU_of r f.1, any_eqU t f.2]
theorem mem_eqAt {A : Around} {s : Shared} {x : V} {v : Value} (rx : RelV x v) (fx : flatV x = true) : ∀ {xs : List V} {us : List Value}, Vals xs us → xs.all flatV = true → ∀ u ∈ us, SeqAt.EqAt A s u v (eqU x u)
  | _, _, .nil, _ => fun u hu => by cases hu
  | y :: xs, u :: us, .cons r t, f => fun u' hu => by
    rw [List.all_cons, Bool.and_eq_true] at f
    rcases List.mem_cons.mp hu with rfl | hu
    · rw [eqU_of r f.1]; exact eqAt_V r rx f.1 fx
    · exact mem_eqAt rx fx t f.2 u' hu
def inV (x : V) (xs : List V) : Bool := xs.any fun y => eqV y x
/-- x in a list or tuple of flat items -/
def rIn (K : PySem.W.Frag) (neg : Bool) : R2 := fun x y H Q => ∃ p xs, y = .ref p ∧ (SqL K H p xs ∨ SqT K H p xs) ∧ flatV x = true ∧ xs.all flatV = true ∧ Q (.bl (if neg then !inV x xs else inV x xs)) H
theorem op_in_seq : OpR X (compareOp .In) (rIn X.K false) := by
  intro pins s σ H x y v u Q I rx ry h
  obtain ⟨p, xs, rfl, hq, fx, fs, q⟩ := h
  cases ry
  rcases hq with hq | hq
  · obtain ⟨its, r, pl, hz⟩ := I.list hq
    refine SeqAt.in_listAt (eqU x) pl.isList (fun w hw => mem_eqAt rx fx r fs w (by simpa using hw)) ⟨.bl _, H, I, rfl, ?_⟩
    rw [show its.toArray.any (eqU x) = its.any (eqU x) by simp, any_eqU r fs]
    exact q
  · obtain ⟨its, r, pl, hz⟩ := I.tuple hq
    refine SeqAt.in_tupleAt (eqU x) pl (fun w hw => mem_eqAt rx fx r fs w (by simpa using hw)) ⟨.bl _, H, I, rfl, ?_⟩
    rw [show its.toArray.any (eqU x) = its.any (eqU x) by simp, any_eqU r fs]
    exact q
theorem op_notIn_seq : OpR X (compareOp .NotIn) (rIn X.K true) := by
  intro pins s σ H x y v u Q I rx ry h
  obtain ⟨p, xs, rfl, hq, fx, fs, q⟩ := h
  cases ry
  rcases hq with hq | hq
  · obtain ⟨its, r, pl, hz⟩ := I.list hq
    refine SeqAt.notIn_listAt (eqU x) pl.isList (fun w hw => mem_eqAt rx fx r fs w (by simpa using hw)) ⟨.bl _, H, I, rfl, ?_⟩
    rw [show its.toArray.any (eqU x) = its.any (eqU x) by simp, any_eqU r fs]
    exact q
  · obtain ⟨its, r, pl, hz⟩ := I.tuple hq
    refine SeqAt.notIn_tupleAt (eqU x) pl (fun w hw => mem_eqAt rx fx r fs w (by simpa using hw)) ⟨.bl _, H, I, rfl, ?_⟩
    rw [show its.toArray.any (eqU x) = its.any (eqU x) by simp, any_eqU r fs]
    exact q
theorem op_notIn_str : OpR X (compareOp .NotIn) (fun x y H Q => ∃ i j, x = .str i ∧ y = .str j ∧ Q (.bl (!(!(Builtin.Str.occurrences j i 0 j.length 1).isEmpty))) H) := by
  intro pins s σ H x y v u Q I rx ry h
  obtain ⟨i, j, rfl, rfl, q⟩ := h
  obtain ⟨t, rfl⟩ := rx
  obtain ⟨t', rfl⟩ := ry
  exact notIn_str ⟨.bl _, H, I, rfl, q⟩

/-! ### len, list(x), tuple(x) of any list or tuple that is read -/
theorem call_len_seq : CallR X (.builtin "len") (fun xs H Q => ∃ p ys, xs = [.ref p] ∧ (SqL X.K H p ys ∨ SqT X.K H p ys) ∧ Q (.int ys.length) H) := by
  intro pins s σ H xs us Q I r h
  obtain ⟨p, ys, rfl, hq, q⟩ := h
  obtain ⟨u, rfl, rx⟩ := vals1 r
  cases rx
  have hn := line63
  rcases hq with hq | hq
  · obtain ⟨its, r', pl, hz⟩ := I.list hq
    have hlen := r'.length
    exact Calls.call_len_list pl.isList (by simp only [List.size_toArray] <;> omega) ⟨.int ys.length, H, I.tok _, ⟨s.toks + 1, by rw [List.size_toArray, hlen]⟩, q⟩
  · obtain ⟨its, r', pl, hz⟩ := I.tuple hq
    have hlen := r'.length
    exact len_tuple pl (by simp only [List.size_toArray] <;> omega) ⟨.int ys.length, H, I.tok _, ⟨s.toks + 1, by rw [List.size_toArray, hlen]⟩, q⟩
theorem call_len_str : CallR X (.builtin "len") (fun xs H Q => ∃ z, xs = [.str z] ∧ z.length ≤ sizeLine ∧ Q (.int z.length) H) := by
  intro pins s σ H xs us Q I r h
  obtain ⟨z, rfl, hz, q⟩ := h
  obtain ⟨u, rfl, t, rfl⟩ := vals1 r
  have hn := line63
  exact len_str (by omega) ⟨.int z.length, H, I.tok _, ⟨_, rfl⟩, q⟩
theorem CallR.or {f : Value} {r r' : List V → Hp → VK → Prop} (h : CallR X f r) (h' : CallR X f r') : CallR X f (fun xs H Q => r xs H Q ∨ r' xs H Q) := by
  intro pins s σ H xs us Q I rs q
  rcases q with q | q
  · exact h pins s σ H xs us Q I rs q
  · exact h' pins s σ H xs us Q I rs q
theorem call_list_of : CallR X (.type "list") (fun xs H Q => ∃ p ys, xs = [.ref p] ∧ (SqL X.K H p ys ∨ SqT X.K H p ys) ∧ ∀ l, H l = none → Q (.ref l) (upd H l (.lst ys))) := by
  intro pins s σ H xs us Q I r h
  obtain ⟨p, ys, rfl, hq, q⟩ := h
  obtain ⟨u, rfl, rx⟩ := vals1 r
  cases rx
  have fin : ∀ (its : List Value), Vals ys its → ys.length ≤ sizeLine → ∀ (h' : Heap) (c' : Nat), (∀ b o', s.heap.get? b = some o' → h'.get? b = some o') →
      h'.get? s.heap.objs.size = some { cls := .type "list", dict := none, data := .seq its.toArray c', slots := #[] } → EP X pins σ Q (.ref s.heap.objs.size) { s with heap := h' } := fun its r' hz h' c' kp e =>
    ⟨.ref s.heap.objs.size, _, I.laid (t' := s.toks) kp (Nat.le_refl _) (show ObjOk X.prog X.w _ h' _ (.lst ys) from ⟨hz, its, c', r', e⟩), rfl, q _ (I.hok.fresh (Nat.le_refl _))⟩
  rcases hq with hq | hq
  · obtain ⟨its, r', pl, hz⟩ := I.list hq
    have hlen := r'.length
    obtain ⟨o, ho, hc, n, hd⟩ := pl.isList
    exact call_list_seq p (.inl rfl) ho hc hd (fun h' c' kp e => fin its r' hz h' c' kp e) (by simp only [List.size_toArray] <;> omega)
  · obtain ⟨its, r', pl, hz⟩ := I.tuple hq
    have hlen := r'.length
    obtain ⟨o, ho, hc, n, hd⟩ := pl
    exact call_list_seq p (.inr rfl) ho hc hd (fun h' c' kp e => fin its r' hz h' c' kp e) (by simp only [List.size_toArray] <;> omega)
theorem call_tuple_of : CallR X (.type "tuple") (fun xs H Q => ∃ p ys, xs = [.ref p] ∧ ((SqL X.K H p ys ∧ ∀ l, H l = none → Q (.ref l) (upd H l (.tup ys))) ∨ (SqT X.K H p ys ∧ Q (.ref p) H))) := by
  intro pins s σ H xs us Q I r h
  obtain ⟨p, ys, rfl, h⟩ := h
  obtain ⟨u, rfl, rx⟩ := vals1 r
  cases rx
  rcases h with ⟨hq, q⟩ | ⟨hq, q⟩
  · obtain ⟨its, r', pl, hz⟩ := I.list hq
    have hlen := r'.length
    refine call_tuple_list pl.isList (fun h' kp => ?_) (by simp only [List.size_toArray] <;> omega)
    have I1 : Inv X pins σ H { s with heap := h' } := I.kept (t' := s.toks) kp
    have I2 : Inv X pins σ (upd H h'.objs.size (.tup ys)) { s with heap := h'.push { cls := .type "tuple", data := .seq its.toArray } } :=
      I1.laid (t' := s.toks) (fun b o e => Heap.get?_push_of_some _ e) (Nat.le_refl _) (show ObjOk X.prog X.w _ _ _ (.tup ys) from ⟨hz, its, r', TupD.new _ _⟩)
    exact ⟨.ref h'.objs.size, _, I2, rfl, q _ (I1.hok.fresh (Nat.le_refl _))⟩
  · obtain ⟨its, r', pl, hz⟩ := I.tuple hq
    exact call_tuple_same pl ⟨.ref p, H, I, rfl, q⟩

/-! ### the call of a builtin's method: o.m(..) -/
/-- the value is of that builtin type -/
def tyV (K : PySem.W.Frag) (T : String) (x : V) (H : Hp) : Prop := match x with
  | .str _ => T = "str"
  | .int _ => T = "int"
  | .ref p => (T = "list" ∧ ∃ xs, SqL K H p xs) ∨ (T = "tuple" ∧ ∃ o, K.lookup p = some o ∧ o.cls = .type "tuple" ∧ o.dict = none) ∨
      (T = "dict" ∧ ((∃ kvs, H p = some (.dK kvs)) ∨ ∃ kvs, H p = some (.dT kvs))) ∨ (T = "set" ∧ ∃ S n, H p = some (.set S n))
  | _ => False
theorem tyV_is {pins : List (Addr × Obj)} {σ : St} {H : Hp} {s : Shared} {T : String} {x : V} {v : Value} (I : Inv X pins σ H s) (r : RelV x v) (ty : tyV X.K T x H) :
    s.TypeIs v T ∧ ∀ a, v = .ref a → ∃ ob, s.heap.get? a = some ob ∧ ob.dict = none := by
  cases x with
  | str z =>
    obtain ⟨t, rfl⟩ := r
    cases (show T = "str" from ty)
    exact ⟨typeIs_str s z t, fun _ e => nomatch e⟩
  | int i =>
    obtain ⟨t, rfl⟩ := r
    cases (show T = "int" from ty)
    exact ⟨typeIs_int s i t, fun _ e => nomatch e⟩
  | ref p =>
    cases r
    rcases ty with ⟨rfl, xs, hq⟩ | ⟨rfl, o, hk, hc, hd⟩ | ⟨rfl, hk⟩ | ⟨rfl, S, n, hk⟩
    · obtain ⟨its, _, pl, _⟩ := I.list hq
      refine ⟨pl.isList.typeIs, fun a e => ?_⟩
      cases e
      obtain ⟨o, n, e, c, hd, _⟩ := pl
      exact ⟨o, e, hd⟩
    · refine ⟨⟨o, I.kIn p o hk, hc⟩, fun a e => ?_⟩
      cases e
      exact ⟨o, I.kIn _ o hk, hd⟩
    · have z : ∃ o, s.heap.get? p = some o ∧ o.ExactDict := by
        rcases hk with ⟨kvs, hk⟩ | ⟨kvs, hk⟩
        · obtain ⟨_, _, _, _, o, _, _, e, ex, _⟩ := I.hok p _ hk
          exact ⟨o, e, ex⟩
        · obtain ⟨_, _, _, _, o, _, _, e, ex, _⟩ := I.hok p _ hk
          exact ⟨o, e, ex⟩
      obtain ⟨o, e, ex⟩ := z
      refine ⟨⟨o, e, ex.1⟩, fun a e2 => ?_⟩
      cases e2
      exact ⟨o, e, ex.2.1⟩
    · obtain ⟨o, _, _, _, e, ex, _⟩ := I.hok p _ hk
      refine ⟨⟨o, e, ex.1⟩, fun a e2 => ?_⟩
      cases e2
      exact ⟨o, e, ex.2.1⟩
  | _ => exact False.elim ty
def tBM0 (K : PySem.W.Frag) (T : String) (r : V → List V → Hp → VK → Prop) (to : TE) : TE := fun σ H Q => to σ H fun x H1 => tyV K T x H1 ∧ r x [] H1 Q
def tBM (K : PySem.W.Frag) (T : String) (r : V → List V → Hp → VK → Prop) (to : TE) (t : TA) : TE := fun σ H Q => to σ H fun x H1 => tyV K T x H1 ∧ t σ H1 fun xs H2 => r x xs H2 Q
variable {o e : Expr} {es : List Expr} {to : TE} {t : TA} {name : Str} {apos cpos : Pos} {T id : String} {r : V → List V → Hp → VK → Prop}
theorem pe_bm0 (pa : PlainAttrs T) (slot : Slot T name id) (hty : typeOf (.builtin id) = pure (.type "method_descriptor")) (hm : MtR X id r) (ho : PE X o to)
    (hbase : attributeBase o name X.env (eval o X.env) = eval o X.env := by rfl) (hline : (apos.endLine == cpos.line) = true := by rfl) : PE X (.Call (.Attribute o name apos) [] [] cpos) (tBM0 X.K T r to) := by
  intro pins s σ H Q I h
  refine wpAny_Call_method0_late hbase hline (thn (ho pins s σ H _ I h) fun v s1 ⟨x, H1, I1, r1, ty, q1⟩ => ?_)
  obtain ⟨h1, h2⟩ := tyV_is I1 r1 ty
  exact ⟨T, id, pa, slot, hty, h1, h2, Calls.callWith_builtin rfl (PySem.evalArgs_none (hm pins s1 σ H1 x [] v [] Q I1 r1 .nil q1))⟩
theorem pe_bm (pa : PlainAttrs T) (slot : Slot T name id) (hty : typeOf (.builtin id) = pure (.type "method_descriptor")) (hm : MtR X id r) (ho : PE X o to) (ha : PA X (e :: es) t)
    (hbase : attributeBase o name X.env (eval o X.env) = eval o X.env := by rfl)
    (hfew : ((backTo cpos (starEach (e :: es) X.env)).all (fun x => !x.1) && (backToKw cpos (keywordEach [] X.env)).all (fun x => x.1.isSome)
      && decide ((e :: es).length + ([] : List Keyword).length + (if ([] : List Keyword).isEmpty then 0 else 1) < 30)) = true := by rfl)
    (hline : (apos.endLine == cpos.line) = true := by rfl) (hs : starEach (e :: es) X.env = (false, eval e X.env) :: starEach es X.env := by rfl) (hplain : (backTo cpos (starEach es X.env)).any (·.1) = false := by rfl) :
    PE X (.Call (.Attribute o name apos) (e :: es) [] cpos) (tBM X.K T r to t) := by
  intro pins s σ H Q I h
  refine wpAny_Call_method_late hbase hfew hline rfl (thn (ho pins s σ H _ I h) fun v s1 ⟨x, H1, I1, r1, ty, q1⟩ => ?_)
  obtain ⟨h1, h2⟩ := tyV_is I1 r1 ty
  refine ⟨T, id, pa, slot, hty, h1, h2, ?_⟩
  have hA := ha cpos pins s1 σ H1 _ I1 q1
  rw [hs] at hA ⊢
  refine Calls.callWith_builtin (by show (false || (backTo cpos (starEach es X.env)).any (·.1)) = false; rw [hplain] <;> rfl) (Calls.evalArgs_plain ?_)
  exact thn hA fun us s2 ⟨vs, H2, I2, r2, q2⟩ => hm pins s2 σ H2 x vs v us Q I2 r1 r2 q2
/- xs.append(e), list.index on a module's tuple .. are MtR facts of 06m -/
end
end L2

namespace L2
open PySem PySem.Spec PyProof.Rows

def MtM (X : Cx) (id : String) (r : V → List V → Hp → VK → Prop) : Prop :=
  ∀ (pins : List (Addr × Obj)) (s : Shared) (σ : St) (H : Hp) (x : V) (xs : List V) (v : Value) (us : List Value) (Q : VK), Inv X pins σ H s → RelV x v → Vals xs us → r x xs H Q →
    wpAny (model X.prog X.w) X.A (call (.builtin id) (v :: us)) (EP X pins σ Q) X.xe s

/-! ### lists of values -/
theorem Vals.one : ∀ {x : V} {us : List Value}, Vals [x] us → ∃ u, us = [u] ∧ RelV x u
  | _, _, .cons r .nil => ⟨_, rfl, r⟩
theorem Vals.two : ∀ {x y : V} {us : List Value}, Vals [x, y] us → ∃ u v, us = [u, v] ∧ RelV x u ∧ RelV y v
  | _, _, _, .cons r (.cons q .nil) => ⟨_, _, rfl, r, q⟩
theorem Vals.zero : ∀ {us : List Value}, Vals [] us → us = []
  | _, .nil => rfl
theorem Vals.dropLast {xs : List V} {us : List Value} (h : Vals xs us) : Vals xs.dropLast us.dropLast := by
  induction h with
  | nil => exact .nil
  | cons r t ih =>
    cases t with
    | nil => exact .nil
    | cons q t' => exact .cons r ih
theorem Vals.eraseIdx : ∀ {xs : List V} {us : List Value} (i : Nat), Vals xs us → Vals (xs.eraseIdx i) (us.eraseIdx i)
  | _, _, _, .nil => .nil
  | _, _, 0, .cons _ t => t
  | _, _, i + 1, .cons r t => .cons r (Vals.eraseIdx i t)
theorem Vals.reverse {xs : List V} {us : List Value} (h : Vals xs us) : Vals xs.reverse us.reverse := by
  induction h with
  | nil => exact .nil
  | cons r t ih => rw [List.reverse_cons, List.reverse_cons]; exact Vals.append ih (.cons r .nil)
theorem Vals.rep {xs : List V} {us : List Value} (h : Vals xs us) : ∀ k : Nat, Vals (List.replicate k xs).flatten (List.replicate k us).flatten
  | 0 => .nil
  | k + 1 => by
    rw [List.replicate_succ, List.replicate_succ, List.flatten_cons, List.flatten_cons]
    exact Vals.append h (Vals.rep h k)
theorem erase_last {α : Type} (l : List α) : l.eraseIdx (l.length - 1) = l.dropLast := by
  induction l with
  | nil => rfl
  | cons a r ih =>
    cases r with
    | nil => rfl
    | cons b r =>
      have e : (a :: b :: r).length - 1 = ((b :: r).length - 1) + 1 := by
        have h1 : (a :: b :: r).length = r.length + 2 := rfl
        have h2 : (b :: r).length = r.length + 1 := rfl
        omega
      rw [e, List.eraseIdx_cons_succ, ih]
      all_goals rfl
theorem len_erase {α : Type} : ∀ (l : List α) (i : Nat), (l.eraseIdx i).length ≤ l.length
  | [], _ => Nat.le_refl _
  | _ :: _, 0 => Nat.le_succ _
  | _ :: r, i + 1 => Nat.succ_le_succ (len_erase r i)
theorem foldl_rep (its : List Value) : ∀ (k : Nat) (acc : List Value),
    List.foldl (fun x1 x2 => x1 ++ x2) acc.toArray (List.replicate k its.toArray) = (acc ++ (List.replicate k its).flatten).toArray
  | 0, acc => by simp
  | k + 1, acc => by
    have e : acc.toArray ++ its.toArray = (acc ++ its).toArray := by simp
    have e2 : (acc ++ its) ++ (List.replicate k its).flatten = acc ++ (List.replicate (k + 1) its).flatten := by
      rw [List.replicate_succ, List.flatten_cons, List.append_assoc]
    rw [← e2, ← foldl_rep its k (acc ++ its), ← e, List.replicate_succ, List.foldl_cons]

section
variable {X : Cx} {pins : List (Addr × Obj)} {σ : St} {H : Hp} {s : Shared} {l b : Addr} {xs ys zs : List V}

/-! ### the two steps: a tracked list is rewritten, a new list is laid -/
theorem Inv.lset {its its' : List Value} {n : Nat} {f : Array Value → Array Value} {t' : Nat} (I : Inv X pins σ H s) (hH : H l = some (.lst xs))
    (e : s.heap.get? l = some { cls := .type "list", data := .seq its.toArray n }) (hf : f its.toArray = its'.toArray) (hv : Vals ys its') (hz : ys.length ≤ sizeLine) :
    Inv X pins σ (upd H l (.lst ys)) { s with heap := s.heap.update l (Obj.mapSeq f), toks := t' } := by
  have q := PySem.IsL.update e f
  rw [hf] at q
  refine I.write (x := l) (e := l) (by rw [hH]; exact trivial) (.inl rfl) (fun b' u hb hu => (Heap.get?_update_other s.heap (Obj.mapSeq f) (Ne.symm hb)).trans hu) ⟨_, q⟩ ?_
  exact ⟨hz, its', _, hv, q⟩
theorem Inv.lnew {its : List Value} {t' : Nat} (I : Inv X pins σ H s) (hv : Vals ys its) (hz : ys.length ≤ sizeLine) :
    Inv X pins σ (upd H s.heap.objs.size (.lst ys)) { s with heap := s.heap.push { cls := .type "list", data := .seq its.toArray }, toks := t' } :=
  I.laid (fun _ _ q => Heap.get?_push_of_some _ q) (Nat.le_refl _) ⟨hz, its, 0, hv, Heap.get?_push_size _ rfl⟩
theorem Inv.fresh (I : Inv X pins σ H s) : H s.heap.objs.size = none := I.hok.fresh (Nat.le_refl _)
theorem Inv.lstM (I : Inv X pins σ H s) (hH : H l = some (.lst xs)) : xs.length ≤ sizeLine ∧ ∃ (its : List Value) (n : Nat), Vals xs its ∧ xs.length = its.length ∧ s.heap.get? l = some { cls := .type "list", data := .seq its.toArray n } := by
  obtain ⟨z, its, n, r, e⟩ := I.hok l _ hH
  exact ⟨z, its, n, r, r.length, e⟩

theorem notLongL {n : Nat} (h : n ≤ sizeLine) : Builtin.List.listTooLong n = false := by
  unfold Builtin.List.listTooLong
  exact decide_eq_false (by omega)
end

section
variable {X : Cx}

/-! ### methods -/
def rAppend : V → List V → Hp → VK → Prop := fun x vs H Q => ∃ l xs y, x = .ref l ∧ vs = [y] ∧ H l = some (.lst xs) ∧ xs.length < sizeLine ∧ Q .non (upd H l (.lst (xs ++ [y])))
theorem mt_append : MtM X "list.append" rAppend := by
  intro pins s σ H x vs v us Q I rx rv h
  obtain ⟨l, xs, y, rfl, rfl, hH, hz, q⟩ := h
  cases rx
  obtain ⟨u, rfl, ru⟩ := rv.one
  obtain ⟨z, its, n, r, hl, e⟩ := I.lstM hH
  refine call_meets F.slot_list_append ⟨_, e, rfl⟩ F.entry_list_append (F.args_list_append_2 _ _) (PySem.list_append l its.toArray n u (by rw [List.size_toArray]; omega)) ⟨e, ?_⟩
  refine ⟨.non, _, I.lset (its' := its ++ [u]) hH e (by simp) (r.append (.cons ru .nil)) ?_, rfl, q⟩
  rw [List.length_append, List.length_singleton]
  omega

def rExtend : V → List V → Hp → VK → Prop := fun x vs H Q => ∃ l b xs zs, x = .ref l ∧ vs = [.ref b] ∧ H l = some (.lst xs) ∧ H b = some (.lst zs) ∧ xs.length + zs.length ≤ sizeLine ∧ Q .non (upd H l (.lst (xs ++ zs)))
theorem mt_extend : MtM X "list.extend" rExtend := by
  intro pins s σ H x vs v us Q I rx rv h
  obtain ⟨l, b, xs, zs, rfl, rfl, hH, hB, hz, q⟩ := h
  cases rx
  obtain ⟨u, rfl, ru⟩ := rv.one
  cases ru
  obtain ⟨z, its, n, r, hl, e⟩ := I.lstM hH
  obtain ⟨z2, its2, n2, r2, hl2, e2⟩ := I.lstM hB
  have hsz : its.toArray.size + its2.toArray.size ≤ sizeLine := by rw [List.size_toArray, List.size_toArray]; omega
  have hlong : ¬ (!its.toArray.isEmpty && Builtin.List.listTooLong (its.toArray.size + its2.toArray.size)) = true := by
    rw [notLongL hsz, Bool.and_false]
    exact Bool.false_ne_true
  refine call_meets F.slot_list_extend ⟨_, e, rfl⟩ F.entry_list_extend (F.args_list_extend_2 _ _)
    (AutoSeq1.list_extend_list_list_0 l its.toArray n b its2.toArray n2 hlong (by rw [List.size_toArray]; omega) (by omega)) ⟨e, e2, ?_⟩
  refine ⟨.non, _, I.lset (its' := its ++ its2) hH e (by simp) (r.append r2) ?_, rfl, q⟩
  rw [List.length_append]
  omega

def rPop : V → List V → Hp → VK → Prop := fun x vs H Q => ∃ l xs y, x = .ref l ∧ vs = [] ∧ H l = some (.lst xs) ∧ xs[xs.length - 1]? = some y ∧ Q y (upd H l (.lst xs.dropLast))
theorem mt_pop : MtM X "list.pop" rPop := by
  intro pins s σ H x vs v us Q I rx rv h
  obtain ⟨l, xs, y, rfl, rfl, hH, hy, q⟩ := h
  cases rx
  have hus := rv.zero
  subst hus
  obtain ⟨z, its, n, r, hl, e⟩ := I.lstM hH
  obtain ⟨u, hu, ru⟩ := r.get hy
  have hy' : its.toArray[its.toArray.size - 1]? = some u := by
    show its.toArray[its.length - 1]? = some u
    rw [← Array.getElem?_toList, ← hl]
    exact hu
  refine call_meets F.slot_list_pop ⟨_, e, rfl⟩ F.entry_list_pop (F.args_list_pop_1 _) (MeetsSeq.list_pop_last l its.toArray n u hy' (by rw [List.size_toArray]; omega)) ⟨e, ?_⟩
  refine ⟨y, _, I.lset (its' := its.dropLast) hH e ?_ r.dropLast ?_, ru, q⟩
  · show its.toArray.eraseIdxIfInBounds (its.toArray.size - 1) = its.dropLast.toArray
    rw [List.size_toArray, List.eraseIdxIfInBounds_toArray, erase_last]
  · rw [List.length_dropLast]
    omega

def rPopAt : V → List V → Hp → VK → Prop := fun x vs H Q => ∃ l xs i k y, x = .ref l ∧ vs = [.int i] ∧ H l = some (.lst xs) ∧ -(2 ^ 63) ≤ i ∧ i < 2 ^ 63 ∧ seqIndex? i xs.length = some k ∧ xs[k]? = some y ∧ Q y (upd H l (.lst (xs.eraseIdx k)))
theorem mt_popAt : MtM X "list.pop" rPopAt := by
  intro pins s σ H x vs v us Q I rx rv h
  obtain ⟨l, xs, i, k, y, rfl, rfl, hH, h1, h2, hk, hy, q⟩ := h
  cases rx
  obtain ⟨u, rfl, ru⟩ := rv.one
  obtain ⟨t, rfl⟩ := ru
  obtain ⟨z, its, n, r, hl, e⟩ := I.lstM hH
  obtain ⟨w, hw, rw'⟩ := r.get hy
  refine call_meets F.slot_list_pop ⟨_, e, rfl⟩ F.entry_list_pop (F.args_list_pop_2 _ _)
    (MeetsSeq.list_pop_at l its.toArray n i t k w (fitsIndex_both h1 h2) (by rw [List.size_toArray, ← hl]; exact hk) (by rw [← Array.getElem?_toList]; exact hw) (by rw [List.size_toArray]; omega)) ⟨e, ?_⟩
  refine ⟨y, _, I.lset (its' := its.eraseIdx k) hH e ?_ (r.eraseIdx k) ?_, rw', q⟩
  · show its.toArray.eraseIdxIfInBounds k = (its.eraseIdx k).toArray
    rw [List.eraseIdxIfInBounds_toArray]
  · have := len_erase xs k
    omega

def rReverse : V → List V → Hp → VK → Prop := fun x vs H Q => ∃ l xs, x = .ref l ∧ vs = [] ∧ H l = some (.lst xs) ∧ Q .non (upd H l (.lst xs.reverse))
theorem mt_reverse : MtM X "list.reverse" rReverse := by
  intro pins s σ H x vs v us Q I rx rv h
  obtain ⟨l, xs, rfl, rfl, hH, q⟩ := h
  cases rx
  have hus := rv.zero
  subst hus
  obtain ⟨z, its, n, r, hl, e⟩ := I.lstM hH
  refine call_meets F.slot_list_reverse ⟨_, e, rfl⟩ F.entry_list_reverse (F.args_list_reverse_1 _) (AutoSeq1.list_reverse_list_0 l its.toArray n (by rw [List.size_toArray]; omega)) ⟨e, ?_⟩
  refine ⟨.non, _, I.lset (its' := its.reverse) hH e (by simp) r.reverse ?_, rfl, q⟩
  rw [List.length_reverse]
  omega

def rClear : V → List V → Hp → VK → Prop := fun x vs H Q => ∃ l xs, x = .ref l ∧ vs = [] ∧ H l = some (.lst xs) ∧ Q .non (upd H l (.lst []))
theorem mt_clear : MtM X "list.clear" rClear := by
  intro pins s σ H x vs v us Q I rx rv h
  obtain ⟨l, xs, rfl, rfl, hH, q⟩ := h
  cases rx
  have hus := rv.zero
  subst hus
  obtain ⟨z, its, n, r, hl, e⟩ := I.lstM hH
  refine call_meets F.slot_list_clear ⟨_, e, rfl⟩ F.entry_list_clear (F.args_list_clear_1 _) (AutoSeq1.list_clear_list_0 l its.toArray n (by rw [List.size_toArray]; omega)) ⟨e, ?_⟩
  exact ⟨.non, _, I.lset (its' := []) (ys := []) hH e rfl .nil (Nat.zero_le _), rfl, q⟩

/-! ### list + list, list += list, list * int -/
def rCat : R2 := fun x y H Q => ∃ l b xs zs, x = .ref l ∧ y = .ref b ∧ H l = some (.lst xs) ∧ H b = some (.lst zs) ∧ xs.length + zs.length ≤ sizeLine ∧ ∀ p, H p = none → Q (.ref p) (upd H p (.lst (xs ++ zs)))
theorem op_cat : OpR X (binaryOp .Add) rCat := by
  intro pins s σ H x y v u Q I rx ry h
  obtain ⟨l, b, xs, zs, rfl, rfl, hH, hB, hz, q⟩ := h
  cases rx
  cases ry
  obtain ⟨z, its, n, r, hl, e⟩ := I.lstM hH
  obtain ⟨z2, its2, n2, r2, hl2, e2⟩ := I.lstM hB
  refine PySem.P.add_list e e2 ?_ (by rw [List.size_toArray, List.size_toArray]; omega)
  have ea : its.toArray ++ its2.toArray = (its ++ its2).toArray := by simp
  rw [ea]
  exact ⟨.ref _, _, I.lnew (t' := s.toks) (r.append r2) (by rw [List.length_append]; omega), rfl, q _ I.fresh⟩
/-- a list times an int (a negative one is nothing) -/
def rRep : R2 := fun x y H Q => ∃ l k xs, x = .ref l ∧ y = .int k ∧ H l = some (.lst xs) ∧ -(2 ^ 63) ≤ k ∧ k < 2 ^ 63 ∧ xs.length * k.toNat ≤ sizeLine ∧
  ∀ p, H p = none → Q (.ref p) (upd H p (.lst (List.replicate k.toNat xs).flatten))
theorem len_rep {α : Type} (xs : List α) (k : Nat) : (List.replicate k xs).flatten.length = k * xs.length := by
  induction k with
  | zero => simp
  | succ k ih => rw [List.replicate_succ, List.flatten_cons, List.length_append, ih, Nat.succ_mul, Nat.add_comm]
theorem op_rep : OpR X (binaryOp .Mult) rRep := by
  intro pins s σ H x y v u Q I rx ry h
  obtain ⟨l, k, xs, rfl, rfl, hH, h1, h2, hz, q⟩ := h
  cases rx
  obtain ⟨t, rfl⟩ := ry
  obtain ⟨z, its, n, r, hl, e⟩ := I.lstM hH
  have hlen : its.toArray.size * k.toNat ≤ sizeLine := by rw [List.size_toArray, ← hl]; exact hz
  have hcap : ¬ its.toArray.size * k.toNat > (2 ^ 63 - 1) / 8 := by
    have : (sizeLine : Nat) ≤ (2 ^ 63 - 1) / 8 := by decide
    omega
  have hfit : ¬ (!Builtin.List.listFitsIndex k) = true := by
    rw [fitsIndex_both h1 h2]
    exact Bool.false_ne_true
  have hlong : ¬ Builtin.List.listTooLong (its.toArray.size * k.toNat) = true := by
    rw [notLongL hlen]
    exact Bool.false_ne_true
  have hnew : List.foldl (fun x1 x2 => x1 ++ x2) #[] (List.replicate (if its.toArray.isEmpty = true then 0 else k.toNat) its.toArray) = (List.replicate k.toNat its).flatten.toArray := by
    have f0 : ∀ m : Nat, List.foldl (fun x1 x2 => x1 ++ x2) #[] (List.replicate m its.toArray) = (List.replicate m its).flatten.toArray := fun m => by
      have := foldl_rep its m []
      rw [List.nil_append] at this
      exact this
    rw [f0]
    cases its with
    | nil => simp
    | cons a r' => rw [if_neg (by simp)]
  refine wpAny_binaryOp_repeat_ref (T := "list") (U := "int") (by decide) ⟨_, e, rfl⟩ (fun s' => typeIs_int s' k t) noFill_list_mul F.fills_int_mul F.slot_int_rmul repeat_list F.slot_int_index.lookup
    (call_meets F.slot_int_rmul (typeIs_int s k t) F.entry_int_rmul (F.args_int_rmul_2 _ _) (int___rmul___int_list k t l its.toArray n)
      ⟨e, rfl, ⟨_, e, rfl⟩, call_meets F.slot_list_mul ⟨_, e, rfl⟩ F.entry_list_mul (F.args_list_mul_2 _ _) (AutoListH.list___mul___list_int_3 l its.toArray n k t hfit hcap hlong) ⟨e, ?_⟩⟩)
  rw [hnew]
  exact ⟨.ref _, _, I.lnew (t' := s.toks) (r.rep k.toNat) (by rw [len_rep, Nat.mul_comm]; exact hz), rfl, q _ I.fresh⟩

/-! ### del xs[i] -/
theorem del_list {pins : List (Addr × Obj)} {s : Shared} {σ : St} {H : Hp} {l : Addr} {xs : List V} {i : Int} {t : Tok} {k : Nat} {Q : Unit → Shared → Prop} (I : Inv X pins σ H s) (hH : H l = some (.lst xs))
    (h1 : -(2 ^ 63) ≤ i) (h2 : i < 2 ^ 63) (hk : seqIndex? i xs.length = some k) (h : ∀ s', Inv X pins σ (upd H l (.lst (xs.eraseIdx k))) s' → Q () s') :
    wpAny (model X.prog X.w) X.A (delItem (.ref l) (.int i t)) Q X.xe s := by
  obtain ⟨z, its, n, r, hl, e⟩ := I.lstM hH
  refine PySem.P.delItem_list (k := k) e (fitsIndex_both h1 h2) (by rw [List.size_toArray, ← hl]; exact hk) (h _ ?_) (by rw [List.size_toArray]; omega)
  refine I.lset (its' := its.eraseIdx k) (t' := s.toks) hH e ?_ (r.eraseIdx k) ?_
  · show its.toArray.eraseIdxIfInBounds k = (its.eraseIdx k).toArray
    rw [List.eraseIdxIfInBounds_toArray]
  · have := len_erase xs k
    omega
end

/-! ### xs[a:b] = ys -/
section
variable {prog : Program} {w : World} {A : Around} {E : Value → Shared → Prop} {s : Shared}
theorem splice_eq (its its2 : List Value) (a c : Nat) : its.toArray.extract 0 a ++ its2.toArray ++ its.toArray.extract c its.toArray.size = (its.take a ++ its2 ++ its.drop c).toArray := by
  apply Array.toList_inj.mp
  first
    | (simp
       exact List.take_of_length_le (by simp))
    | simp [List.take_of_length_le]
    | simp
theorem bounds_run {a c n : Nat} (hac : a ≤ c) (hc : c ≤ n) : sliceBounds (some (a : Int)) (some (c : Int)) none n = ((a : Int), (c : Int), 1) := by
  simp only [sliceBounds, Option.getD_none]
  have h1 : ¬ ((a : Int) < 0) := by omega
  have h2 : ¬ ((c : Int) < 0) := by omega
  simp only [h1, h2, if_false, show (1 : Int) > 0 by decide, if_true]
  congr 1
  · omega
  · congr 1; omega
set_option maxRecDepth 100000 in
/-- list.__setitem__ with a slice of step one and another list -/
theorem setItem_slice {l b sl : Addr} {items new : Array Value} {n n2 : Nat} {vl vu : Value} {a c : Nat} {Q : Unit → Shared → Prop}
    (e : s.heap.get? l = some { cls := .type "list", data := .seq items n }) (e2 : s.heap.get? b = some { cls := .type "list", data := .seq new n2 }) (hne : l ≠ b)
    (hs : s.heap.IsSliceOf sl vl vu .none) (pl : IsPart vl (some (a : Int))) (pu : IsPart vu (some (c : Int))) (hac : a ≤ c) (hc : c ≤ items.size)
    (hsz : items.size + new.size ≤ sizeLine) (h : Q () { s with heap := s.heap.update l (Obj.mapSeq fun xs => xs.extract 0 a ++ new ++ xs.extract c xs.size) }) :
    wpAny (model prog w) A (setItem (.ref l) (.ref sl) (.ref b)) Q E s := by
  have hl : s.heap.IsList l items := PySem.IsL.isList e
  have hb : s.heap.IsList b new := PySem.IsL.isList e2
  obtain ⟨os, hos, hcs, hds⟩ := id hs
  have hTs : s.TypeIs (.ref sl) "slice" := ⟨os, hos, hcs⟩
  have hstep : ¬ ((rawPart none == rawInt 0) = true) := Bool.false_ne_true
  have hsame : Builtin.List.listSameRef (.ref l) (.ref b) = false := by
    unfold Builtin.List.listSameRef
    exact beq_eq_false_iff_ne.mpr hne
  have hmax : (max (a : Int) (c : Int)).toNat = c := by omega
  have hz' : ((fun xs : Array Value => xs.extract 0 a ++ new ++ xs.extract c xs.size) items).size ≤ sizeLine + 1 := by
    simp only [Array.size_append, Array.size_extract]
    omega
  unfold setItem
  try with_reducible refine wpAny_holding ?_
  first | refine wpAny_bind (wpAny_pure ?_) | skip
  refine wpAny_bind (wpAny_sequenceKey hl.typeIs (by decide) ?_)
  refine wpAny_bind (wpAny_callSpecial?_slot (name := Str.ofString "__setitem__") hl.typeIs slot_list_setitem
    (wpAny_call_entry slot_list_setitem hl.typeIs entry_list_setitem ?_ (args_list_setitem _ _ _)))
  show wpAny _ _ (Builtin.List.listSubscript? (.ref sl) >>= _) _ _ s
  refine wpAny_bind ?_
  unfold Builtin.List.listSubscript?
  refine wpAny_bind (wpAny_specialOf hTs slice_no_index ?_)
  simp only [Option.isNone_none, if_true]
  refine wpAny_pure ?_
  show wpAny _ _ (typeOf (.ref sl) >>= _) _ _ s
  refine wpAny_bind (wpAny_typeOf hTs ?_)
  first
    | rw [if_neg (by decide)]
    | refine PySem.W.KFB.if_not (by decide) ?_
  rw [listSliceParts_eq]
  refine wpAny_bind (wpAny_bind (wpAny_field hos hds (x := .none) rfl (wpAny_bind (wpAny_listPart .none ?_))))
  rw [if_neg hstep]
  refine wpAny_bind (wpAny_field hos hds (x := vl) rfl (wpAny_bind (wpAny_listPart pl ?_)))
  refine wpAny_bind (wpAny_field hos hds (x := vu) rfl (wpAny_bind (wpAny_listPart pu (wpAny_pure ?_))))
  first
    | simp only [hsame, Bool.false_eq_true, if_false]
    | refine PySem.W.KFB.if_not hsame ?_
    | (dsimp only
       rw [if_neg (by rw [hsame]; exact Bool.false_ne_true)])
  refine wpAny_bind (m := Builtin.List.listAllItems (.ref b) "must assign iterable to extended slice") ?_
  unfold Builtin.List.listAllItems
  refine wpAny_bind (wpAny_typeOf hb.typeIs ?_)
  first
    | refine PySem.W.KFB.if_so (by decide) ?_
    | rw [if_pos (by decide)]
    | simp only [beq_self_eq_true, Bool.true_or, if_true]
  unfold Builtin.List.listItems
  refine wpAny_bind (wpAny_seqItems e2 rfl (wpAny_pure ?_))
  refine wpAny_bind (wpAny_bind (wpAny_seqItems e rfl (wpAny_pure ?_)))
  refine wpAny_bind (wpAny_of_eq ((sliceIndices_raw (some (a : Int)) (some (c : Int)) none items.size (by simp)).trans (congrArg (pure : Int × Int × Int → Sem (Int × Int × Int)) (bounds_run hac hc))) ?_)
  show wpAny _ _ (if ((1 : Int) == 1) = true then _ else _) _ _ s
  rw [if_pos (by decide)]
  refine wpAny_bind (wpAny_rule ?_)
  first
    | simp only [notLongL hsz, Bool.false_eq_true, if_false]
    | refine PySem.W.KFB.if_not (notLongL hsz) ?_
  first | refine wpAny_bind (wpAny_pure ?_) | skip
  show wpAny _ _ (updateSeq l (fun xs => xs.extract 0 ((a : Int)).toNat ++ new ++ xs.extract (max (a : Int) (c : Int)).toNat xs.size) >>= _) _ _ s
  rw [hmax, Int.toNat_natCast]
  refine wpAny_bind (wpAny_updateSeq (hz := Nat.le_trans (Nat.le_add_right _ _) hsz) (_hz' := hz') e rfl ?_)
  refine wpAny_bind (wpAny_letGo ?_)
  first
    | exact wpAny_bind (wpAny_pure (wpAny_pure ⟨.none, rfl, wpAny_pure h⟩))
    | exact wpAny_pure ⟨.none, rfl, wpAny_pure h⟩
end

section
variable {X : Cx}
/-- xs[a:c] = ys of another list, at the value level: sl is the slice object that was just made -/
theorem set_slice {pins : List (Addr × Obj)} {s : Shared} {σ : St} {H : Hp} {l b sl : Addr} {xs ys : List V} {a c : Int} {vl vu : Value} {Q : Unit → Shared → Prop} (I : Inv X pins σ H s)
    (hH : H l = some (.lst xs)) (hB : H b = some (.lst ys)) (hne : l ≠ b) (hs : s.heap.IsSliceOf sl vl vu .none) (ra : RelV (.int a) vl) (rc : RelV (.int c) vu) (h0 : 0 ≤ a) (hac : a ≤ c) (hc : c ≤ xs.length)
    (hz : xs.length + ys.length ≤ sizeLine) (h : ∀ s', Inv X pins σ (upd H l (.lst (xs.take a.toNat ++ ys ++ xs.drop c.toNat))) s' → Q () s') :
    wpAny (model X.prog X.w) X.A (setItem (.ref l) (.ref sl) (.ref b)) Q X.xe s := by
  obtain ⟨ta, rfl⟩ := ra
  obtain ⟨tc, rfl⟩ := rc
  obtain ⟨z, its, n, r, hl, e⟩ := I.lstM hH
  obtain ⟨z2, its2, n2, r2, hl2, e2⟩ := I.lstM hB
  obtain ⟨a', rfl⟩ := Int.eq_ofNat_of_zero_le h0
  obtain ⟨c', rfl⟩ := Int.eq_ofNat_of_zero_le (Int.le_trans h0 hac)
  simp only [Int.toNat_natCast] at h
  refine setItem_slice (a := a') (c := c') e e2 hne hs (.int _ _) (.int _ _) (by omega) (by rw [List.size_toArray]; omega) (by rw [List.size_toArray, List.size_toArray]; omega) (h _ ?_)
  refine I.lset (its' := its.take a' ++ its2 ++ its.drop c') (t' := s.toks) hH e ?_ (Vals.append (Vals.append (r.take _) r2) (r.drop _)) ?_
  · exact splice_eq its its2 a' c'
  · rw [List.length_append, List.length_append, List.length_take, List.length_drop]
    omega
end
end L2

namespace Att
open PySem PySem.W PySem.Calls PyProof.Rows

/-! ### the script -/
theorem ints_of_wellAll {P : Params} {h : Heap} : ∀ (ns : List Int) (vs : List Value), WellAll P h vs (ns.map WData.int) → IntsAre vs ns := by
  intro ns
  induction ns with
  | nil =>
    intro vs w
    rw [List.map_nil] at w
    cases w
    exact .nil
  | cons n ns ih =>
    intro vs w
    rw [List.map_cons] at w
    cases w with
    | cons a b =>
      cases a
      exact .cons _ _ (ih _ b)

theorem script_of {l : OpenLaw} {n : Nat} (hn : l.most = some n) {P : Params} {h : Heap} {args : List WData} {vals : List Value}
    (hpre : l.row.toRowW.claim.pre args = true) (hwl : WellAll P h vals args) :
    ∃ a vs ns, vals = [Value.ref a] ∧ args = [WData.list (ns.map WData.int)] ∧ h.get? a = some { cls := .type "list", data := .seq vs.toArray } ∧ IntsAre vs ns ∧ ns.length ≤ n := by
  have hsh : WShape.hasAll [] args [.list .int] = true := (pre_splitW hpre).1
  have hc : l.pre.holds [] { args := args } = true := (pre_splitW hpre).2
  obtain ⟨d, r, rfl, h1, h2⟩ := hasAllW_cons hsh
  obtain rfl := hasAllW_nil h2
  obtain ⟨xs, rfl, h3⟩ := hasW_list h1
  obtain ⟨ns, rfl⟩ := items_int h3
  have hlen : ns.length ≤ n := by
    unfold OpenLaw.pre at hc
    have h4 : (WTm.not (.lt (.lit (.int (n : Int))) (.len (.arg 0)))).holds [] { args := [.list (ns.map .int)] } = true := by
      have h4 := (holds_andW hc).1
      rw [hn] at h4
      exact h4
    have h5 := condW_of h4 (w_not (w_lt w_lit (w_len_list (w_arg rfl))))
    rw [List.length_map] at h5
    refine Nat.le_of_not_lt fun q => ?_
    have q' : (n : Int) < ((ns.length : Nat) : Int) := by omega
    first
      | (rw [decide_eq_true q'] at h5; exact absurd h5 (by decide))
      | (simp at h5; omega)
  cases hwl with
  | cons w1 w2 =>
    cases w2
    cases w1 with
    | list ho hall => exact ⟨_, _, ns, rfl, rfl, ho, ints_of_wellAll ns _ hall, hlen⟩

theorem post_true (l : OpenLaw) (args : List WData) : l.row.toRowW.claim.post args (.bool true) args = true :=
  postW_of (r := l.row.toRowW) (X := (true == true))
    (show WShape.has [] (.bool true) .bool = true by first | rfl | decide | simp [WShape.has, WShape.arms, WShape.armsAll])
    (show (WTm.eq .res (.lit (.bool true))).value [] { args := args, res := some (.bool true), after := args } = some (.bool (true == true)) from w_eq_bool (w_res rfl) w_lit) rfl

/-! ### the attachment: holds_open's last premise (the goal 'hc' behind k_head) from a wpAny of the law's body -/
theorem attach {l : OpenLaw} {n : Nat} {q : Program} {loose : List Str} {XP : (Str → Option Value) → Heap → Prop} {YP : World → Heap → Prop} {d : DefRec} {x : Str}
    (hn : l.most = some n) (hdf : d.params.defaults = [])
    (hbind : ∀ pm cd doc v : Value, bindArgs (docDef d.name d.params d.body d.scope pm cd doc) ⟨[v], []⟩ = pure [(x, v)])
    (hx : d.scope.names.lookup x = some .local ∨ d.scope.names.lookup x = some .cell)
    (hk : d.scope.kind = .function) (hco : d.scope.isCoroutine = false) (hgen : d.scope.isGenerator = false)
    (body : ∀ (w : World) (s₀ s₁ s : Shared) (mg mb : Str → Option Value) (fa : Addr) (o : Obj) (pm cd doc : Value) (a : Addr) (vs : List Value) (ns : List Int),
      Ground q loose [] XP w s₀ mg mb s₁.heap → YP w s₁.heap →
      s₁.heap.get? fa = some o → o.data = .func (docDef d.name d.params d.body d.scope pm cd doc) → s₁.heap.CodeRec cd d.name → mg d.name = some (.ref fa) →
      s₁.heap.get? a = some { cls := .type "list", data := .seq vs.toArray } → IntsAre vs ns → ns.length ≤ n →
      s.gens = #[] → s.os = s₁.os →
      Fr s₁.heap s₁.heap.objs.size s.heap (bindL (envOfC d.name d.scope s₁.heap.objs.size fa cd).kindOf [(x, .ref a)] fun _ => none) →
      Cl s₁.heap.objs.size (cellsFrom (s₁.heap.objs.size + 1) d.scope.names []) s.heap (bindC (envOfC d.name d.scope s₁.heap.objs.size fa cd).kindOf [(x, .ref a)] fun _ => none) →
      wpAny (model l.prog w) (callerA.deeper (envOfC d.name d.scope s₁.heap.objs.size fa cd)) (execs d.body (envOfC d.name d.scope s₁.heap.objs.size fa cd))
        (fun f s' => f = .ret (.bool true) ∧ OldK s₁.heap s'.heap ∧ s'.os = s₁.os ∧ AllBare s'.gens) (fun _ _ => False) s) :
    WalkO q loose XP YP l.row.toRowW d [] (fun f vs => PySem.call f vs) := by
  intro w s₀ s₁ mg mb G Y fa o pm cd doc dV kV ho hd hcd hD hmg hg args vals as hpre hlay hrd hwl hlo
  obtain rfl : dV = .none := Dflts.none hD hdf
  obtain rfl : kV = .none := Dflts.noKw hD
  obtain ⟨a, vs, ns, rfl, rfl, hobj, hints, hlen⟩ := script_of hn hpre hwl
  refine enter_call ?_
  refine call_cells_ret (o := o) (by rw [depth_caller]; decide) ho (fd_plain hd) G.T.nolimit hcd (hbind pm cd doc (.ref a)) (fun y hy => ?_) (fun h₁ tk F X => ?_) hco hgen hk
  · obtain rfl : y = (x, Value.ref a) := List.mem_singleton.mp hy
    rcases hx with e | e
    · exact .inl e
    · exact .inr ⟨e, cellsFrom_some _ _ _ (.inl e)⟩
  · refine wpAny_mono (body w s₀ s₁ { s₁ with heap := h₁, toks := tk } mg mb fa o pm cd doc a vs ns G Y ho (fd_plain hd) hcd hmg hobj hints hlen hg rfl F X) (fun f s' hq => ?_) (fun _ _ hq => hq)
    obtain ⟨rfl, h2, h3, h4⟩ := hq
    exact ⟨.inl ⟨.bool true, .bool true, [], rfl, fun _ => rfl, .bool true, post_true l _, fun _ => ⟨List.Pairwise.nil, fun _ hm => (nomatch hm)⟩⟩, h2, h3, h4⟩

/-- the same from a codeAny of the CALL (for a layer whose function contracts speak of calls) -/
theorem attach_call {l : OpenLaw} {n : Nat} {q : Program} {loose : List Str} {XP : (Str → Option Value) → Heap → Prop} {YP : World → Heap → Prop} {d : DefRec}
    (hn : l.most = some n) (hdf : d.params.defaults = [])
    (call : ∀ (w : World) (s₀ s₁ : Shared) (mg mb : Str → Option Value) (fa : Addr) (o : Obj) (pm cd doc : Value) (a : Addr) (vs : List Value) (ns : List Int),
      Ground q loose [] XP w s₀ mg mb s₁.heap → YP w s₁.heap →
      s₁.heap.get? fa = some o → o.data = .func (docDef d.name d.params d.body d.scope pm cd doc) → s₁.heap.CodeRec cd d.name → mg d.name = some (.ref fa) →
      s₁.heap.get? a = some { cls := .type "list", data := .seq vs.toArray } → IntsAre vs ns → ns.length ≤ n → s₁.gens = #[] →
      codeAny (model l.prog w) callerA (.call (.ref fa) ⟨[.ref a], []⟩) (fun r s' => r = .ok (.ret (.bool true)) ∧ OldK s₁.heap s'.heap ∧ s'.os = s₁.os ∧ AllBare s'.gens) s₁) :
    WalkO q loose XP YP l.row.toRowW d [] (fun f vs => PySem.call f vs) := by
  intro w s₀ s₁ mg mb G Y fa o pm cd doc dV kV ho hd hcd hD hmg hg args vals as hpre hlay hrd hwl hlo
  obtain rfl : dV = .none := Dflts.none hD hdf
  obtain rfl : kV = .none := Dflts.noKw hD
  obtain ⟨a, vs, ns, rfl, rfl, hobj, hints, hlen⟩ := script_of hn hpre hwl
  refine enter_call (codeAny_mono (call w s₀ s₁ mg mb fa o pm cd doc a vs ns G Y ho (fd_plain hd) hcd hmg hobj hints hlen hg) fun r s' hq => ?_)
  obtain ⟨rfl, h2, h3, h4⟩ := hq
  exact ⟨.inl ⟨.bool true, .bool true, [], rfl, fun _ => rfl, .bool true, post_true l _, fun _ => ⟨List.Pairwise.nil, fun _ hm => (nomatch hm)⟩⟩, h2, h3, h4⟩

/-- the same where the top left finished generators (o_head chose holds_openN): nothing may have changed at all and no generator may be left -/
theorem attachN {l : OpenLaw} {n : Nat} {q : Program} {loose : List Str} {XP : (Str → Option Value) → Heap → Prop} {YP : World → Heap → Prop} {d : DefRec} {x : Str}
    (hn : l.most = some n) (hdf : d.params.defaults = [])
    (hbind : ∀ pm cd doc v : Value, bindArgs (docDef d.name d.params d.body d.scope pm cd doc) ⟨[v], []⟩ = pure [(x, v)])
    (hx : d.scope.names.lookup x = some .local ∨ d.scope.names.lookup x = some .cell)
    (hk : d.scope.kind = .function) (hco : d.scope.isCoroutine = false) (hgen : d.scope.isGenerator = false)
    (body : ∀ (w : World) (s₀ s₁ s : Shared) (mg mb : Str → Option Value) (fa : Addr) (o : Obj) (pm cd doc : Value) (a : Addr) (vs : List Value) (ns : List Int),
      Ground q loose [] XP w s₀ mg mb s₁.heap → YP w s₁.heap →
      s₁.heap.get? fa = some o → o.data = .func (docDef d.name d.params d.body d.scope pm cd doc) → s₁.heap.CodeRec cd d.name → mg d.name = some (.ref fa) →
      s₁.heap.get? a = some { cls := .type "list", data := .seq vs.toArray } → IntsAre vs ns → ns.length ≤ n →
      s.gens = #[] → s.os = s₁.os →
      Fr s₁.heap s₁.heap.objs.size s.heap (bindL (envOfC d.name d.scope s₁.heap.objs.size fa cd).kindOf [(x, .ref a)] fun _ => none) →
      Cl s₁.heap.objs.size (cellsFrom (s₁.heap.objs.size + 1) d.scope.names []) s.heap (bindC (envOfC d.name d.scope s₁.heap.objs.size fa cd).kindOf [(x, .ref a)] fun _ => none) →
      wpAny (model l.prog w) (callerA.deeper (envOfC d.name d.scope s₁.heap.objs.size fa cd)) (execs d.body (envOfC d.name d.scope s₁.heap.objs.size fa cd))
        (fun f s' => f = .ret (.bool true) ∧ (∀ b o, s₁.heap.get? b = some o → s'.heap.get? b = some o) ∧ s'.os = s₁.os ∧ s'.gens = #[]) (fun _ _ => False) s) :
    WalkN q loose XP YP l.row.toRowW d [] (fun f vs => PySem.call f vs) := by
  intro w s₀ s₁ mg mb G Y fa o pm cd doc dV kV ho hd hcd hD hmg hg args vals as hpre hlay hrd hwl hlo
  obtain rfl : dV = .none := Dflts.none hD hdf
  obtain rfl : kV = .none := Dflts.noKw hD
  obtain ⟨a, vs, ns, rfl, rfl, hobj, hints, hlen⟩ := script_of hn hpre hwl
  refine enter_callW ?_
  refine call_cells_ret (o := o) (by rw [depth_caller]; decide) ho (fd_plain hd) G.T.nolimit hcd (hbind pm cd doc (.ref a)) (fun y hy => ?_) (fun h₁ tk F X => ?_) hco hgen hk
  · obtain rfl : y = (x, Value.ref a) := List.mem_singleton.mp hy
    rcases hx with e | e
    · exact .inl e
    · exact .inr ⟨e, cellsFrom_some _ _ _ (.inl e)⟩
  · refine wpAny_mono (body w s₀ s₁ { s₁ with heap := h₁, toks := tk } mg mb fa o pm cd doc a vs ns G Y ho (fd_plain hd) hcd hmg hobj hints hlen hg rfl F X) (fun f s' hq => ?_) (fun _ _ hq => hq)
    obtain ⟨rfl, h2, h3, h4⟩ := hq
    exact ⟨.inl ⟨.bool true, .bool true, [], rfl, fun _ => rfl, .bool true, post_true l _, fun _ => ⟨List.Pairwise.nil, fun _ hm => (nomatch hm)⟩⟩, h2, h3, h4⟩

/-! ### rules over ANY heap (no ledger) from facts about the written part K: the library's own take a ledger (News) for what they write -/
section
variable {prog : Program} {w : World} {A : Around} {E : Value → Shared → Prop} {s : Shared} {K : Frag}

/-- a def of the module, or a method (qual 'C.m'), entered: the frame is the next address; cells behind it -/
theorem call_fn {R : Result → Shared → Prop} {name qual : Str} {params : Arguments} {body : List Stmt} {scope : Scope} {dV kV doc pm cdv ct oc : Value} {an od : Option Addr} {osl : Array (Option Value)} {f : Addr} {args : Args} {binds : List (Str × Value)}
    (X : K.In s.heap) (hlim : s.heap.NoLimit) (ho : K.lookup f = some ⟨oc, od, .func (fnOf name qual params body scope dV kV doc pm an cdv ct), osl⟩) (hcd : codeIn K cdv qual = true) (hroom : A.depth < recursionLimit)
    (hbind : BindsTo s (fnOf name qual params body scope dV kV doc pm an cdv ct) args binds)
    (hkind : (binds.all fun y => scope.names.lookup y.1 == some .local || scope.names.lookup y.1 == some .cell) = true)
    (h : ∀ s₁, InCallC s s.heap.objs.size (bindL (envOfC qual scope s.heap.objs.size f cdv).kindOf binds fun _ => none) (cellsFrom (s.heap.objs.size + 1) scope.names [])
        (bindC (envOfC qual scope s.heap.objs.size f cdv).kindOf binds fun _ => none) s₁ →
      wpAny (model prog w) (A.deeper (envOfC qual scope s.heap.objs.size f cdv)) (execs body (envOfC qual scope s.heap.objs.size f cdv))
        (fun fl s' => R (.ok (.ret (match fl with | .ret v => v | _ => .none))) s')
        (fun e s' => wpAny (model prog w) (A.deeper (envOfC qual scope s.heap.objs.size f cdv)) (leaving (envOfC qual scope s.heap.objs.size f cdv) e) (fun _ s'' => R (.error e) s'') (fun e' s'' => R (.error e') s'') s') s₁)
    (hco : scope.isCoroutine = false) (hgen : scope.isGenerator = false) (hk : scope.kind = .function) : codeAny (model prog w) A (.call (.ref f) args) R s := by
  refine codeAny_call_function hroom (X _ _ ho) rfl hco hgen rfl (codeRec_of X hcd) (hbind _ _ _ _ ?_)
  refine wpAny_newFunctionEnv_cells hk (kindsX hkind _) fun env he s₁ x => ?_
  subst he
  exact ⟨hlim.keeps x.toInCall.keep, codeAny_func (h s₁ x)⟩

/-- C(..): dict at size, instance at size + 1, then __init__ -/
theorem make_obj {R : Result → Shared → Prop} {C fI : Addr} {rest : List Value} {kw : List (Str × Value)}
    (X : K.In s.heap) (hm : makesIn K C = true) (hi : findIn K (.ref C) "__init__" = some (some (.ref fI))) (hf : isFn K (.ref fI) = true)
    (h : codeAny (model prog w) (A.under (.builtin "type.__call__" ⟨.ref C :: rest, kw⟩)) (.call (.ref fI) ⟨.ref (s.heap.objs.size + 1) :: rest, kw⟩) (InitBack (s.heap.objs.size + 1) R)
      { s with heap := (s.heap.push emptyDict).push (instObj C s.heap.objs.size) }) : codeAny (model prog w) A (.call (.ref C) ⟨rest, kw⟩) R s := by
  obtain ⟨hh, g, d, t, os⟩ := s
  exact make_core (makes_of X hm) (looks_findIn X hi) (fun self => bind_fn X self (beq_iff_eq.mp hf)) (.inl rfl) h

/-- x.name where the instance's dict holds the name and the class does not -/
theorem get_field {x C : Addr} {ox : Obj} {es : List DictEntry} {n : Nat} {name : Str} {expr : Bool} {v : Value} {Q : Value → Shared → Prop}
    (X : K.In s.heap) (I : PySem.W.InstAt s.heap x ox C (some (dictOf es n))) (hg : plainGet K C name = true) (hh : hasDictIn K C = true) (ha : findIn K (.ref C) name = some none)
    (hl : getL name es = some (some v)) (hv : handedIn v = true) (h : Q v { s with toks := s.toks + 1 }) : wpAny (model prog w) A (getAttr (.ref x) name expr) Q E s :=
  get_value X I (plainGet_of hg).1 (findObj_own hh ha rfl hl) hv h

/-- x.m(..): the method found in the class -/
theorem get_method {x C f : Addr} {ox : Obj} {es : List DictEntry} {n : Nat} {name : Str} {pl : Sem Bool} {Q : Value × List Value → Shared → Prop}
    (X : K.In s.heap) (I : PySem.W.InstAt s.heap x ox C (some (dictOf es n))) (hg : plainGet K C name = true) (hf : findIn K (.ref C) name = some (some (.ref f))) (ht : isFn K (.ref f) = true)
    (hl : getL name es = some none) (h : Q (.ref f, [.ref x]) s) : wpAny (model prog w) A (getMethod (.ref x) name pl) Q E s :=
  method_fn X I (plainGet_of hg).1 (plainGet_of hg).2 hf (beq_iff_eq.mp ht) (by show (lookIn name (dictOf es n)).map _ = _; rw [lookIn_dict, hl]; rfl) h

/-! the whole heap as the ledger: makes every rule that writes through a ledger a rule over any heap -/
def noObjs (h : Heap) : Heap := { h with objs := #[] }
theorem noObjs_get (h : Heap) (b : Addr) : (noObjs h).get? b = none := by
  cases e : (noObjs h).get? b with
  | none => rfl
  | some o => exact absurd (Heap.lt_size e) (Nat.not_lt_zero _)
def ledger (h : Heap) (L d : Addr) : List (Addr × Obj) := (List.range h.objs.size).filterMap fun a => if a = L ∨ a = d then none else (h.get? a).map fun o => (a, o)
theorem mem_ledger {h : Heap} {L d a : Addr} {o : Obj} : (a, o) ∈ ledger h L d ↔ a ≠ L ∧ a ≠ d ∧ h.get? a = some o := by
  unfold ledger
  rw [List.mem_filterMap]
  constructor
  · rintro ⟨b, _, e⟩
    split at e
    · cases e
    · rename_i hb
      obtain ⟨o', ho, e'⟩ := Option.map_eq_some_iff.mp e
      cases e'
      exact ⟨fun q => hb (.inl q), fun q => hb (.inr q), ho⟩
  · rintro ⟨n1, n2, ho⟩
    refine ⟨a, List.mem_range.mpr (Heap.lt_size ho), ?_⟩
    rw [if_neg (show ¬ (a = L ∨ a = d) from fun q => q.elim n1 n2), ho] <;> rfl
theorem news_ledger {h : Heap} {L d : Addr} {od : Obj} (hne : d ≠ L) (ho : h.get? d = some od) : News (noObjs h) L h ([] ++ (d, od) :: ledger h L d) := by
  rintro ⟨a, o⟩ hp
  rcases List.mem_cons.mp hp with e | hp
  · cases e
    exact ⟨ho, hne, noObjs_get _ _⟩
  · obtain ⟨n1, n2, e⟩ := mem_ledger.mp hp
    exact ⟨e, n1, noObjs_get _ _⟩
theorem fr_all {h : Heap} {L : Addr} {m : Str → Option Value} (n : h.Ns L m) : Fr (noObjs h) L h m :=
  ⟨n, fun b o e => (by rw [noObjs_get] at e; cases e), Nat.zero_le _⟩
/-- Upd of the head entry (for append_K, setItem_K ..) -/
theorem upd_ledger {h : Heap} {L d : Addr} {o o' : Obj} : Upd d o o' ((d, o) :: ledger h L d) ((d, o') :: ledger h L d) :=
  .head fun ⟨_, _⟩ hp => (mem_ledger.mp hp).2.1

/-- x.name = v over any heap: L is any namespace of the heap (the frame's, say): its map stays, its object is not told; all else but the dict stays -/
theorem set_field {x C dx L : Addr} {ox : Obj} {m : Str → Option Value} {es es' : List DictEntry} {n n' : Nat} {name : Str} {v : Value} {Q : Unit → Shared → Prop}
    (X : K.In s.heap) (I : PySem.W.InstAt s.heap x ox C (some (dictOf es n))) (hd : ox.dict = some dx) (hL : s.heap.Ns L m) (hne : dx ≠ L)
    (hs : findIn K (.ref C) "__setattr__" = some (some (.builtin "object.__setattr__"))) (hp : plainOver K C = true) (ht : takerIn K C name = some none) (hh : hasDictIn K C = true) (hl : (getL name es).isSome = true)
    (e : (putL name (PyData.keyHash w.params name) (.str name (s.toks + 1)) v es, putN name es n) = (es', n')) (hz : es'.length ≤ 1000)
    (h : ∀ h' : Heap, h'.Ns L m → h'.get? dx = some (dictOf es' n') → (∀ b o, b ≠ dx → b ≠ L → s.heap.get? b = some o → h'.get? b = some o) → Q () { s with heap := h', toks := s.toks + 2 }) :
    wpAny (model prog w) A (setAttr (.ref x) name v) Q E s := by
  obtain ⟨e1, e2⟩ := Prod.mk.inj e
  have hdx : s.heap.get? dx = some (dictOf es n) := by
    have := I.dict
    rw [hd] at this
    exact this
  refine set_plain X I hs (osa_dict (s := { s with toks := s.toks + 1 }) (h₀ := noObjs s.heap) (L := L) (m := m) (od := dictOf es n) (od' := dictOf es' n') (es := es') (n := n') (pre := []) (post := ledger s.heap L dx)
    (fr_all hL) (news_ledger hne hdx) X I hd hp ht hh hl (fun _ q => nomatch q) (fun ⟨_, _⟩ q => (mem_ledger.mp q).2.1) (by rw [putName_dict, e1, e2]) rfl hz fun h' F' N' => ?_)
  exact h h' F'.ns (N'.get (List.Mem.head _)) fun b o n1 n2 ho => N'.get (List.Mem.tail _ (mem_ledger.mpr ⟨n2, n1, ho⟩))
end
end Att

namespace L2
open PySem PySem.Spec PyProof.Rows

theorem vals_ints : ∀ {vs : List Value} {ns : List Int}, IntsAre vs ns → Vals (ns.map V.int) vs
  | _, _, .nil => .nil
  | _, _, .cons n t h => .cons ⟨t, rfl⟩ (vals_ints h)

/-- nothing is tracked but the script, known to the object (or it is an object of the module) -/
def Only (H : Hp) : Prop := ∀ b, H b = none ∨ ∃ o xs, H b = some (.frz o (.lst xs))

/-- THE HEAD: the law's promise, at the heap behind the top. F, the promise of the law's def, may use that base is part of the heap (so K.In base, base.Ns mainGlobals mg stand in Mod) -/
theorem law_call {P : Program} {w : World} {K : PySem.W.Frag} {mg mb : Str → Option Value} {CX : CXT} {k : Nat} {fa a : Addr} {fd : FuncData} {x : Str} {sp : Sp} {s₁ : Shared} {vs : List Value} {ns : List Int}
    (KX : K.In s₁.heap) (hns : s₁.heap.Ns mainGlobals mg) (hb : s₁.heap.Ns builtinsNs mb) (hbb : ∀ x : Str, x ≠ "__name__" → mb x = bootBuiltins x) (hlim : s₁.heap.NoLimit) (hg : s₁.gens = #[])
    (ha : s₁.heap.get? a = some { cls := .type "list", data := .seq vs.toArray }) (hi : IntsAre vs ns) (hl : ns.length ≤ sizeLine) (hr : Room k callerA)
    (F : ∀ base : Heap, K.In base → base.Ns mainGlobals mg → FnOk P w K mg base CX k fa fd [x] sp) (hbind : ∀ (s : Shared) (u : Value), BindsTo s fd ⟨[u], []⟩ [(x, u)])
    (hsp : ∀ H : Hp, Only H → SqL K H a (ns.map V.int) → sp [.ref a] H (fun v _ => v = .bl true) fun _ _ _ => False)
    (hCX : ∀ H e s', CX [] H s₁ (fun _ _ _ => False) e s' → False) :
    codeAny (model P w) callerA (.call (.ref fa) ⟨[.ref a], []⟩) (fun r s' => r = .ok (.ret (.bool true)) ∧ OldK s₁.heap s'.heap ∧ s'.os = s₁.os ∧ AllBare s'.gens) s₁ := by
  have rv := vals_ints hi
  have lenV := hi.length
  -- from an abstract heap in which nothing but the script may be tracked
  have core : ∀ H : Hp, Only H → SqL K H a (ns.map V.int) → HOk P w H s₁.heap → (∀ b, H b ≠ none → b = a) → (H a ≠ none → K.lookup a = none) →
      codeAny (model P w) callerA (.call (.ref fa) ⟨[.ref a], []⟩) (fun r s' => r = .ok (.ret (.bool true)) ∧ OldK s₁.heap s'.heap ∧ s'.os = s₁.os ∧ AllBare s'.gens) s₁ := by
    intro H hO hS hok hA hK
    have base_of : ∀ {b : Addr} {o : Obj}, s₁.heap.get? b = some o → H b = none → (hidT s₁.heap H).get? b = some o := fun e n => hidT_get e n
    have noA : ∀ {b : Addr} {o : Obj} {es : Array DictEntry} {ep : Nat}, s₁.heap.get? b = some o → o.data = .dict es ep → H b = none := fun {b o es ep} e d => by
      cases q : H b with
      | none => rfl
      | some u =>
        have e' : b = a := hA b (by rw [q]; simp)
        subst e'
        rw [ha] at e; cases e
        have d' : Data.seq vs.toArray _ = Data.dict es ep := d
        cases d'
    have nsK : ∀ {b : Addr} {m : Str → Option Value}, s₁.heap.Ns b m → (hidT s₁.heap H).Ns b m := fun {b m} ⟨o, es, ep, e, d, r⟩ => ⟨o, es, ep, base_of e (noA e d), d, r⟩
    have hKb : K.In (hidT s₁.heap H) := fun b o e => base_of (KX b o e) (by
      cases q : H b with
      | none => rfl
      | some u =>
        have e' : b = a := hA b (by rw [q]; simp)
        subst e'
        rw [hK (by rw [q]; simp)] at e; cases e)
    have hM : Mod K mg (hidT s₁.heap H) := ⟨hKb, nsK hns, ⟨mb, nsK hb, hbb⟩, let ⟨mc, h1, h2⟩ := hlim; ⟨mc, nsK h1, h2⟩⟩
    have e0 : Env0 P w K mg (hidT s₁.heap H) callerA [] s₁ H := ⟨rfl, hM, fun b o e => of_hidT e, Nat.le_of_eq (hidT_size _ _), trivial, fun b hb => absurd (show b ∈ ([] : List Addr) from hb) (by simp), hok, .of_eq hg⟩
    refine codeAny_mono ((F _ hKb (nsK hns)).run callerA [] s₁ H ⟨[.ref a], []⟩ [.ref a] [.ref a] _ _ hr e0 (hbind s₁ (.ref a)) (.cons rfl .nil) (hsp H hO hS)) fun r s' h => ?_
    cases r with
    | error e => exact (hCX H e s' h).elim
    | ok fl =>
      cases fl with
      | next => exact False.elim h
      | brk => exact False.elim h
      | cont => exact False.elim h
      | ret u =>
        obtain ⟨v, H', os, bare, un, hok', r', q⟩ := h
        have q' : v = .bl true := q
        subst q'
        obtain rfl : u = Value.bool true := r'
        refine ⟨rfl, OldK.of_keep fun b o e => ?_, os, bare⟩
        cases q : H b with
        | none => exact un.keep b o e q (by intro z; exact absurd (show b ∈ ([] : List Addr) from z) (by simp)) (by simp)
        | some u =>
          rcases hO b with z | ⟨ob, xs, z⟩
          · rw [q] at z; cases z
          · have z2 := un.frzs b ob _ z
            obtain ⟨e1, _⟩ := hok b _ z
            obtain ⟨e2, _⟩ := hok' b _ z2
            rw [e] at e1; cases e1
            exact e2
  cases hk : K.lookup a with
  | some o =>
    -- the script is one of the module's own objects
    have e := KX a o hk
    rw [ha] at e
    cases e
    refine core (fun _ => none) (fun _ => .inl rfl) (.inr ⟨_, vs.toArray, _, hk, rfl, rfl, rfl, by rw [List.size_toArray, lenV]; exact hl, by simpa using rv⟩) (fun b u z => by have z' : (none : Option HO) = some u := z; cases z') (fun b z => absurd rfl z) fun z => absurd rfl z
  | none =>
    refine core (fun b => if b = a then some (.frz { cls := .type "list", data := .seq vs.toArray } (.lst (ns.map V.int))) else none) (fun b => ?_) (.inl (.inr ⟨{ cls := .type "list", data := .seq vs.toArray }, if_pos rfl⟩)) (fun b u z => ?_) (fun b z => ?_) fun _ => hk
    · by_cases hb : b = a
      · exact .inr ⟨_, _, if_pos hb⟩
      · exact .inl (if_neg hb)
    · by_cases hb : b = a
      · have z' := (if_pos hb).symm.trans z
        cases z'
        subst hb
        exact ⟨ha, by rw [List.length_map]; exact hl, vs, _, rv, ha⟩
      · have z' := (if_neg hb).symm.trans z
        cases z'
    · by_cases hb : b = a
      · exact hb
      · exact absurd (if_neg hb) z
end L2

namespace L2
open PySem PySem.Spec PyProof.Rows

abbrev KOf {K : PySem.W.Frag} {h : Heap} (_ : K.In h) : PySem.W.Frag := K

/-- the goal that k_head leaves (case hc), from the law's promise. F gives the function object fd (K's own) once, then the promise over every base -/
theorem walk_of {l : PySem.W.OpenLaw} {n k : Nat} {q : Program} {loose : List Str} {XP : (Str → Option Value) → Heap → Prop} {YP : World → Heap → Prop} {d : DefRec} {K : Params → PySem.W.Frag} {CX : World → CXT} {sp : World → Sp} {x : Str}
    (hn : l.most = some n) (hn2 : n ≤ sizeLine) (hdf : d.params.defaults = []) (hr : Room k callerA)
    (hY : ∀ (w : World) (h : Heap), YP w h → (K w.params).In h)
    (F : ∀ (w : World) (mg : Str → Option Value) (fa : Addr) (h : Heap), (K w.params).In h → h.Ns mainGlobals mg → mg d.name = some (.ref fa) →
      ∃ fd : FuncData, (∀ (s : Shared) (u : Value), BindsTo s fd ⟨[u], []⟩ [(x, u)]) ∧
        ∀ base : Heap, (K w.params).In base → base.Ns mainGlobals mg → FnOk l.prog w (K w.params) mg base (CX w) k fa fd [x] (sp w))
    (hsp : ∀ (w : World) (H : Hp) (a : Addr) (ns : List Int), ns.length ≤ n → Only H → SqL (K w.params) H a (ns.map V.int) → sp w [.ref a] H (fun v _ => v = .bl true) fun _ _ _ => False)
    (hCX : ∀ (w : World) (H : Hp) (s : Shared) (e : Value) (s' : Shared), CX w [] H s (fun _ _ _ => False) e s' → False) :
    PySem.W.WalkO q loose XP YP l.row.toRowW d [] (fun f vs => PySem.call f vs) := by
  refine Att.attach_call hn hdf fun w s₀ s₁ mg mb fa o pm cd doc a vs ns G Y ho hd hcd hmg hobj hints hlen hg => ?_
  have KX := hY w _ Y
  obtain ⟨fd, hb, hF⟩ := F w mg fa _ KX G.T.g hmg
  exact law_call KX G.T.g G.T.b G.T.builtins G.T.nolimit hg hobj hints (Nat.le_trans hlen hn2) hr hF hb (fun H hO hS => hsp w H a ns hlen hO hS) fun H e s' => hCX w H s₁ e s'
/-- the same where the promise hangs on the written part alone: (sp := My.sp_law), no hole under a binder -/
theorem walk_ofK {l : PySem.W.OpenLaw} {n k : Nat} {q : Program} {loose : List Str} {XP : (Str → Option Value) → Heap → Prop} {YP : World → Heap → Prop} {d : DefRec} {K : Params → PySem.W.Frag} {CX : CXT} {sp : PySem.W.Frag → Sp} {x : Str}
    (hn : l.most = some n) (hn2 : n ≤ sizeLine) (hdf : d.params.defaults = []) (hr : Room k callerA)
    (hY : ∀ (w : World) (h : Heap), YP w h → (K w.params).In h)
    (F : ∀ (w : World) (mg : Str → Option Value) (fa : Addr) (h : Heap), (K w.params).In h → h.Ns mainGlobals mg → mg d.name = some (.ref fa) →
      ∃ fd : FuncData, (∀ (s : Shared) (u : Value), BindsTo s fd ⟨[u], []⟩ [(x, u)]) ∧
        ∀ base : Heap, (K w.params).In base → base.Ns mainGlobals mg → FnOk l.prog w (K w.params) mg base CX k fa fd [x] (sp (K w.params)))
    (hsp : ∀ (K : PySem.W.Frag) (H : Hp) (a : Addr) (ns : List Int), ns.length ≤ n → Only H → SqL K H a (ns.map V.int) → sp K [.ref a] H (fun v _ => v = .bl true) fun _ _ _ => False)
    (hCX : ∀ (H : Hp) (s : Shared) (e : Value) (s' : Shared), CX [] H s (fun _ _ _ => False) e s' → False) :
    PySem.W.WalkO q loose XP YP l.row.toRowW d [] (fun f vs => PySem.call f vs) :=
  walk_of (K := K) (CX := fun _ => CX) (sp := fun w => sp (K w.params)) hn hn2 hdf hr hY F (fun w H a ns h1 h2 h3 => hsp (K w.params) H a ns h1 h2 h3) fun _ H s e s' => hCX H s e s'
end L2



/-! SHORT WORDS over the layer: a def of the text, its body, what a loop and a test want. -/
namespace L2
open PySem PySem.Spec PyProof.Rows

/-! ### the text by places -/
/-- the j-th statement of a class's body -/
def inClass (s : Stmt) (j : Nat) : Stmt := match s with
  | .ClassDef _ _ _ body _ _ _ _ _ _ _ => body.getD j (.Pass ⟨0, 0, 0, 0⟩)
  | _ => .Pass ⟨0, 0, 0, 0⟩
def defArgs (s : Stmt) : Arguments := match s with
  | .FunctionDef _ a _ _ _ _ _ _ _ _ => a
  | _ => { posonlyargs := [], args := [], vararg := none, kwonlyargs := [], kw_defaults := [], kwarg := none, defaults := [] }
def defBody (s : Stmt) : List Stmt := match s with
  | .FunctionDef _ _ b _ _ _ _ _ _ _ => b
  | _ => []
def defScope (s : Stmt) : Scope := match s with
  | .FunctionDef _ _ _ _ _ _ sc _ _ _ => sc
  | _ => { kind := .function, names := [], isGenerator := false, isCoroutine := false }

/-! ### no exception leaves a def -/
abbrev CX0 : CXT := fun _ _ _ _ _ _ => False
abbrev E0 : XK := fun _ _ _ => False
theorem pass0 {X : Cx} : Passes CX0 X E0 := fun _ _ _ _ _ _ _ h => h.elim

/-! ### a def (or method) of the text as it stands behind the top -/
structure Fun (K : PySem.W.Frag) (x qual : Str) (st : Stmt) (f : Addr) (fd : FuncData) : Prop where
  ex : ∃ (oc : Value) (od : Option Addr) (kV doc pm : Value) (an : Option Addr) (cdv ct : Value) (osl : Array (Option Value)),
    fd = PySem.W.fnOf x qual (defArgs st) (defBody st) (defScope st) .none kV doc pm an cdv ct ∧ K.lookup f = some ⟨oc, od, .func fd, osl⟩ ∧ PySem.W.codeIn K cdv qual = true
  kp : PySem.W.keepIn K (.ref f) = true
section
variable {P : Program} {w : World} {K : PySem.W.Frag} {mg : Str → Option Value} {base : Heap}
/-- THE RULE for a def: its body as a term of rules, and the reading of that term -/
theorem Fun.ok {x qual : Str} {st : Stmt} {f : Addr} {fd : FuncData} {N ps : List Str} {k : Nat} {sp : Sp} (F : Fun K x qual st f fd) (S : FnScope N ps (defScope st)) (len : ∀ vs H Q E, sp vs H Q E → vs.length = ps.length)
    (hbody : ∀ (cdv : Value) (A : Around) (outer : List Env) (s : Shared) (H : Hp) (vs : List V) (Q : VK) (E : XK), Room k (A.deeper (envOfC qual (defScope st) s.heap.objs.size f cdv)) → sp vs H Q E →
      ∃ t, PSs (cxOf CX0 P w K mg base N qual (defScope st) f cdv A outer s H E).nox (defBody st) t ∧ t { nx := fun _ H' => Q .non H', rt := Q } (start N vs) H) : FnOk P w K mg base CX0 (k + 1) f fd ps sp := by
  obtain ⟨oc, od, kV, doc, pm, an, cdv, ct, osl, rfl, lk, hcd⟩ := F.ex
  refine fn_of lk hcd S len fun A outer s H vs Q E hr hsp => ?_
  obtain ⟨t, h, q⟩ := hbody cdv A outer s H vs Q E hr hsp
  exact ⟨t, h.nox, q⟩
/-- how its arguments bind (no defaults): h is «fun _ _ _ _ _ _ us hl => match us, hl with | [_, _], _ => rfl», one _ a parameter -/
theorem Fun.binds {x qual : Str} {st : Stmt} {f : Addr} {fd : FuncData} {ps : List Str} (F : Fun K x qual st f fd)
    (h : ∀ (kV doc pm : Value) (an : Option Addr) (cdv ct : Value) (us : List Value), us.length = ps.length → bindArgs (PySem.W.fnOf x qual (defArgs st) (defBody st) (defScope st) .none kV doc pm an cdv ct) ⟨us, []⟩ = pure (ps.zip us)) : Binds K fd ps [] := by
  obtain ⟨oc, od, kV, doc, pm, an, cdv, ct, osl, rfl, lk, hcd⟩ := F.ex
  exact .all (h kV doc pm an cdv ct)
theorem fun_mk {x qual : Str} {st : Stmt} {f : Addr} {oc : Value} {od an : Option Addr} {osl : Array (Option Value)} {kV doc pm cdv ct : Value} (l : K.lookup f = some ⟨oc, od, .func (PySem.W.fnOf x qual (defArgs st) (defBody st) (defScope st) .none kV doc pm an cdv ct), osl⟩)
    (c : PySem.W.codeIn K cdv qual = true) (k : PySem.W.keepIn K (.ref f) = true) : Fun K x qual st f (PySem.W.fnOf x qual (defArgs st) (defBody st) (defScope st) .none kV doc pm an cdv ct) := ⟨⟨oc, od, kV, doc, pm, an, cdv, ct, osl, rfl, l, c⟩, k⟩
end
theorem hu_of {A : Around} {k : Nat} (hr : Room k A) : A.units + 1 < cLine := Nat.lt_of_le_of_lt (Nat.add_le_add_left (by decide : 1 ≤ 64) _) hr.units
theorem small1000 {n : Nat} (h : n ≤ 1000) : n < sizeLine := Nat.lt_of_le_of_lt h (by decide)

/-! ### expressions in short: the name that stands in the i-th slot -/
section
variable {X : Cx}
theorem pv (i : Nat) {x : Str} {pos : Pos} (hN : X.N[i]? = some x := by rfl) (hv : Vis X.env.scope x := by first | exact Or.inl rfl | exact Or.inr (Or.inl rfl) | exact Or.inr (Or.inr rfl)) (hd : (x == ("__debug__" : Str)) = false := by decide)
    (hcd : (x == ("__classdict__" : Str)) = false := by decide) : PE X (.Name x pos) (tVar i) := pe_var hN hv hd hcd
end

/-! ### tests -/
theorem iteF {A B : Prop} (h : B) : if false = true then A else B := by
  rw [if_neg Bool.false_ne_true]
  exact h
theorem iteT {A B : Prop} (h : A) : if true = true then A else B := by
  rw [if_pos rfl]
  exact h
theorem ite2 {c A B : Prop} [Decidable c] (h1 : c → A) (h2 : ¬ c → B) : if c then A else B := by
  by_cases h : c
  · rw [if_pos h]
    exact h1 h
  · rw [if_neg h]
    exact h2 h
theorem iteNS {c A B : Prop} [Decidable c] (hc : c) (h : B) : if (!decide c) = true then A else B := by
  rw [decide_eq_true hc]
  exact iteF h

/-! ### heaps -/
/-- all that was tracked is as it was -/
def Same (H H' : Hp) : Prop := ∀ b o, H b = some o → H' b = some o
theorem Same.refl (H : Hp) : Same H H := fun _ _ h => h
theorem Same.trans {H H1 H2 : Hp} (a : Same H H1) (b : Same H1 H2) : Same H H2 := fun c o h => b c o (a c o h)
theorem Same.free {H H' : Hp} (e : Same H H') {l : Addr} (h : H' l = Option.none) : H l = Option.none := by
  cases q : H l with
  | none => rfl
  | some o =>
    rw [e l o q] at h
    cases h
theorem Same.seq {K : PySem.W.Frag} {H H' : Hp} {a : Addr} {xs : List V} (e : Same H H') (h : SqL K H a xs) : SqL K H' a xs := by
  rcases h with (h | ⟨o, h⟩) | h
  · exact .inl (.inl (e _ _ h))
  · exact .inl (.inr ⟨o, e _ _ h⟩)
  · exact .inr h

end L2

/-! COMPREHENSIONS over the layer: a list comprehension of one clause, whose block raises nothing -/
namespace L2
open PySem PySem.Spec PyProof.Rows

section
variable {prog : Program} {w : World} {A : Around} {R : Result → Shared → Prop} {s : Shared}
theorem compLoop_go {elt target iter : Expr} {ifs : List Expr} {scope : Scope} {pos : Pos} {it acc : Value} {env : Env} (I : Nat → Shared → Prop)
    (turn : ∀ n s, I n s → wpAny (model prog w) A (pyNext it) (fun r s1 => match r with
      | none => R (.ok .next) s1
      | some v => wpAny (model prog w) A (letOwnedTupleGo target it v) (fun _ s1' => wpAny (model prog w) A (assign target env v) (fun _ s2 =>
          wpAny (model prog w) A (forIn ifs true fun c r => if r = true then do let ok ← isTrue c env (eval c env); pure (ForInStep.yield ok) else pure (ForInStep.yield r)) (fun ok s3 =>
            if ok = true then wpAny (model prog w) A (eval elt env) (fun x s4 =>
              wpAny (model prog w) A (call (.builtin "list.append") [acc, x]) (fun _ s5 => ∃ m, m < n ∧ I m s5) (fun _ _ => False) s4) (fun _ _ => False) s3
            else ∃ m, m < n ∧ I m s3) (fun _ _ => False) s2) (fun _ _ => False) s1') (fun _ _ => False) s1) (fun _ _ => False) s)
    (n : Nat) (h : I n s) :
    codeAny (model prog w) A (.compLoop (.ListComp elt [⟨target, iter, ifs, 0⟩] scope pos) 0 it acc env) R s := by
  refine codeAny_loop rfl I (fun n s hI => ?_) n h
  show wpAny _ A ((compTurn (.ListComp elt [⟨target, iter, ifs, 0⟩] scope pos) 0 it acc env).onRaise (fun x => do noteFrame x env; theTreesLotGoes x)) _ _ s
  refine wpAny_noted ?_
  rw [compTurn_list]
  refine wpAny_bind (wpAny_standAt (wpAny_bind (wpAny_mono (turn n s hI) (fun r s1 h1 => ?_) fun _ _ h' => h'.elim)))
  cases r with
  | none => exact wpAny_pure h1
  | some v =>
    refine wpAny_bind (wpAny_mono h1 (fun _ s1' h1' => ?_) fun _ _ h' => h'.elim)
    refine wpAny_bind (wpAny_mono h1' (fun _ s2 h2 => wpAny_bind (wpAny_mono h2 (fun ok s3 h3 => ?_) fun _ _ h' => h'.elim)) fun _ _ h' => h'.elim)
    cases ok with
    | false => exact wpAny_pure ⟨rfl, h3⟩
    | true => exact wpAny_bind (wpAny_bind (wpAny_mono h3 (fun x s4 h4 => wpAny_bind (wpAny_mono h4 (fun _ s5 h5 => wpAny_pure (wpAny_pure ⟨rfl, h5⟩)) fun _ _ h' => h'.elim)) fun _ _ h' => h'.elim))
end

/-- the cells that a block takes with it -/
theorem closure_of {scope : Scope} {env : Env} (h : ∀ y ∈ scope.names, y.2 = .free → ∃ c, env.cells.lookup y.1 = some c) :
    ∃ cl, closureFor scope env = pure cl ∧ (∀ x c, cl.lookup x = some c → env.cells.lookup x = some c) ∧ ∀ y ∈ scope.names, y.2 = .free → ∃ c, cl.lookup y.1 = some c := by
  have all : ∀ (names : List (Str × NameKind)) (acc : List (Str × Addr)) (f : Str × NameKind → List (Str × Addr) → Sem (ForInStep (List (Str × Addr)))),
      (∀ n k c, f (n, k) c = if k == .free then (do let a ← cellOf env n; pure (.yield ((n, a) :: c))) else pure (.yield c)) →
      (∀ y ∈ names, y.2 = .free → ∃ c, env.cells.lookup y.1 = some c) → (∀ x c, acc.lookup x = some c → env.cells.lookup x = some c) →
      ∃ cl, forIn names acc f = pure cl ∧ (∀ x c, cl.lookup x = some c → env.cells.lookup x = some c) ∧ (∀ x c, acc.lookup x = some c → ∃ c', cl.lookup x = some c') ∧ ∀ y ∈ names, y.2 = .free → ∃ c, cl.lookup y.1 = some c := by
    intro names
    induction names with
    | nil => intro acc f _ _ ha; exact ⟨acc, by rw [List.forIn_nil], ha, fun x c e => ⟨c, e⟩, fun y hy => nomatch hy⟩
    | cons y r ih =>
      intro acc f hf hy ha
      obtain ⟨n, k⟩ := y
      rw [List.forIn_cons, hf]
      by_cases hk : k = .free
      · subst hk
        obtain ⟨c, hc⟩ := hy (n, .free) List.mem_cons_self rfl
        have hc' : env.cells.lookup n = some c := hc
        have ec : cellOf env n = pure c := by unfold cellOf; rw [hc']
        rw [if_pos (by decide), ec, pure_bind, pure_bind]
        obtain ⟨cl, e, h1, h2, h3⟩ := ih ((n, c) :: acc) f hf (fun y hy' => hy y (List.mem_cons_of_mem _ hy')) (fun x c' e => by
          rw [List.lookup_cons] at e
          cases hx : x == n with
          | true => rw [hx] at e; cases e; rw [eq_of_beq hx]; exact hc'
          | false => rw [hx] at e; exact ha x c' e)
        refine ⟨cl, e, h1, fun x c' e' => ?_, fun y hy' hk' => ?_⟩
        · cases hx : x == n with
          | true => exact h2 x c (by rw [List.lookup_cons, hx])
          | false => exact h2 x c' (by rw [List.lookup_cons, hx]; exact e')
        · rcases List.mem_cons.mp hy' with z | z
          · subst z; exact h2 n c (by rw [List.lookup_cons]; simp)
          · exact h3 y z hk'
      · have hb : (k == NameKind.free) = false := by simpa using hk
        rw [hb]
        rw [if_neg (by decide), pure_bind]
        obtain ⟨cl, e, h1, h2, h3⟩ := ih acc f hf (fun y hy' => hy y (List.mem_cons_of_mem _ hy')) ha
        refine ⟨cl, e, h1, h2, fun y hy' hk' => ?_⟩
        rcases List.mem_cons.mp hy' with z | z
        · subst z; exact absurd hk' hk
        · exact h3 y z hk'
  have fin : ∀ f : Str × NameKind → List (Str × Addr) → Sem (ForInStep (List (Str × Addr))),
      (∀ n k c, f (n, k) c = if k == .free then (do let a ← cellOf env n; pure (.yield ((n, a) :: c))) else pure (.yield c)) →
      ∃ cl, (forIn scope.names [] f >>= fun r => pure r) = pure cl ∧ (∀ x c, cl.lookup x = some c → env.cells.lookup x = some c) ∧ ∀ y ∈ scope.names, y.2 = .free → ∃ c, cl.lookup y.1 = some c := fun f hf => by
    obtain ⟨cl, e, h1, _, h3⟩ := all scope.names [] f hf h (fun x c e => by cases e)
    exact ⟨cl, by rw [e, pure_bind], h1, h3⟩
  unfold closureFor
  exact fin _ (fun n k c => by cases hk : k == NameKind.free <;> simp [hk])

/-- the context of a comprehension's block -/
def Cx.comp (X : Cx) (scope : Scope) (cl : List (Str × Addr)) (C : Addr) (N' : List Str) (s0 : Shared) (H0 : Hp) (fp : List Addr) : Cx :=
  { X with N := N', s₀ := s0, H₀ := H0, env := compEnvC scope cl C X.env, outer := X.stack, ex := fp, fn := fun _ => false, pn := [], xe := fun _ _ => False }

/-- the outer names that the block sees: for each name of the block the outer slot, or none -/
def selS (ix : List (Option Nat)) (σ : St) : St := ix.map fun o => o.bind fun j => (σ[j]?).join

/-- ON: the outer names, osc: the outer scope -/
structure CompScope (ON : List Str) (osc scope : Scope) (N' : List Str) (ix : List (Option Nat)) : Prop where
  kind : scope.kind = .function
  nocell : ∀ y ∈ scope.names, y.2 ≠ .cell
  names : ∀ y ∈ scope.names, y.2 = .local → scope.names.lookup y.1 = some .local
  frees : ∀ y ∈ scope.names, y.2 = .free → osc.names.lookup y.1 = some .cell
  len : ix.length = N'.length
  nd : N'.Nodup
  chk : ((ix.zip N').all fun p => match p.1 with | none => true | some j => decide (ON[j]? = some p.2) && decide (scope.names.lookup p.2 = some .free)) = true
theorem CompScope.sel {ON : List Str} {osc scope : Scope} {N' : List Str} {ix : List (Option Nat)} (S : CompScope ON osc scope N' ix) (i j : Nat) (x : Str) (h1 : ix[i]? = some (some j)) (h2 : N'[i]? = some x) : ON[j]? = some x ∧ scope.names.lookup x = some .free := by
  have hz : (ix.zip N')[i]? = some (some j, x) := by rw [List.getElem?_zip_eq_some]; exact ⟨h1, h2⟩
  have := List.all_eq_true.mp S.chk _ (List.mem_of_getElem? hz)
  simp only [Bool.and_eq_true, decide_eq_true_eq] at this
  exact this

theorem relabel_look {env : Env} : ∀ {names : List (Str × NameKind)} {x : Str}, names.lookup x = some .free →
    ((names.map fun (n, k) => if (k == NameKind.free && env.scope.kind == .function && env.kindOf n == some .cell) then (n, NameKind.cell) else (n, k)).lookup x = some .cell ∨
     (names.map fun (n, k) => if (k == NameKind.free && env.scope.kind == .function && env.kindOf n == some .cell) then (n, NameKind.cell) else (n, k)).lookup x = some .free)
  | [], _, h => by simp at h
  | (n, k) :: r, x, h => by
    have ih := @relabel_look env r x
    rw [List.map_cons]
    cases hx : x == n with
    | true =>
      rw [List.lookup_cons, hx] at h
      cases h
      by_cases hc : (NameKind.free == NameKind.free && env.scope.kind == .function && env.kindOf n == some .cell) = true
      · left; simp only [hc, if_true, List.lookup_cons, hx]
      · right
        have hc' : (NameKind.free == NameKind.free && env.scope.kind == .function && env.kindOf n == some .cell) = false := by simpa using hc
        simp only [hc', Bool.false_eq_true, if_false, List.lookup_cons, hx]
    | false =>
      rw [List.lookup_cons, hx] at h
      have ih' := ih h
      by_cases hc : (k == NameKind.free && env.scope.kind == .function && env.kindOf n == some .cell) = true
      · simp only [hc, if_true, List.lookup_cons, hx]; exact ih'
      · have hc' : (k == NameKind.free && env.scope.kind == .function && env.kindOf n == some .cell) = false := by simpa using hc
        simp only [hc', Bool.false_eq_true, if_false, List.lookup_cons, hx]; exact ih'
theorem relabel_back {env : Env} : ∀ {names : List (Str × NameKind)} {x : Str}, (∀ y ∈ names, y.2 ≠ .cell) →
    ((names.map fun (n, k) => if (k == NameKind.free && env.scope.kind == .function && env.kindOf n == some .cell) then (n, NameKind.cell) else (n, k)).lookup x = some .cell ∨
     (names.map fun (n, k) => if (k == NameKind.free && env.scope.kind == .function && env.kindOf n == some .cell) then (n, NameKind.cell) else (n, k)).lookup x = some .free) → (x, NameKind.free) ∈ names
  | [], _, _, h => by simp at h
  | (n, k) :: r, x, hn, h => by
    have ih := @relabel_back env r x fun y hy => hn y (List.mem_cons_of_mem _ hy)
    rw [List.map_cons] at h
    cases hx : x == n with
    | true =>
      have e := eq_of_beq hx
      subst e
      by_cases hc : (k == NameKind.free && env.scope.kind == .function && env.kindOf x == some .cell) = true
      · have hk : k = .free := by
          have := (Bool.and_eq_true_iff.mp (Bool.and_eq_true_iff.mp hc).1).1
          exact eq_of_beq this
        subst hk; exact List.mem_cons_self
      · have hc' : (k == NameKind.free && env.scope.kind == .function && env.kindOf x == some .cell) = false := by simpa using hc
        simp only [hc', Bool.false_eq_true, if_false, List.lookup_cons, beq_self_eq_true] at h
        rcases h with h | h
        · have hk : k = .cell := Option.some.inj h
          exact absurd hk (hn (x, k) List.mem_cons_self)
        · have hk : k = .free := Option.some.inj h
          subst hk; exact List.mem_cons_self
    | false =>
      refine List.mem_cons_of_mem _ (ih ?_)
      by_cases hc : (k == NameKind.free && env.scope.kind == .function && env.kindOf n == some .cell) = true
      · simp only [hc, if_true, List.lookup_cons, hx] at h; exact h
      · have hc' : (k == NameKind.free && env.scope.kind == .function && env.kindOf n == some .cell) = false := by simpa using hc
        simp only [hc', Bool.false_eq_true, if_false, List.lookup_cons, hx] at h; exact h

section
variable {X : Cx} {pins : List (Addr × Obj)} {σ : St} {H : Hp} {s : Shared}
/-- the block begins -/
theorem Inv.comp {scope : Scope} {N' : List Str} {ix : List (Option Nat)} {cl : List (Str × Addr)} {fp : List Addr} {h' : Heap} {t' : Nat} (I : Inv X pins σ H s) (S : CompScope X.N X.env.scope scope N' ix) (hfp : ∀ b ∈ fp, FpOk X pins H b) (hlt : ∀ b ∈ fp, b < s.heap.objs.size)
    (c1 : ∀ x c, cl.lookup x = some c → X.env.cells.lookup x = some c) (c2 : ∀ y ∈ scope.names, y.2 = .free → ∃ c, cl.lookup y.1 = some c)
    (ns : h'.Ns s.heap.objs.size fun _ => none) (sb : ∀ b o, s.heap.get? b = some o → h'.get? b = some o) :
    Inv (X.comp scope cl s.heap.objs.size N' s H fp) [] (selS ix σ) H { s with heap := h', toks := t' } := by
  have fpne : ∀ b ∈ fp, b ≠ s.heap.objs.size := fun b hb => Nat.ne_of_lt (hlt b hb)
  have cin : ∀ x c, cl.lookup x = some c → ∃ v, s.heap.IsCell c v := fun x c e => I.cell x c (c1 x c e)
  refine ⟨⟨I.ok.mod, S.kind, I.ok.glob, I.ok.blt, Nat.le_refl _, fun x y c e1 e2 => I.ok.inj x y c (c1 x c e1) (c1 y c e2), fun x hx => ?_, fun x c z => (by cases z), I.ok.hd, I.ok.frames, .inl rfl, fun b hb => ⟨fpne b hb, fun x c e => ?_⟩, I.bs, Nat.le_trans I.ok.bsz I.sz, fun b o e hb => ?_, fun b hb hf => ?_, I.stack, I.stkFree⟩,
    rfl, I.bare, Un.kept sb, ⟨_, ns, fun i x v e1 e2 e3 => ?_⟩, fun x c e => ?_, I.hok.fresh (Nat.le_refl _), fun x c e => I.freeC x c (c1 x c e), fun p hp => (by cases hp), I.hok.kept sb, ?_⟩
  · obtain ⟨c, e⟩ := c2 (x, .free) (relabel_back S.nocell hx) rfl
    exact ⟨c, e⟩
  · exact (hfp b hb).2.2.2.2.1 x c (c1 x c e)
  · rcases (hfp b hb).2.2.2.1 with z | z
    · exact I.ok.noex b o e z
    · exact absurd (Nat.lt_of_lt_of_le (Heap.lt_size (I.ok.bs b o e).1) z) (Nat.lt_irrefl _)
  · rcases List.mem_cons.mp (I.stkSub b hf) with z | z
    · exact (hfp b hb).2.1 z
    · exact (hfp b hb).2.2.1 z
  · -- what the block sees
    have e2' : ix[i]?.map (fun o => o.bind fun j => (σ[j]?).join) = some (some v) := by
      have := e2
      unfold selS at this
      rwa [List.getElem?_map] at this
    cases hi : ix[i]? with
    | none => rw [hi] at e2'; cases e2'
    | some o =>
      rw [hi] at e2'
      cases o with
      | none => cases e2'
      | some j =>
        have e4 : (σ[j]?).join = some v := Option.some.inj e2'
        have e5 : σ[j]? = some (some v) := by
          cases q : σ[j]? with
          | none => rw [q] at e4; cases e4
          | some z => rw [q] at e4; have : z = some v := e4; rw [this]
        obtain ⟨hN, hfr⟩ := S.sel i j x hi e1
        have hk := S.frees (x, .free) (PySem.mem_of_lookup hfr) rfl
        obtain ⟨m, _, hl⟩ := I.loc
        obtain ⟨u, r, lk⟩ := hl j x v hN e5 (.inr (.inl hk))
        refine ⟨u, r, .inr ?_⟩
        rcases lk with ⟨k1, _⟩ | ⟨_, c, ec, hc⟩
        · exact absurd (k1.symm.trans hk) (by decide)
        · obtain ⟨c', ec'⟩ := c2 (x, .free) (PySem.mem_of_lookup hfr) rfl
          have := c1 x c' ec'
          rw [ec] at this
          cases this
          refine ⟨relabel_look hfr, c, ec', ?_⟩
          obtain ⟨o, ho, hd⟩ := hc
          exact ⟨o, sb c o ho, hd⟩
  · obtain ⟨v, o, ho, hd⟩ := cin x c e
    exact ⟨v, o, sb c o ho, hd⟩
  · show (selS ix σ).length = N'.length
    unfold selS
    rw [List.length_map]
    exact S.len

/-- the block ends -/
theorem Inv.uncomp {scope : Scope} {N' : List Str} {cl : List (Str × Addr)} {fp : List Addr} {C : Addr} {σ' : St} {H' : Hp} {s' : Shared} (I : Inv X pins σ H s) (hfp : ∀ b ∈ fp, FpOk X pins H b) (hC : s.heap.objs.size ≤ C)
    (J : Inv (X.comp scope cl C N' s H fp) [] σ' H' s') : Inv X pins σ H' s' :=
  I.call' (ch := fp) J.os J.base J.hok J.bare fun b hb => by
    obtain ⟨f0, f1, f2, f3, f4, f5⟩ := hfp b hb
    exact ⟨f3, f1, f4, f5⟩
end

/-! ### readings -/
/-- the tests of the clause, then the element onto the list at D -/
def tEmit (D : Addr) (telt : TE) (N : St → Hp → Prop) : St → Hp → Prop := fun σ H => telt σ H fun v H1 => ∃ acc, H1 D = some (.lst acc) ∧ acc.length < sizeLine ∧ N σ (upd H1 D (.lst (acc ++ [v])))
def tComp (wi : TI) (ix : List (Option Nat)) (g : TG) (tif : TT) (telt : TE) : TE := fun σ H Q => wi σ H fun J H1 => ∀ D, H1 D = none → ∃ W : Nat → Nat → St → Hp → Prop, (∃ m, W 0 m (selS ix σ) (upd H1 D (.lst []))) ∧
  ∀ i m σ' H', W i m σ' H' → (J.stop i H' ∧ Q (.ref D) H') ∨ (J.go i H' ∧ ∃ N : St → Hp → Prop, (∀ σ2 H2, N σ2 H2 → ∃ m', m' < m ∧ W (i + 1) m' σ2 H2) ∧
    ∀ x H2, J.yld i H' x H2 → g x σ' H2 fun σ3 H3 => tif σ3 H3 fun b H4 => if b = true then tEmit D telt N σ3 H4 else N σ3 H4)
/-- the tests: none, or one -/
def PIfs (X : Cx) (ifs : List Expr) (t : TT) : Prop :=
  ∀ (pins : List (Addr × Obj)) (s : Shared) (σ : St) (H : Hp) (Q : Bool → Hp → Prop), Inv X pins σ H s → t σ H Q →
    wpAny (model X.prog X.w) X.A (forIn ifs true fun c r => if r = true then do let ok ← isTrue c X.env (eval c X.env); pure (ForInStep.yield ok) else pure (ForInStep.yield r)) (TP X pins σ Q) X.xe s
def tTrue : TT := fun _ H Q => Q true H
theorem pifs_nil {X : Cx} : PIfs X [] tTrue := fun _ _ _ H _ I h => wpAny_tests_nil ⟨H, I, h⟩
theorem pifs_one {X : Cx} {c : Expr} {t : TT} (hc : PT X c t) : PIfs X [c] t := fun pins s σ H Q I h => wpAny_tests_one (hc pins s σ H Q I h)

section
variable {X : Cx} {scope : Scope} {N' : List Str} {ix : List (Option Nat)} {tg iter elt : Expr} {ifs : List Expr} {pos : Pos} {wi : TI} {g : TG} {tif : TT} {telt : TE}

/-- the block, whatever is done with its list -/
theorem comp_block {RR : Value → Addr → Result → Shared → Prop} {pins : List (Addr × Obj)} {σ : St} {s2 : Shared} {H2 : Hp} {it : Addr} {fp : List Addr} {tn : Nat → Heap → Prop} {J : It} {cl : List (Str × Addr)} {Q : VK} {E : Value → Shared → Prop}
    (hc : X.calm = true) (S : CompScope X.N X.env.scope scope N' ix)
    (c1 : ∀ x c, cl.lookup x = some c → X.env.cells.lookup x = some c) (c2 : ∀ y ∈ scope.names, y.2 = .free → ∃ c, cl.lookup y.1 = some c)
    (hg : ∀ cl C s0 H0 fp, PG (X.comp scope cl C N' s0 H0 fp) tg g) (hif : ∀ cl C s0 H0 fp, PIfs (X.comp scope cl C N' s0 H0 fp) ifs tif) (he : ∀ cl C s0 H0 fp, PE (X.comp scope cl C N' s0 H0 fp) elt telt)
    (I2 : Inv X pins σ H2 s2) (T : Turn X.prog X.w X.K tg J fp it tn) (st2 : tn 0 s2.heap) (f2 : ∀ b ∈ fp, FpOk X pins H2 b)
    (body : ∀ D, H2 D = none → ∃ W : Nat → Nat → St → Hp → Prop, (∃ m, W 0 m (selS ix σ) (upd H2 D (.lst []))) ∧
      ∀ i m σ' H', W i m σ' H' → (J.stop i H' ∧ Q (.ref D) H') ∨ (J.go i H' ∧ ∃ N : St → Hp → Prop, (∀ σ2 H2, N σ2 H2 → ∃ m', m' < m ∧ W (i + 1) m' σ2 H2) ∧
        ∀ x H2, J.yld i H' x H2 → g x σ' H2 fun σ3 H3 => tif σ3 H3 fun b H4 => if b = true then tEmit D telt N σ3 H4 else N σ3 H4))
    (hRR : ∀ D C s3 s' H' m, Inv X pins σ H' s' → s2.heap.objs.size ≤ s3 → s3 ≤ C → s'.heap.Ns C m → FpOk X pins H' C → HOk X.prog X.w H' s'.heap → Q (.ref D) H' → RR (.ref D) C (.ok .next) s') :
    wpAny (model X.prog X.w) X.A (newList []) (fun acc s3 => wpAny (model X.prog X.w) X.A (newFunctionEnv scope X.env.globals cl [] X.env.qual none .none (some X.env)) (fun cenv s4 =>
      codeAny (model X.prog X.w) X.A (.compStart (.ListComp elt [⟨tg, iter, ifs, 0⟩] scope pos) 0 (.ref it) acc { cenv with scope := relabel scope X.env }) (RR acc cenv.locals) s4) E s3) E s2 := by
  have hlt2 : ∀ b ∈ fp, b < s2.heap.objs.size := fun b hb => by
    obtain ⟨o, e, _⟩ := T.obj _ _ st2 b hb
    exact Heap.lt_size e
  obtain ⟨W, ⟨m0, w0⟩, turn⟩ := body s2.heap.objs.size I2.fresh
  refine wpAny_newObj_type (wpAny_newFunctionEnv S.nocell (by intro y hy; simp at hy) (fun h1 hns1 hsb1 => ?_) S.kind)
  dsimp only at hns1 hsb1 ⊢
  have I3 : Inv X pins σ (upd H2 s2.heap.objs.size (.lst [])) { s2 with heap := s2.heap.push { cls := .type "list", dict := none, data := .seq ([] : List Value).toArray } } :=
    Inv.lnew (its := []) (t' := s2.toks) I2 .nil (Nat.zero_le _)
  generalize hs3 : ({ s2 with heap := s2.heap.push { cls := .type "list", dict := none, data := .seq ([] : List Value).toArray } } : Shared) = s3 at I3
  have hh3 : s3.heap = s2.heap.push { cls := .type "list", dict := none, data := .seq ([] : List Value).toArray } := by rw [← hs3]
  have hsz3 : s3.heap.objs.size = s2.heap.objs.size + 1 := by rw [hh3, Heap.size_push]
  have hsh : ({ s2 with heap := h1, toks := s2.toks + ([] : List (Str × Value)).length } : Shared) = { s3 with heap := h1, toks := s2.toks + ([] : List (Str × Value)).length } := by rw [← hs3]
  rw [← hh3] at hns1 hsb1 ⊢
  have fpD : ∀ b ∈ fp, b ≠ s2.heap.objs.size := fun b hb => Nat.ne_of_lt (hlt2 b hb)
  have f3 : ∀ b ∈ fp, FpOk X pins (upd H2 s2.heap.objs.size (.lst [])) b := fun b hb => ⟨by rw [upd_ne (fpD b hb)]; exact (f2 b hb).1, (f2 b hb).2⟩
  have old : ∀ b o, s3.heap.get? b = some o → h1.get? b = some o := fun b o e => hsb1.extBut b o (Nat.ne_of_lt (Heap.lt_size e)) (Heap.get?_push_of_some _ e)
  have J4 : Inv (X.comp scope cl s3.heap.objs.size N' s3 (upd H2 s2.heap.objs.size (.lst [])) fp) [] (selS ix σ) (upd H2 s2.heap.objs.size (.lst [])) { s3 with heap := h1, toks := s2.toks + ([] : List (Str × Value)).length } :=
    I3.comp S f3 (fun b hb => Nat.lt_of_lt_of_le (hlt2 b hb) (by rw [hsz3]; exact Nat.le_succ _)) c1 c2 hns1 old
  have st4 : tn 0 h1 := T.keep _ _ _ st2 fun b hb o e => old b o (by rw [hh3]; exact Heap.get?_push_of_some _ e)
  generalize hCC : s3.heap.objs.size = C at *
  generalize hX' : X.comp scope cl C N' s3 (upd H2 s2.heap.objs.size (.lst [])) fp = X' at J4
  have stat : ∀ {H' : Hp}, (∀ b ∈ fp, H' b = none) → ∀ b ∈ fp, FpOk X' [] H' b := fun {H'} hn b hb => by
    subst hX'
    refine ⟨hn b hb, (J4.ok.exf b hb).1, J4.ok.exfs b hb, .inl hb, (J4.ok.exf b hb).2, fun p hp => (by cases hp)⟩
  rw [hsh]
  have loop : codeAny (model X.prog X.w) X.A (.compLoop (.ListComp elt [⟨tg, iter, ifs, 0⟩] scope pos) 0 (.ref it) (.ref s2.heap.objs.size) (compEnvC scope cl C X.env)) (RR (.ref s2.heap.objs.size) C) { s3 with heap := h1, toks := s2.toks + ([] : List (Str × Value)).length } := by
    refine compLoop_go (fun n s' => ∃ i σ' H', Inv X' [] σ' H' s' ∧ tn i s'.heap ∧ (∀ b ∈ fp, H' b = none) ∧ W i n σ' H') ?_ m0 ⟨0, _, _, J4, st4, fun b hb => (f3 b hb).1, w0⟩
    rintro n s5 ⟨i, σ5, H5, I5, st5, fr5, w5⟩
    rcases turn i n σ5 H5 w5 with ⟨stop, qn⟩ | ⟨go, N, hN, step⟩
    · have td := T.done X' (by subst hX'; rfl) (by subst hX'; rfl) (by subst hX'; rfl) (by subst hX'; exact hc) i [] s5 σ5 H5 (fun _ _ => False) I5 (stat fr5) st5 stop
      have eA : X'.A = X.A := by subst hX'; rfl
      rw [eA] at td
      refine thn td fun r s6 ⟨hr, I6⟩ => ?_
      subst hr
      subst hX'
      obtain ⟨m, hnm, _⟩ := I6.loc
      have I7 : Inv X pins σ H5 s6 := I3.uncomp f3 (Nat.le_of_eq hCC) I6
      refine hRR s2.heap.objs.size C s3.heap.objs.size s6 H5 m I7 (by omega) (by omega) hnm ?_ I6.hok qn
      have q := I3.fpOk (H' := H5) (b := C) (by omega) I6.free
      exact q
    · have ti := T.item X' (by subst hX'; rfl) (by subst hX'; rfl) (by subst hX'; rfl) (by subst hX'; exact hc) i [] s5 σ5 H5 (fun _ _ => False) I5 (stat fr5) st5 go
      have eA : X'.A = X.A := by subst hX'; rfl
      rw [eA] at ti
      refine thn ti fun r s6 ⟨u, hr, h6⟩ => ?_
      subst hr
      refine thn h6 fun _ s7 ⟨x, H7, I7, r7, y7, st7, fr7⟩ => ?_
      have I7' := I7.pinned (stat fr7) (T.obj _ _ st7)
      have again : ∀ {pl : List (Addr × Obj)} {σ8 : St} {H8 : Hp} {s8 : Shared}, Inv X' ([] ++ pinsAt fp s7.heap) σ8 H8 s8 → N σ8 H8 → ∃ m, m < n ∧ ∃ i σ' H', Inv X' [] σ' H' s8 ∧ tn i s8.heap ∧ (∀ b ∈ fp, H' b = none) ∧ W i m σ' H' := fun {pl σ8 H8 s8} I8 n8 => by
        obtain ⟨m', hm, w8⟩ := hN σ8 H8 n8
        refine ⟨m', hm, i + 1, σ8, H8, I8.unpinned, T.keep _ _ _ st7 fun b hb o e => (I8.pin (b, o) (List.mem_append_right _ (List.mem_append_right _ (mem_pinsAt hb e)))).1, fun b hb => ?_, w8⟩
        obtain ⟨o, e, d⟩ := T.obj _ _ st7 b hb
        exact (I8.pin (b, o) (List.mem_append_right _ (List.mem_append_right _ (mem_pinsAt hb e)))).2.1
      have eE : X'.env = compEnvC scope cl C X.env := by subst hX'; rfl
      have eP : X'.prog = X.prog := by subst hX'; rfl
      have eW : X'.w = X.w := by subst hX'; rfl
      have eX : X'.xe = fun _ _ => False := by subst hX'; rfl
      have hg' : PG X' tg g := by subst hX'; exact hg _ _ _ _ _
      have hif' : PIfs X' ifs tif := by subst hX'; exact hif _ _ _ _ _
      have he' : PE X' elt telt := by subst hX'; exact he _ _ _ _ _
      have a1 := hg' _ s7 σ5 H7 x u _ I7' r7 (step x H7 y7)
      rw [eE, eP, eW, eA, eX] at a1
      refine thn a1 fun _ s8 ⟨σ8, H8, I8, q8⟩ => ?_
      have a2 := hif' _ s8 σ8 H8 _ I8 q8
      rw [eE, eP, eW, eA, eX] at a2
      refine thn a2 fun ok s9 ⟨H9, I9, q9⟩ => ?_
      cases ok with
      | false => exact again (pl := []) I9 q9
      | true =>
        have q9' : tEmit s2.heap.objs.size telt N σ8 H9 := q9
        have a3 := he' _ s9 σ8 H9 _ I9 q9'
        rw [eE, eP, eW, eA, eX] at a3
        show wpAny _ _ _ _ _ _
        refine thn a3 fun y s10 ⟨v, H10, I10, r10, acc, hD, hl, n10⟩ => ?_
        obtain ⟨hz, its, k, rv, hgD⟩ := I10.hok s2.heap.objs.size _ hD
        have hlen := rv.length
        refine wpAny_list_append_plain (hsz := by rw [List.size_toArray, ← hlen]; exact Nat.le_of_lt hl) ⟨k, hgD⟩ fun h11 hl11 hs11 => ?_
        obtain ⟨k', hk'⟩ := hl11
        have ep : (its.toArray.push y) = (its ++ [y]).toArray := by simp
        rw [ep] at hk'
        have I11 : Inv X' ([] ++ pinsAt fp s7.heap) σ8 (upd H10 s2.heap.objs.size (.lst (acc ++ [v]))) { s10 with heap := h11 } :=
          I10.write (x := s2.heap.objs.size) (e := s2.heap.objs.size) (t' := s10.toks) (by rw [hD]; exact trivial) (.inl rfl) (fun b o hb e => hs11.extBut b o hb e) ⟨_, hk'⟩ ⟨by rw [List.length_append]; exact hl, its ++ [y], k', rv.append (.cons r10 .nil), hk'⟩
        exact again (pl := []) I11 n10
  exact codeAny_compStart_list loop (T.self _ 0 _ _ _ st4 loop)

/-- [elt for target in iter if ..] as a value -/
theorem pe_comp (hc : X.calm = true) (S : CompScope X.N X.env.scope scope N' ix) (hi : PI X tg iter wi)
    (hg : ∀ cl C s0 H0 fp, PG (X.comp scope cl C N' s0 H0 fp) tg g) (hif : ∀ cl C s0 H0 fp, PIfs (X.comp scope cl C N' s0 H0 fp) ifs tif) (he : ∀ cl C s0 H0 fp, PE (X.comp scope cl C N' s0 H0 fp) elt telt)
    (hs : ∀ x, foldedSetIterable iter X.env x = pure x := by intro _; rfl) : PE X (.ListComp elt [⟨tg, iter, ifs, 0⟩] scope pos) (tComp wi ix g tif telt) := by
  intro pins s σ H Q I h
  obtain ⟨cl, hcl, c1, c2⟩ := closure_of (scope := scope) (env := X.env) fun y hy hk => I.ok.has y.1 (.inl (S.frees y hy hk))
  rw [eval_ListComp]
  refine wpAny_comprehension_free (use := none) rfl hs hcl S.kind S.names (thn (hi pins s σ H _ I h) fun xv s1 h1 => thn h1 fun itv s2 h2 => ?_)
  obtain ⟨it, fp, tn, J, H2, e, I2, T, st2, f2, body⟩ := h2
  subst e
  refine comp_block (RR := fun acc C => compPost (model X.prog X.w) X.A X.xe none (EP X pins σ Q) acc C) (Q := Q) hc S c1 c2 hg hif he I2 T st2 f2 body ?_
  intro D C s3 s' H' m I' h1 h2 hm hf hok q
  obtain ⟨f0, f1, f2', f3, f4, f5⟩ := hf
  refine ⟨m, hm, fun h' sb => ⟨.ref D, H', ?_, rfl, q⟩⟩
  exact I'.turned (t' := s'.toks) (fun b o hb e => sb.extBut b o hb e) f0 f1 f3 f4 f5

/-- name = [..]: the store comes ahead of the block's end -/
theorem ps_comp {i : Nat} {y : Str} {py spos : Pos} (hc : X.calm = true) (S : CompScope X.N X.env.scope scope N' ix) (hi : PI X tg iter wi)
    (hg : ∀ cl C s0 H0 fp, PG (X.comp scope cl C N' s0 H0 fp) tg g) (hif : ∀ cl C s0 H0 fp, PIfs (X.comp scope cl C N' s0 H0 fp) ifs tif) (he : ∀ cl C s0 H0 fp, PE (X.comp scope cl C N' s0 H0 fp) elt telt)
    (hN : X.N.Nodup) (hy : X.N[i]? = some y) (hx : X.env.scope.names.lookup y = some .local)
    (hsw : swapsWith (.ListComp elt [⟨tg, iter, ifs, 0⟩] scope pos) (some (.Name y py)) spos.line X.env = pure true := by rfl)
    (hs : ∀ x, foldedSetIterable iter X.env x = pure x := by intro _; rfl) : PS X (.Assign [.Name y py] (.ListComp elt [⟨tg, iter, ifs, 0⟩] scope pos) spos) (tAsg (tComp wi ix g tif telt) (gName i)) := by
  intro pins s σ H D0 I h
  obtain ⟨cl, hcl, c1, c2⟩ := closure_of (scope := scope) (env := X.env) fun y hy hk => I.ok.has y.1 (.inl (S.frees y hy hk))
  rw [exec_Assign_Name_used _ _ _ _ hsw]
  refine wpAny_bind (wpAny_standAt (wpAny_bind ?_))
  show wpAny _ _ (do let _ ← comprehension (.ListComp elt [⟨tg, iter, ifs, 0⟩] scope pos) scope X.env _ (newList []) false (eval iter X.env) (some (assign (.Name y py) X.env))) _ _ s
  refine wpAny_bind (wpAny_mono (wpAny_comprehension_free (use := some (assign (.Name y py) X.env)) (Q := fun _ s' => SP X pins D0 .next s') rfl hs hcl S.kind S.names
    (thn (hi pins s σ H _ I h) fun xv s1 h1 => thn h1 fun itv s2 h2 => ?_)) (fun _ s' hq => wpAny_pure (wpAny_pure hq)) fun _ _ e => e)
  obtain ⟨it, fp, tn, J, H2, e, I2, T, st2, f2, body⟩ := h2
  subst e
  refine comp_block (RR := fun acc C => compPost (model X.prog X.w) X.A X.xe (some (assign (.Name y py) X.env)) (fun _ s' => SP X pins D0 .next s') acc C) (Q := fun v H1 => gName i v σ H1 D0.nx) hc S c1 c2 hg hif he I2 T st2 f2 body ?_
  intro D C s3 s' H' m I' h1 h2 hm hf hok q
  obtain ⟨f0, f1, f2', f3, f4, f5⟩ := hf
  show wpAny _ _ (assign (.Name y py) X.env (.ref D)) _ _ _
  refine wpAny_assign_Name (store_ok2 I' hN hy (.inl hx) (v := .ref D) rfl (fun s4 I4 ⟨a, sb, ha⟩ => ?_) (.inr hx))
  have hCa : C ≠ a := by
    rcases ha with z | z
    · rw [z]; exact f1
    · exact Ne.symm (f4 y a z)
  refine ⟨m, hm.sameBut sb hCa, fun h' sb' => ⟨_, H', ?_, q⟩⟩
  exact I4.turned (t' := s4.toks) (fun b o hb e => sb'.extBut b o hb e) f0 f1 f3 f4 f5
end
end L2

/-! MORE RULES: count, isinstance, sum, a list unpacked, a tuple's methods -/
namespace L2
open PySem PySem.Spec PyProof.Rows
section
variable {X : Cx}

/-! ### count of ints -/
def rCountL (K : PySem.W.Frag) : V → List V → Hp → VK → Prop := fun x vs H Q => ∃ (l : Addr) (ns : List Int) (k : Int), x = .ref l ∧ vs = [.int k] ∧ SqL K H l (ns.map V.int) ∧ Q (.int (ns.count k : Nat)) H
theorem mt_countL : MtR X "list.count" (rCountL X.K) := by
  intro pins s σ H x vs v us Q I rx rv h
  obtain ⟨l, ns, k, rfl, rfl, hS, q⟩ := h
  cases rx
  obtain ⟨u, rfl, t, rfl⟩ := rv.one
  obtain ⟨its, r, p, hz⟩ := I.list hS
  exact count_list_ints p.isList (intsAre_of r) ⟨.int (ns.count k : Nat), H, I.tok _, ⟨_, rfl⟩, q⟩
def rCountT (K : PySem.W.Frag) : V → List V → Hp → VK → Prop := fun x vs H Q => ∃ (l : Addr) (ns : List Int) (k : Int), x = .ref l ∧ vs = [.int k] ∧ SqT K H l (ns.map V.int) ∧ Q (.int (ns.count k : Nat)) H
theorem mt_countT : MtR X "tuple.count" (rCountT X.K) := by
  intro pins s σ H x vs v us Q I rx rv h
  obtain ⟨l, ns, k, rfl, rfl, hS, q⟩ := h
  cases rx
  obtain ⟨u, rfl, t, rfl⟩ := rv.one
  obtain ⟨its, r, ⟨⟨cls, dd, data, sl⟩, ho, hc, n, hd⟩, hz⟩ := I.tuple hS
  simp only at hc hd
  subst hc hd
  have hi := intsAre_of r
  refine call_meets PySem.F.slot_tuple_count ⟨_, ho, rfl⟩ PySem.F.entry_tuple_count (PySem.F.args_tuple_count_2 _ _) (SeqAt.tuple_countAt l its.toArray n dd sl (.int k t) (isInt k)) ⟨ho, fun y hy => (eq_isInt k t hi y (by simpa using hy)).at _ _, ?_⟩
  rw [show its.toArray.toList = its from rfl, countP_isInt k hi]
  exact ⟨.int (ns.count k : Nat), H, I.tok _, ⟨_, rfl⟩, q⟩
/-- o.m(e, ..) of a tuple that is tracked -/
def tTM (r : V → List V → Hp → VK → Prop) (to : TE) (t : TA) : TE := fun σ H Q => to σ H fun x H1 => (∃ p ys, x = .ref p ∧ H1 p = some (.tup ys)) ∧ t σ H1 fun xs H2 => r x xs H2 Q
variable {o e : Expr} {es : List Expr} {to : TE} {t : TA} {name : Str} {apos cpos : Pos} {id : String} {r : V → List V → Hp → VK → Prop}
theorem pe_tm (slot : Slot "tuple" name id) (hty : typeOf (.builtin id) = pure (.type "method_descriptor")) (hm : MtR X id r) (ho : PE X o to) (ha : PA X (e :: es) t)
    (hbase : attributeBase o name X.env (eval o X.env) = eval o X.env := by rfl)
    (hfew : ((backTo cpos (starEach (e :: es) X.env)).all (fun x => !x.1) && (backToKw cpos (keywordEach [] X.env)).all (fun x => x.1.isSome)
      && decide ((e :: es).length + ([] : List Keyword).length + (if ([] : List Keyword).isEmpty then 0 else 1) < 30)) = true := by rfl)
    (hline : (apos.endLine == cpos.line) = true := by rfl) (hs : starEach (e :: es) X.env = (false, eval e X.env) :: starEach es X.env := by rfl) (hplain : (backTo cpos (starEach es X.env)).any (·.1) = false := by rfl) :
    PE X (.Call (.Attribute o name apos) (e :: es) [] cpos) (tTM r to t) := by
  intro pins s σ H Q I h
  refine wpAny_Call_method_late hbase hfew hline rfl (thn (ho pins s σ H _ I h) fun v s1 ⟨x, H1, I1, r1, ⟨p, ys, ex, hp⟩, q1⟩ => ?_)
  subst ex
  cases r1
  obtain ⟨_, its, _, ob, eo, ec, ed, _⟩ := I1.hok p _ hp
  refine ⟨"tuple", id, PySem.F.plainAttrs_tuple, slot, hty, ⟨ob, eo, ec⟩, fun a ea => by cases ea; exact ⟨ob, eo, ed⟩, ?_⟩
  have hA := ha cpos pins s1 σ H1 _ I1 q1
  rw [hs] at hA ⊢
  refine Calls.callWith_builtin (by show (false || (backTo cpos (starEach es X.env)).any (·.1)) = false; rw [hplain] <;> rfl) (Calls.evalArgs_plain ?_)
  exact thn hA fun us s2 ⟨vs, H2, I2, r2, q2⟩ => hm pins s2 σ H2 (.ref p) vs _ us Q I2 rfl r2 q2

/-! ### isinstance -/
/-- the value that stands for a class: a built-in type, or an own class -/
inductive ClsV : V → Value → Prop where
  | ty (n : String) : ClsV (.ty n) (.type n)
  | own (C : Addr) : ClsV (.ref C) (.ref C)
def rIsi (K : PySem.W.Frag) : List V → Hp → VK → Prop := fun xs H Q => ∃ x cv t c b, xs = [x, cv] ∧ ClsV cv c ∧ TyOf K H x t ∧ PySem.W.kitOne K t c = some b ∧ Q (.bl b) H
theorem call_isi : CallR X (.builtin "isinstance") (rIsi X.K) := by
  intro pins s σ H xs us Q I r h
  obtain ⟨x, cv, t, c, b, rfl, hc, ty, e, q⟩ := h
  obtain ⟨u, w', rfl, ru, rw'⟩ := vals2 r
  have ew : w' = c := by
    cases hc with
    | ty n => exact rw'
    | own C => exact rw'
  subst ew
  exact isinst_ok I ru ty e fun tk => ⟨.bl b, H, I.tok tk, rfl, q⟩

/-! ### a list unpacked -/
theorem draw_list {prog : Program} {w : World} {A : Around} {E : Value → Shared → Prop} {it t : Addr} {items : Array Value} (hne : t ≠ it) : ∀ (n i : Nat) (s : Shared) (Q : List Value → Shared → Prop), s.heap.IsListIter it t i → s.heap.IsList t items → i + n ≤ items.size →
    (∀ h', h'.IsListIter it t (i + n) → Heap.SameBut it s.heap h' → Q ((items.toList.drop i).take n) { s with heap := h' }) → wpAny (model prog w) A (draw (.ref it) n) Q E s
  | 0, i, s, Q, hit, _, _, hQ => by
    show wpAny _ _ (pure []) Q E s
    exact wpAny_pure (by simpa using hQ s.heap hit (Heap.SameBut.refl ..))
  | n + 1, i, s, Q, hit, ht, hle, hQ => by
    have hlt : i < items.size := by omega
    show wpAny _ _ (pyNext (.ref it) >>= _) Q E s
    refine wpAny_bind (wpAny_pyNext_list_item hit ht (x := items[i]) (by simp [hlt]) fun h1 hit1 hs1 => ?_)
    refine wpAny_bind (wpAny_holding (draw_list hne n (i + 1) _ _ hit1 (ht.extBut hs1.extBut hne) (by omega) fun h2 hit2 hs2 => wpAny_pure ?_))
    have hd : items.toList.drop i = items[i] :: items.toList.drop (i + 1) := by simp [List.drop_eq_getElem_cons, hlt]
    have := hQ h2 (by rw [show i + (n + 1) = i + 1 + n by omega]; exact hit2) (hs1.trans hs2)
    rw [hd, List.take_succ_cons] at this
    exact this
theorem unpackItems_list {prog : Program} {w : World} {A : Around} {E : Value → Shared → Prop} {s : Shared} {t : Addr} {items : Array Value} {Q : List Value → Shared → Prop} (hh : A.handled = none) (ht : s.heap.IsList t items)
    (hQ : ∀ h', Heap.ExtBut s.heap.objs.size s.heap h' → Q items.toList { s with heap := h' }) : wpAny (model prog w) A (unpackItems (.ref t) items.size none) Q E s := by
  have hlt : t ≠ s.heap.objs.size := by obtain ⟨o, ho, _⟩ := ht; exact Nat.ne_of_lt (Heap.lt_size ho)
  unfold unpackItems
  refine wpAny_bind ?_
  · unfold notIterableAtAll
    refine wpAny_bind (wpAny_specialOf ht.typeIs slot_list_iter.lookup ?_)
    refine wpAny_pure ?_
    simp only [Bool.false_eq_true, if_false]
    refine wpAny_bind (wpAny_holding (wpAny_pyIter_list ht ?_))
    refine wpAny_bind (wpAny_holding (draw_list hlt items.size 0 _ _ ⟨_, Heap.get?_push_size _ rfl, rfl, rfl⟩ (ht.push _) (by omega) fun h1 hit1 hs1 => ?_))
    have hall : List.take items.size (List.drop 0 items.toList) = items.toList := by
      rw [List.drop_zero]; exact List.take_of_length_le (by simp)
    rw [hall]
    rw [if_neg (by simp)]
    have ht1 : h1.IsList t items := (ht.push _).extBut hs1.extBut hlt
    refine wpAny_bind (wpAny_holding (wpAny_pyNext_list_end hh hit1 ht1 (by simp) fun h2 he2 => ?_))
    simp only [Option.isSome_none, Bool.false_eq_true, if_false]
    refine wpAny_pure (hQ h2 fun b o hb e => he2 b o hb (hs1.extBut b o hb (Heap.get?_push_of_some _ e)))
/-- (a, b, ..) = a list of that length -/
def gLst (K : PySem.W.Frag) (n : Nat) (t : TGs) : TG := fun v σ H Q => ∃ a xs, v = .ref a ∧ SqL K H a xs ∧ xs.length = n ∧ t xs σ H Q
theorem pg_lst {es : List Expr} {k : Nat} {t : TGs} {n : Nat} {pos : Pos} (hc : X.calm = true) (h : PGs X es t)
    (hn : (assignEach es X.env).length = n := by rfl) (hst : (assignEach es X.env).findIdx? (·.1) = none := by rfl) : PG X (.Tuple es k pos) (gLst X.K n t) := by
  intro pins s σ H v u Q I r hw
  obtain ⟨a, xs, e1, hq, hl, hw⟩ := hw
  subst e1
  cases r
  obtain ⟨its, rv, ht, hz⟩ := I.list hq
  have hln := rv.length
  rw [assign_Tuple]
  refine wpAny_bind (wpAny_standAt ?_)
  unfold unpack
  have esz : (assignEach es X.env).length = its.toArray.size := by rw [hn, ← hl, hln, List.size_toArray]
  rw [esz, hst]
  refine wpAny_bind (wpAny_holding (unpackItems_list (I.ok.hd hc) ht.isList fun h' hx => ?_))
  have I1 : Inv X pins σ H { s with heap := h' } := I.kept (t' := s.toks) fun b o e => hx b o (Nat.ne_of_lt (Heap.lt_size e)) e
  exact h pins _ σ H xs _ Q I1 (by simpa using rv) hw

/-! ### sum of a list of ints -/
theorem pairs_of_ints : ∀ {us : List Value} {ns : List Int}, IntsAre us ns → ∃ ps : List (Int × Tok), us = ps.map (fun p => Value.int p.1 p.2) ∧ ps.map (·.1) = ns
  | _, _, .nil => ⟨[], rfl, rfl⟩
  | _, _, .cons n t h => by
    obtain ⟨ps, e1, e2⟩ := pairs_of_ints h
    exact ⟨(n, t) :: ps, by rw [List.map_cons, e1], by rw [List.map_cons, e2]⟩

/-! ### a list or a tuple walked -/
def iSeq (K : PySem.W.Frag) (tl : TE) : TI := fun σ H R => tl σ H fun x H1 => ∃ a, x = .ref a ∧ (((∃ xs, SqL K H1 a xs) ∧ R (Itl K a) H1) ∨ ((∃ xs, SqT K H1 a xs) ∧ R (Itt K a) H1))
theorem pi_seq {tg l : Expr} {tl : TE} (hl : PE X l tl) : PI X tg l (iSeq X.K tl) := by
  intro pins s σ H R I h
  refine thn (hl pins s σ H _ I h) fun v s1 ⟨x, H1, I1, r1, q1⟩ => ?_
  obtain ⟨a, e, q⟩ := q1
  subst e
  cases r1
  rcases q with ⟨⟨xs, hq⟩, q⟩ | ⟨⟨xs, hq⟩, q⟩
  · obtain ⟨its, rv, p, hz⟩ := I1.list hq
    refine wpAny_pyIter_list p.isList ?_
    refine ⟨s1.heap.objs.size, [s1.heap.objs.size], _, _, H1, rfl, I1.kept (t' := s1.toks) fun b o e => Heap.get?_push_of_some _ e, turn_list a _, ⟨_, Heap.get?_push_size _ rfl, rfl, rfl⟩, fun b hb => ?_, q⟩
    have e : b = s1.heap.objs.size := by simpa using hb
    subst e
    exact I1.fpOk (Nat.le_refl _) (I1.hok.fresh (Nat.le_refl _))
  · obtain ⟨its, rv, p, hz⟩ := I1.tuple hq
    refine wpAny_pyIter_tuple (show s1.heap.IsTuple a its.toArray from p) ?_
    refine ⟨s1.heap.objs.size, [s1.heap.objs.size], _, _, H1, rfl, I1.kept (t' := s1.toks) fun b o e => Heap.get?_push_of_some _ e, turn_tuple a _, ⟨_, Heap.get?_push_size _ rfl, rfl, rfl⟩, fun b hb => ?_, q⟩
    have e : b = s1.heap.objs.size := by simpa using hb
    subst e
    exact I1.fpOk (Nat.le_refl _) (I1.hok.fresh (Nat.le_refl _))

/-! ### the text by places -/
def stE : Stmt → Expr
  | .Assign _ v _ => v
  | .Return (some v) _ => v
  | .Expr v _ => v
  | _ => .Constant .none 0 ⟨0, 0, 0, 0⟩
def exArg (e : Expr) (j : Nat) : Expr := match e with
  | .Call _ as _ _ => as.getD j (.Constant .none 0 ⟨0, 0, 0, 0⟩)
  | _ => .Constant .none 0 ⟨0, 0, 0, 0⟩
def exScope : Expr → Scope
  | .ListComp _ _ sc _ => sc
  | _ => { kind := .function, names := [], isGenerator := false, isCoroutine := false }
def stTest : Stmt → Expr
  | .If c _ _ _ => c
  | .While c _ _ _ => c
  | _ => .Constant .none 0 ⟨0, 0, 0, 0⟩
def exVal (e : Expr) (j : Nat) : Expr := match e with
  | .BoolOp _ vs _ => vs.getD j (.Constant .none 0 ⟨0, 0, 0, 0⟩)
  | _ => .Constant .none 0 ⟨0, 0, 0, 0⟩
def exOpd : Expr → Expr
  | .UnaryOp _ e _ => e
  | _ => .Constant .none 0 ⟨0, 0, 0, 0⟩
/-- a def's statement by a path: the i-th statement; within an if or a loop its body -/
def stAt (l : List Stmt) (i : Nat) : Stmt := l.getD i (.Pass ⟨0, 0, 0, 0⟩)
def stBody : Stmt → List Stmt
  | .If _ b _ _ => b
  | .For _ _ b _ _ => b
  | .While _ b _ _ => b
  | _ => []
end
end L2

/-! SMALL WORDS for readings -/
namespace L2
open PySem PySem.Spec PyProof.Rows
theorem iteB {c : Bool} {A B : Prop} (e : c = false) (h : B) : if c = true then A else B := by
  subst e; exact iteF h
theorem iteA {c : Bool} {A B : Prop} (e : c = true) (h : A) : if c = true then A else B := by
  subst e; exact iteT h
theorem out_no {a lo hi : Int} (h1 : lo ≤ a) (h2 : a ≤ hi) : (decide (a < lo) || decide (hi < a)) = false := by
  rw [decide_eq_false (by omega), decide_eq_false (by omega)]; rfl
theorem dec_gt {a b : Int} (h : b ≤ a) : decide (a < b) = false := decide_eq_false (by omega)
theorem dec_lt {a b : Int} (h : a < b) : decide (a < b) = true := decide_eq_true h

theorem fl0 {f : Str} {v : V} : (putF f v []).length ≤ 1 := length_putF f v []
theorem flS {f : Str} {v : V} {fs : List (Str × V)} {k : Nat} (h : fs.length ≤ k) : (putF f v fs).length ≤ k + 1 := Nat.le_trans (length_putF f v fs) (Nat.succ_le_succ h)
theorem fl1000 {fs : List (Str × V)} {k : Nat} (h : fs.length ≤ k) (hk : k < 1000 := by decide) : fs.length < 1000 := Nat.lt_of_le_of_lt h hk
/-- all but p as it was -/
def SameX (p : Addr) (H H' : Hp) : Prop := ∀ b o, H b = some o → b ≠ p → H' b = some o
theorem Same.upd {H : Hp} {l : Addr} {o : HO} (h : H l = none) : Same H (upd H l o) := fun b u e => by
  rw [upd_ne (ne_of_none e h)]; exact e
theorem Same.updT {H H1 : Hp} {l : Addr} {o : HO} (s : Same H H1) (h : H1 l = none) : Same H (L2.upd H1 l o) := s.trans (Same.upd h)
theorem Same.tup {K : PySem.W.Frag} {H H' : Hp} {a : Addr} {xs : List V} (e : Same H H') (h : SqT K H a xs) : SqT K H' a xs := by
  rcases h with (h | ⟨o, h⟩) | h
  · exact .inl (.inl (e _ _ h))
  · exact .inl (.inr ⟨o, e _ _ h⟩)
  · exact .inr h
/-- a list that the call has made is rewritten; what stood before stands -/
theorem Same.put {H H1 : Hp} {l : Addr} {o : HO} (s : Same H H1) (h : H l = none) : Same H (L2.upd H1 l o) := fun b u e => by
  rw [upd_ne (ne_of_none e h)]; exact s b u e

theorem upd_id {H : Hp} {m : Addr} {o : HO} (h : H m = some o) : L2.upd H m o = H := by
  funext b
  by_cases hb : b = m
  · subst hb; rw [upd_same, h]
  · rw [upd_ne hb]

/-! ### rules whose reading names the written part: for a comprehension's block -/
theorem mt_countTK {X : Cx} (K : PySem.W.Frag) (h : X.K = K) : MtR X "tuple.count" (rCountT K) := h ▸ mt_countT
theorem mt_countLK {X : Cx} (K : PySem.W.Frag) (h : X.K = K) : MtR X "list.count" (rCountL K) := h ▸ mt_countL
theorem ix_listK {X : Cx} (K : PySem.W.Frag) (h : X.K = K) : IxR X (rIxL K) := h ▸ ix_list
theorem ix_tupK {X : Cx} (K : PySem.W.Frag) (h : X.K = K) : IxR X (rIxT K) := h ▸ ix_tup
theorem pe_fldK {X : Cx} {e : Expr} {f : Str} {pos : Pos} {ta : TE} (K : PySem.W.Frag) (h : X.K = K) (he : PE X e ta) (hb : attributeBase e f X.env (eval e X.env) = eval e X.env) : PE X (.Attribute e f pos) (tFld K ta f) := h ▸ pe_fld he hb

/-! ### ints in a list -/
theorem int_at {xs : List Int} {i : Nat} {v : V} (h : (xs.map V.int)[i]? = some v) : ∃ z, v = .int z ∧ xs[i]? = some z := by
  rw [List.getElem?_map] at h
  cases e : xs[i]? with
  | none => rw [e] at h; cases h
  | some z => rw [e] at h; exact ⟨z, (Option.some.inj h).symm, rfl⟩
theorem atI_int {xs : List Int} {j : Nat} {z : Int} (h : xs[j]? = some z) : atI (xs.map V.int) (j : Int) = some (V.int z) := atI_nat (by rw [List.getElem?_map, h]; rfl)
theorem atI_getD {α : Type} {xs : List α} {i : Int} (d : α) (h0 : 0 ≤ i) (h1 : i < xs.length) : atI xs i = some (xs.getD i.toNat d) := by
  obtain ⟨j, rfl⟩ : ∃ j : Nat, i = j := ⟨i.toNat, by omega⟩
  have hj : j < xs.length := by omega
  rw [atI_nat (v := xs[j]) (by simp [hj])]
  simp [hj]

theorem atI_intD {xs : List Int} {i : Int} (h0 : 0 ≤ i) (h1 : i < xs.length) : atI (xs.map V.int) i = some (.int (xs.getD i.toNat 0)) := by
  obtain ⟨j, rfl⟩ : ∃ j : Nat, i = j := ⟨i.toNat, by omega⟩
  have hj : j < xs.length := by omega
  rw [atI_int (z := xs[j]) (by simp [hj])]
  simp [hj]
theorem dec_vint {a b : Int} : decide (V.int a = V.int b) = decide (a = b) := by
  by_cases h : a = b
  · subst h; simp
  · rw [decide_eq_false h, decide_eq_false]; intro e; cases e; exact h rfl

theorem rep_flat {α : Type} (x : α) : ∀ k : Nat, (List.replicate k [x]).flatten = List.replicate k x
  | 0 => rfl
  | k + 1 => by rw [List.replicate_succ, List.flatten_cons, rep_flat x k]; rfl
theorem range_const {α : Type} (x : α) (f : Nat → α) (k : Nat) (h : ∀ i, f i = x) : (List.range k).map f = List.replicate k x := by
  apply List.ext_getElem
  · simp
  · intro i h1 h2
    simp [h]

/-! ### comprehensions that map -/
/-- J yields x 0, .., x (n - 1) and leaves the heap -/
theorem comp_map {J : It} {H1 : Hp} {D : Addr} {n : Nat} {x : Nat → V} {f : Nat → V} {j : Nat} {σc : St} {telt : TE} {Q : Hp → Prop} (hn : n ≤ sizeLine)
    (go : ∀ i acc, i < n → J.go i (upd H1 D (.lst acc))) (st : ∀ acc, J.stop n (upd H1 D (.lst acc))) (yl : ∀ i acc v H', i < n → J.yld i (upd H1 D (.lst acc)) v H' → H' = upd H1 D (.lst acc) ∧ v = x i)
    (el : ∀ i acc R, i < n → R (f i) (upd H1 D (.lst acc)) → telt (σc.set j (some (x i))) (upd H1 D (.lst acc)) R) (q : Q (upd H1 D (.lst ((List.range n).map f)))) :
    ∃ W : Nat → Nat → St → Hp → Prop, (∃ m, W 0 m σc (upd H1 D (.lst []))) ∧
      ∀ i m σ' H', W i m σ' H' → (J.stop i H' ∧ Q H') ∨ (J.go i H' ∧ ∃ N : St → Hp → Prop, (∀ σ2 H2, N σ2 H2 → ∃ m', m' < m ∧ W (i + 1) m' σ2 H2) ∧
        ∀ v H2, J.yld i H' v H2 → gName j v σ' H2 fun σ3 H3 => tTrue σ3 H3 fun b H4 => if b = true then tEmit D telt N σ3 H4 else N σ3 H4) := by
  refine ⟨fun i m σ' H' => m = n - i ∧ i ≤ n ∧ (∀ v, σ'.set j (some v) = σc.set j (some v)) ∧ H' = upd H1 D (.lst ((List.range i).map f)), ⟨n, by simp, Nat.zero_le _, fun _ => rfl, rfl⟩, ?_⟩
  rintro i m σ' H' ⟨rfl, hi, hσ, rfl⟩
  by_cases hlt : i < n
  · refine .inr ⟨go i _ hlt, fun σ2 H2 => (∀ v, σ2.set j (some v) = σc.set j (some v)) ∧ H2 = upd H1 D (.lst ((List.range (i + 1)).map f)), fun σ2 H2 ⟨h1, h2⟩ => ⟨n - (i + 1), by omega, rfl, hlt, h1, h2⟩, fun v H2 y => ?_⟩
    obtain ⟨rfl, rfl⟩ := yl i _ v H2 hlt y
    dsimp only [gName, tTrue]
    refine iteT ?_
    dsimp only [tEmit]
    rw [hσ]
    refine el i _ _ hlt ⟨_, upd_same, ?_, ?_, ?_⟩
    · rw [List.length_map, List.length_range]; omega
    · intro v; simp
    · rw [upd_upd, List.range_succ, List.map_append]; rfl
  · have e : i = n := by omega
    subst e
    exact .inl ⟨st _, q⟩
theorem sqL_new {K : PySem.W.Frag} {H : Hp} {a D : Addr} {xs : List V} {o : HO} (h : SqL K H a xs) (n : H D = none) : SqL K (upd H D o) a xs := (Same.upd n).seq h
theorem sqT_new {K : PySem.W.Frag} {H : Hp} {a D : Addr} {xs : List V} {o : HO} (h : SqT K H a xs) (n : H D = none) : SqT K (upd H D o) a xs := (Same.upd n).tup h
theorem map_range_get {α β : Type} (xs : List α) (d : α) (f : α → β) : (List.range xs.length).map (fun i => f (xs.getD i d)) = xs.map f := by
  apply List.ext_getElem
  · simp
  · intro i h1 h2
    simp at h1 h2
    simp [h1]
theorem comp_tup {K : PySem.W.Frag} {H1 : Hp} {a D : Addr} {xs : List V} {f : V → V} {j : Nat} {σc : St} {telt : TE} {Q : Hp → Prop} (h : SqT K H1 a xs) (hD : H1 D = none) (hn : xs.length ≤ sizeLine)
    (el : ∀ x acc R, x ∈ xs → R (f x) (upd H1 D (.lst acc)) → telt (σc.set j (some x)) (upd H1 D (.lst acc)) R) (q : Q (upd H1 D (.lst (xs.map f)))) :
    ∃ W : Nat → Nat → St → Hp → Prop, (∃ m, W 0 m σc (upd H1 D (.lst []))) ∧
      ∀ i m σ' H', W i m σ' H' → ((Itt K a).stop i H' ∧ Q H') ∨ ((Itt K a).go i H' ∧ ∃ N : St → Hp → Prop, (∀ σ2 H2, N σ2 H2 → ∃ m', m' < m ∧ W (i + 1) m' σ2 H2) ∧
        ∀ v H2, (Itt K a).yld i H' v H2 → gName j v σ' H2 fun σ3 H3 => tTrue σ3 H3 fun b H4 => if b = true then tEmit D telt N σ3 H4 else N σ3 H4) := by
  refine comp_map (J := Itt K a) (n := xs.length) (x := fun i => xs.getD i .non) (f := fun i => f (xs.getD i .non)) hn (fun i acc hi => ⟨xs, xs[i], sqT_new h hD, by simp [hi]⟩) (fun acc => ⟨xs, sqT_new h hD, Nat.le_refl _⟩) (fun i acc v H' hi y => ?_) (fun i acc R hi r => ?_) ?_
  · obtain ⟨e, y⟩ := y
    have := y xs (sqT_new h hD)
    exact ⟨e, by rw [List.getD_eq_getElem?_getD, this]; rfl⟩
  · refine el _ acc R ?_ r
    rw [List.getD_eq_getElem?_getD, List.getElem?_eq_getElem hi]
    exact List.getElem_mem hi
  · rw [map_range_get]; exact q
theorem comp_list {K : PySem.W.Frag} {H1 : Hp} {a D : Addr} {xs : List V} {f : V → V} {j : Nat} {σc : St} {telt : TE} {Q : Hp → Prop} (h : SqL K H1 a xs) (hD : H1 D = none) (hn : xs.length ≤ sizeLine)
    (el : ∀ x acc R, x ∈ xs → R (f x) (upd H1 D (.lst acc)) → telt (σc.set j (some x)) (upd H1 D (.lst acc)) R) (q : Q (upd H1 D (.lst (xs.map f)))) :
    ∃ W : Nat → Nat → St → Hp → Prop, (∃ m, W 0 m σc (upd H1 D (.lst []))) ∧
      ∀ i m σ' H', W i m σ' H' → ((Itl K a).stop i H' ∧ Q H') ∨ ((Itl K a).go i H' ∧ ∃ N : St → Hp → Prop, (∀ σ2 H2, N σ2 H2 → ∃ m', m' < m ∧ W (i + 1) m' σ2 H2) ∧
        ∀ v H2, (Itl K a).yld i H' v H2 → gName j v σ' H2 fun σ3 H3 => tTrue σ3 H3 fun b H4 => if b = true then tEmit D telt N σ3 H4 else N σ3 H4) := by
  refine comp_map (J := Itl K a) (n := xs.length) (x := fun i => xs.getD i .non) (f := fun i => f (xs.getD i .non)) hn (fun i acc hi => ⟨xs, xs[i], sqL_new h hD, by simp [hi]⟩) (fun acc => ⟨xs, sqL_new h hD, Nat.le_refl _⟩) (fun i acc v H' hi y => ?_) (fun i acc R hi r => ?_) ?_
  · obtain ⟨e, y⟩ := y
    have := y xs (sqL_new h hD)
    exact ⟨e, by rw [List.getD_eq_getElem?_getD, this]; rfl⟩
  · refine el _ acc R ?_ r
    rw [List.getD_eq_getElem?_getD, List.getElem?_eq_getElem hi]
    exact List.getElem_mem hi
  · rw [map_range_get]; exact q
theorem comp_range {H1 : Hp} {D : Addr} {lo : Int} {n : Nat} {f : Nat → V} {j : Nat} {σc : St} {telt : TE} {Q : Hp → Prop} (hn : n ≤ sizeLine)
    (el : ∀ (i : Nat) acc R, i < n → R (f i) (upd H1 D (.lst acc)) → telt (σc.set j (some (.int (lo + i)))) (upd H1 D (.lst acc)) R) (q : Q (upd H1 D (.lst ((List.range n).map f)))) :
    ∃ W : Nat → Nat → St → Hp → Prop, (∃ m, W 0 m σc (upd H1 D (.lst []))) ∧
      ∀ i m σ' H', W i m σ' H' → ((Itr lo n).stop i H' ∧ Q H') ∨ ((Itr lo n).go i H' ∧ ∃ N : St → Hp → Prop, (∀ σ2 H2, N σ2 H2 → ∃ m', m' < m ∧ W (i + 1) m' σ2 H2) ∧
        ∀ v H2, (Itr lo n).yld i H' v H2 → gName j v σ' H2 fun σ3 H3 => tTrue σ3 H3 fun b H4 => if b = true then tEmit D telt N σ3 H4 else N σ3 H4) :=
  comp_map (J := Itr lo n) (x := fun i => .int (lo + i)) hn (fun i acc hi => hi) (fun acc => Nat.le_refl _) (fun i acc v H' hi y => y) el q
end L2

/-! ZIP of two tuples, SUM of a list of ints -/
namespace L2
open PySem PySem.Spec PyProof.Rows
section
variable {prog : Program} {w : World} {A : Around} {E : Value → Shared → Prop} {s : Shared}

/-- the next item of a tuple's iterator, as zip asks for it -/
theorem nextOf_tup {it l : Addr} {i : Nat} {its : Array Value} {x : Value} {Q : Value → Shared → Prop} (hit : s.heap.IsTupleIter it l i) (hl : s.heap.IsTuple l its) (hx : its[i]? = some x)
    (hQ : ∀ h', h'.IsTupleIter it l (i + 1) → Heap.SameBut it s.heap h' → Q x { s with heap := h' }) : wpAny (model prog w) A (Builtin.SmallTypes.nextOf (.ref it)) Q E s := by
  obtain ⟨oi, hoi, hci, hdi⟩ := id hit
  obtain ⟨os, hos, _, ns, hds⟩ := hl
  unfold Builtin.SmallTypes.nextOf
  refine wpAny_bind (wpAny_callSpecial?_slot (name := Str.ofString "__next__") hit.typeIs F.slot_tuple_iterator_next (wpAny_call_entry F.slot_tuple_iterator_next hit.typeIs F.entry_tuple_iterator_next ?_ (F.args_tuple_iterator_next_1 _)))
  show wpAny _ _ (field (.ref it) 0 >>= _) _ _ s
  refine wpAny_bind (wpAny_field hoi hdi (x := .ref l) rfl ?_); show wpAny _ _ (if (Value.ref l == Value.none) = true then _ else _) _ _ s
  rw [if_neg (show ¬ ((Value.ref l == Value.none) = true) from Bool.false_ne_true)]; show wpAny _ _ (field (.ref it) 1 >>= _) _ _ s
  refine wpAny_bind (wpAny_field hoi hdi (x := .int i 0) rfl ?_); show wpAny _ _ (seqItems? (.ref l) >>= _) _ _ s
  refine wpAny_bind (wpAny_seqItems hos hds ?_); simp only [Int.toNat_natCast, hx]
  refine wpAny_bind (wpAny_setField hoi hdi (by simp) (wpAny_pure ⟨x, rfl, wpAny_pure (hQ _ ?_ (Heap.SameBut.update ..))⟩))
  refine ⟨_, Heap.get?_update_self _ hoi (Obj.isFreed_of_fields (Obj.data_mapFields hdi _)), (Obj.cls_mapFields ..).trans hci, ?_⟩; rw [Obj.data_mapFields hdi]; simp [rawInt]
theorem nextOf_tup_end {it l : Addr} {i : Nat} {its : Array Value} {Q : Value → Shared → Prop} (hh : A.handled = none) (hit : s.heap.IsTupleIter it l i) (hl : s.heap.IsTuple l its) (hx : its[i]? = none)
    (hE : ∀ h' e, Heap.ExtBut it s.heap h' → (∃ o, h'.get? e = some o ∧ o.cls = .type "StopIteration") → E (.ref e) { s with heap := h' }) : wpAny (model prog w) A (Builtin.SmallTypes.nextOf (.ref it)) Q E s := by
  obtain ⟨oi, hoi, hci, hdi⟩ := id hit
  obtain ⟨os, hos, _, ns, hds⟩ := hl
  unfold Builtin.SmallTypes.nextOf
  refine wpAny_bind (wpAny_callSpecial?_slot (name := Str.ofString "__next__") hit.typeIs F.slot_tuple_iterator_next (wpAny_call_entry F.slot_tuple_iterator_next hit.typeIs F.entry_tuple_iterator_next ?_ (F.args_tuple_iterator_next_1 _)))
  show wpAny _ _ (field (.ref it) 0 >>= _) _ _ s
  refine wpAny_bind (wpAny_field hoi hdi (x := .ref l) rfl ?_); show wpAny _ _ (if (Value.ref l == Value.none) = true then _ else _) _ _ s
  rw [if_neg (show ¬ ((Value.ref l == Value.none) = true) from Bool.false_ne_true)]; show wpAny _ _ (field (.ref it) 1 >>= _) _ _ s
  refine wpAny_bind (wpAny_field hoi hdi (x := .int i 0) rfl ?_); show wpAny _ _ (seqItems? (.ref l) >>= _) _ _ s
  refine wpAny_bind (wpAny_seqItems hos hds ?_); simp only [Int.toNat_natCast, hx]
  refine wpAny_bind (wpAny_rule (wpAny_bind (wpAny_setField hoi hdi (by simp) ?_))); show wpAny _ _ (newExc (.type "StopIteration") [] >>= _) _ _ _
  refine wpAny_bind ?_; simp only [newExc, newTuple]
  refine wpAny_bind (wpAny_newObj_type ?_ (by size_fits))
  refine wpAny_bind (m := firstArgMember _ _) (wpAny_of_eq (a := Value.none) (by first | rfl | (simp only [firstArgMember]; rfl)) ?_)
  refine wpAny_newObj_type ?_ (by size_fits); simp only [raiseNew]
  refine wpAny_bind (wpAny_handled ?_); first | rw [show A.in1.handled = none from hh] | rw [hh]
  refine wpAny_bind (wpAny_pure (wpAny_throw ?_))
  exact hE _ _ (((Heap.SameBut.update ..).extBut.push _).push _) ⟨_, Heap.get?_push_size _ rfl, rfl⟩

/-- a zip's own five objects stand apart -/
structure ZApart (z TI TO i1 i2 : Addr) : Prop where
  TIz : TI ≠ z
  TOz : TO ≠ z
  i1z : i1 ≠ z
  i2z : i2 ≠ z
  TITO : TI ≠ TO
  TIi1 : TI ≠ i1
  TIi2 : TI ≠ i2
  TOi1 : TO ≠ i1
  TOi2 : TO ≠ i2
  i12 : i1 ≠ i2
/-- at turn i -/
structure ZAt (h : Heap) (z TI TO i1 i2 l1 l2 : Addr) (f0 : Value) (i : Nat) : Prop where
  hz : IsZip h z TI TO f0
  hTI : IsPair h TI (.ref i1) (.ref i2)
  hTO : ∃ a b, IsPair h TO a b
  h1 : h.IsTupleIter i1 l1 i
  h2 : h.IsTupleIter i2 l2 i

theorem zip_item {z TI TO i1 i2 l1 l2 : Addr} {k : Nat} {xs ys : Array Value} {x y : Value} {Q : Option Value → Shared → Prop} (D : ZApart z TI TO i1 i2) (L : ∀ l, l = l1 ∨ l = l2 → l ≠ z ∧ l ≠ TO ∧ l ≠ i1 ∧ l ≠ i2) (Z : ZAt s.heap z TI TO i1 i2 l1 l2 .none k)
    (hl1 : s.heap.IsTuple l1 xs) (hl2 : s.heap.IsTuple l2 ys) (hx : xs[k]? = some x) (hy : ys[k]? = some y)
    (hQ : ∀ h', ZAt h' z TI TO i1 i2 l1 l2 (rawInt s.heap.objs.size) (k + 1) → IsPair h' s.heap.objs.size x y →
      (∀ c o, c ≠ z → c ≠ TO → c ≠ i1 → c ≠ i2 → s.heap.get? c = some o → h'.get? c = some o) → Q (some (.ref s.heap.objs.size)) { s with heap := h' }) :
    wpAny (model prog w) A (pyNext (.ref z)) Q E s := by
  obtain ⟨hz, hTI, ⟨a, b, hTO⟩, h1, h2⟩ := Z
  obtain ⟨l1z, l1TO, l1i1, l1i2⟩ := L l1 (.inl rfl)
  obtain ⟨l2z, l2TO, l2i1, l2i2⟩ := L l2 (.inr rfl)
  have hT : s.TypeIs (.ref z) "zip" := ⟨_, hz, rfl⟩
  unfold pyNext
  refine wpAny_bind (wpAny_attempt (wpAny_callSpecial?_slot (name := Str.ofString "__next__") hT F.slot_zip_next (wpAny_call_entry F.slot_zip_next hT F.entry_zip_next ?_ (F.args_zip_next_1 _))))
  show wpAny _ _ (field (.ref z) 2 >>= _) _ _ _
  refine wpAny_bind (wpAny_field hz rfl (x := .bool false) rfl ?_); show wpAny _ _ (field (.ref z) 3 >>= _) _ _ _
  refine wpAny_bind (wpAny_field hz rfl (x := .ref TI) rfl ?_)
  refine wpAny_bind (wpAny_seqItems hTI rfl ?_); show wpAny _ _ (Builtin.SmallTypes.ownedTupleIsFree (.ref z) >>= _) _ _ _
  refine wpAny_bind ?_; unfold Builtin.SmallTypes.ownedTupleIsFree
  refine wpAny_bind (wpAny_field hz rfl (x := .none) rfl (wpAny_pure ?_)); simp only [if_true]
  refine wpAny_bind (wpAny_rule (wpAny_bind (wpAny_field hz rfl (x := .ref TO) rfl ?_)))
  refine wpAny_bind (wpAny_setField_rec hz (by simp) fun g1 z1 e1 => ?_)
  replace z1 : IsZip g1 z TI TO .ellipsis := z1
  refine wpAny_bind ?_; simp only [List.zipIdx_cons, List.zipIdx_nil, List.forIn_cons, List.forIn_nil]
  refine wpAny_bind (wpAny_bind (wpAny_onRaise ?_)); show wpAny _ _ (Builtin.SmallTypes.nextOf (.ref i1) >>= _) _ _ _
  refine wpAny_bind (nextOf_tup (h1.extBut e1.extBut D.i1z) (hl1.extBut e1.extBut l1z) hx fun g2 j1 e2 => wpAny_pure ?_)
  have t2 : IsPair g2 TO a b := e2.extBut _ _ D.TOi1 (e1.extBut _ _ D.TOz hTO)
  refine wpAny_bind (wpAny_seqItems t2 rfl (wpAny_bind (wpAny_updateSeq_pair t2 fun g3 t3 e3 => ?_)))
  replace t3 : IsPair g3 TO x b := t3
  refine wpAny_bind (wpAny_letGo (wpAny_pure ?_))
  refine wpAny_bind (wpAny_bind (wpAny_onRaise ?_)); show wpAny _ _ (Builtin.SmallTypes.nextOf (.ref i2) >>= _) _ _ _
  refine wpAny_bind (nextOf_tup (((h2.extBut e1.extBut D.i2z).extBut e2.extBut D.i12.symm).extBut e3.extBut D.TOi2.symm) (((hl2.extBut e1.extBut l2z).extBut e2.extBut l2i1).extBut e3.extBut l2TO) hy fun g4 j2 e4 => wpAny_pure ?_)
  have t4 : IsPair g4 TO x b := e4.extBut _ _ D.TOi2 t3
  refine wpAny_bind (wpAny_seqItems t4 rfl (wpAny_bind (wpAny_updateSeq_pair t4 fun g5 t5 e5 => ?_)))
  replace t5 : IsPair g5 TO x y := t5
  refine wpAny_bind (wpAny_letGo (wpAny_pure (wpAny_pure ?_)))
  refine wpAny_bind (wpAny_seqItems t5 rfl (wpAny_bind (wpAny_newTuple ?_)))
  have sz : g5.objs.size = s.heap.objs.size := by rw [e5.1, e4.1, e3.1, e2.1, e1.1]
  have z5 : IsZip g5 z TI TO .ellipsis := e5.extBut _ _ D.TOz.symm (e4.extBut _ _ D.i2z.symm (e3.extBut _ _ D.TOz.symm (e2.extBut _ _ D.i1z.symm z1)))
  have k5 : ∀ c o, c ≠ z → c ≠ TO → c ≠ i1 → c ≠ i2 → s.heap.get? c = some o → g5.get? c = some o := fun c o c1 c2 c3 c4 e => e5.extBut _ _ c2 (e4.extBut _ _ c4 (e3.extBut _ _ c2 (e2.extBut _ _ c3 (e1.extBut _ _ c1 e))))
  have m1 : g5.IsTupleIter i1 l1 (k + 1) := ((j1.extBut e3.extBut D.TOi1.symm).extBut e4.extBut D.i12).extBut e5.extBut D.TOi1.symm
  have m2 : g5.IsTupleIter i2 l2 (k + 1) := j2.extBut e5.extBut D.TOi2.symm
  have zl : z < g5.objs.size := Heap.lt_size z5
  show wpAny _ _ (Builtin.SmallTypes.ownedTupleHandOut (.ref z) (.ref g5.objs.size) >>= _) _ _ _
  refine wpAny_bind ?_; unfold Builtin.SmallTypes.ownedTupleHandOut
  have z6 : IsZip (g5.push { cls := .type "tuple", data := .seq #[x, y] }) z TI TO .ellipsis := Heap.get?_push_of_some _ z5
  refine wpAny_bind (wpAny_setField_rec z6 (by simp) fun g7 z7 e7 => ?_)
  replace z7 : IsZip g7 z TI TO (rawInt g5.objs.size) := z7
  refine wpAny_setField_rec z7 (by simp) fun g8 z8 e8 => ?_
  replace z8 : IsZip g8 z TI TO (rawInt g5.objs.size) := z8
  have up : ∀ c o, c ≠ z → g5.get? c = some o → g8.get? c = some o := fun c o c1 e => e8.extBut _ _ c1 (e7.extBut _ _ c1 (Heap.get?_push_of_some _ e))
  have t8 : IsPair g8 g5.objs.size x y := e8.extBut _ _ (Nat.ne_of_gt zl) (e7.extBut _ _ (Nat.ne_of_gt zl) (Heap.get?_push_size _ rfl))
  rw [sz] at z8 t8
  refine wpAny_pure ⟨_, rfl, wpAny_pure ?_⟩
  show Q (some (.ref g5.objs.size)) _
  rw [sz]
  have at1 : ∀ {it l : Addr} {i : Nat}, g5.IsTupleIter it l i → it ≠ z → g8.IsTupleIter it l i := fun q ne => let ⟨o, ho, r⟩ := q; ⟨o, up _ o ne ho, r⟩
  exact hQ g8 ⟨z8, up _ _ D.TIz (k5 _ _ D.TIz D.TITO D.TIi1 D.TIi2 hTI), ⟨x, y, up _ _ D.TOz t5⟩, at1 m1 D.i1z, at1 m2 D.i2z⟩ t8 fun c o c1 c2 c3 c4 e => up c o c1 (k5 c o c1 c2 c3 c4 e)

/-- the first of the two is at its end (then so is the zip) -/
theorem zip_end {z TI TO i1 i2 l1 l2 : Addr} {k : Nat} {xs : Array Value} {Q : Option Value → Shared → Prop} (hh : A.handled = none) (D : ZApart z TI TO i1 i2) (L : l1 ≠ z) (Z : ZAt s.heap z TI TO i1 i2 l1 l2 .none k)
    (hl1 : s.heap.IsTuple l1 xs) (hx : xs[k]? = none)
    (hQ : ∀ h', (∀ c o, c ≠ z → c ≠ TO → c ≠ i1 → c ≠ i2 → s.heap.get? c = some o → h'.get? c = some o) → Q none { s with heap := h' }) : wpAny (model prog w) A (pyNext (.ref z)) Q E s := by
  obtain ⟨hz, hTI, ⟨a, b, hTO⟩, h1, h2⟩ := Z
  have hT : s.TypeIs (.ref z) "zip" := ⟨_, hz, rfl⟩
  unfold pyNext
  refine wpAny_bind (wpAny_attempt (wpAny_callSpecial?_slot (name := Str.ofString "__next__") hT F.slot_zip_next (wpAny_call_entry F.slot_zip_next hT F.entry_zip_next ?_ (F.args_zip_next_1 _))))
  show wpAny _ _ (field (.ref z) 2 >>= _) _ _ _
  refine wpAny_bind (wpAny_field hz rfl (x := .bool false) rfl ?_); show wpAny _ _ (field (.ref z) 3 >>= _) _ _ _
  refine wpAny_bind (wpAny_field hz rfl (x := .ref TI) rfl ?_)
  refine wpAny_bind (wpAny_seqItems hTI rfl ?_); show wpAny _ _ (Builtin.SmallTypes.ownedTupleIsFree (.ref z) >>= _) _ _ _
  refine wpAny_bind ?_; unfold Builtin.SmallTypes.ownedTupleIsFree
  refine wpAny_bind (wpAny_field hz rfl (x := .none) rfl (wpAny_pure ?_)); simp only [if_true]
  refine wpAny_bind (wpAny_rule (wpAny_bind (wpAny_field hz rfl (x := .ref TO) rfl ?_)))
  refine wpAny_bind (wpAny_setField_rec hz (by simp) fun g1 z1 e1 => ?_)
  replace z1 : IsZip g1 z TI TO .ellipsis := z1
  refine wpAny_bind ?_; simp only [List.zipIdx_cons, List.zipIdx_nil, List.forIn_cons, List.forIn_nil]
  refine wpAny_bind (wpAny_bind (wpAny_onRaise ?_)); show wpAny _ _ (Builtin.SmallTypes.nextOf (.ref i1) >>= _) _ _ _
  refine wpAny_bind (nextOf_tup_end hh (h1.extBut e1.extBut D.i1z) (hl1.extBut e1.extBut L) hx fun g2 e e2 he => ?_)
  obtain ⟨oe, hoe, hce⟩ := he
  have z2 : IsZip g2 z TI TO .ellipsis := e2 _ _ D.i1z.symm z1
  have nez : e ≠ z := fun q => by subst q; rw [z2] at hoe; cases hoe; simp at hce
  refine wpAny_setField_rec z2 (by simp) fun g3 _ e3 => ?_
  refine wpAny_bind (wpAny_isInstance (T := "StopIteration") (b := true) ⟨oe, e3.extBut _ _ nez hoe, hce⟩ isSubtype_stop ?_)
  exact wpAny_pure (hQ _ fun c o c1 _ c3 _ q => e3.extBut _ _ c1 (e2 _ _ c3 (e1.extBut _ _ c1 q)))

abbrev zp1 (h : Heap) (l1 : Addr) : Heap := h.push { cls := .type "tuple_iterator", data := .fields #[.ref l1, .int 0 0] }
abbrev zp2 (h : Heap) (l1 l2 : Addr) : Heap := (zp1 h l1).push { cls := .type "tuple_iterator", data := .fields #[.ref l2, .int 0 0] }
abbrev zp3 (h : Heap) (l1 l2 : Addr) : Heap := (zp2 h l1 l2).push { cls := .type "tuple", data := .seq #[.ref h.objs.size, .ref (zp1 h l1).objs.size] }
abbrev zp4 (h : Heap) (l1 l2 : Addr) : Heap := (zp3 h l1 l2).push { cls := .type "tuple", data := .seq #[.none, .none] }
abbrev zp5 (h : Heap) (l1 l2 : Addr) : Heap := (zp4 h l1 l2).push { cls := .type "zip", data := .fields #[.none, .bool false, .bool false, .ref (zp2 h l1 l2).objs.size, .ref (zp3 h l1 l2).objs.size] }
theorem zip_made (l1 l2 : Addr) (xs ys : Array Value) :
    Meets (Builtin.«zip.__new__» ⟨[.type "zip", .ref l1, .ref l2], []⟩) (fun _ R s => s.heap.IsTuple l1 xs ∧ s.heap.IsTuple l2 ys ∧ R (.ok (.ret (.ref (zp4 s.heap l1 l2).objs.size))) { s with heap := zp5 s.heap l1 l2 }) :=
  .of_wp fun prog w A R s h => by
    obtain ⟨hp, g, d, tk, os⟩ := s
    obtain ⟨hl1, hl2, h⟩ := h
    have hsub := sub_zip
    have q1 : Heap.IsTuple (Shared.heap ⟨hp, g, d, tk, os⟩) l1 xs := hl1
    have q2 : Heap.IsTuple (Shared.heap ⟨hp.push { cls := .type "tuple_iterator", data := .fields #[.ref l1, .int 0 0] }, g, d, tk, os⟩) l2 ys := Heap.IsTuple.push hl2 _
    wp_walk using wpAny_pyIter_tuple q1, wpAny_pyIter_tuple q2
    exact ⟨_, rfl, h⟩
theorem zip_call {l1 l2 : Addr} {xs ys : Array Value} {Q : Value → Shared → Prop} (hl1 : s.heap.IsTuple l1 xs) (hl2 : s.heap.IsTuple l2 ys)
    (h : ∀ h', ZAt h' (s.heap.objs.size + 4) (s.heap.objs.size + 2) (s.heap.objs.size + 3) s.heap.objs.size (s.heap.objs.size + 1) l1 l2 .none 0 →
      (∀ c o, s.heap.get? c = some o → h'.get? c = some o) → Q (.ref (s.heap.objs.size + 4)) { s with heap := h' }) : wpAny (model prog w) A (call (.type "zip") [.ref l1, .ref l2]) Q E s := by
  refine callType_new F.called_zip (by decide) (F.typeCall_zip_2 _ _) (F.newCall_zip_2 _ _) (fun obj => F.args_object_init_3 obj _ _) F.entry_zip_new (zip_made l1 l2 xs ys) ⟨hl1, hl2, ?_⟩
  have n1 : (zp1 s.heap l1).objs.size = s.heap.objs.size + 1 := Heap.size_push ..
  have n2 : (zp2 s.heap l1 l2).objs.size = s.heap.objs.size + 2 := by rw [Heap.size_push, n1]
  have n3 : (zp3 s.heap l1 l2).objs.size = s.heap.objs.size + 3 := by rw [Heap.size_push, n2]
  have n4 : (zp4 s.heap l1 l2).objs.size = s.heap.objs.size + 4 := by rw [Heap.size_push, n3]
  have p5 : (zp5 s.heap l1 l2).get? (zp4 s.heap l1 l2).objs.size = some _ := Heap.get?_push_size _ rfl
  have p4 : (zp5 s.heap l1 l2).get? (zp3 s.heap l1 l2).objs.size = some _ := Heap.get?_push_of_some _ (Heap.get?_push_size _ rfl)
  have p3 : (zp5 s.heap l1 l2).get? (zp2 s.heap l1 l2).objs.size = some _ := Heap.get?_push_of_some _ (Heap.get?_push_of_some _ (Heap.get?_push_size _ rfl))
  have p2 : (zp5 s.heap l1 l2).get? (zp1 s.heap l1).objs.size = some _ := Heap.get?_push_of_some _ (Heap.get?_push_of_some _ (Heap.get?_push_of_some _ (Heap.get?_push_size _ rfl)))
  have p1 : (zp5 s.heap l1 l2).get? s.heap.objs.size = some _ := Heap.get?_push_of_some _ (Heap.get?_push_of_some _ (Heap.get?_push_of_some _ (Heap.get?_push_of_some _ (Heap.get?_push_size _ rfl))))
  show _ ∧ _
  rw [n2, n3, n4] at p5
  rw [n1, n2] at p3
  rw [n3] at p4
  rw [n1] at p2
  rw [n4]
  refine ⟨⟨_, p5, rfl⟩, h _ ⟨p5, p3, ⟨_, _, p4⟩, ⟨_, p1, rfl, rfl⟩, ⟨_, p2, rfl, rfl⟩⟩ fun c o x => ?_⟩
  exact Heap.get?_push_of_some _ (Heap.get?_push_of_some _ (Heap.get?_push_of_some _ (Heap.get?_push_of_some _ (Heap.get?_push_of_some _ x))))
end

/-! ### a zip walked -/
/-- pairs of the tuples at l1, l2, each a new tuple -/
def Itz (l1 l2 : Addr) : It :=
  ⟨fun i H => ∃ xs ys x y, H l1 = some (.tup xs) ∧ H l2 = some (.tup ys) ∧ xs[i]? = some x ∧ ys[i]? = some y,
   fun i H v H' => ∃ p xs ys x y, H p = none ∧ v = .ref p ∧ H l1 = some (.tup xs) ∧ H l2 = some (.tup ys) ∧ xs[i]? = some x ∧ ys[i]? = some y ∧ H' = upd H p (.tup [x, y]),
   fun i H => ∃ xs ys, H l1 = some (.tup xs) ∧ H l2 = some (.tup ys) ∧ xs.length ≤ i⟩
theorem turn_zip {P : Program} {w : World} {K : PySem.W.Frag} {es : List Expr} {k0 : Nat} {tp : Pos} {l1 l2 z TI TO i1 i2 : Addr} (D : ZApart z TI TO i1 i2) :
    Turn P w K (.Tuple es k0 tp) (Itz l1 l2) [z, TI, TO, i1, i2] z (fun i h => ZAt h z TI TO i1 i2 l1 l2 .none i) where
  mem := by simp
  obj := fun i h Z b hb => by
    obtain ⟨hz, hTI, ⟨a, c, hTO⟩, ⟨o1, e1, c1, d1⟩, ⟨o2, e2, c2, d2⟩⟩ := Z
    simp only [List.mem_cons, List.not_mem_nil, or_false] at hb
    rcases hb with rfl | rfl | rfl | rfl | rfl
    · exact ⟨_, hz, fun v q => by cases (show Data.fields _ = Data.cell v from q)⟩
    · exact ⟨_, hTI, fun v q => by cases (show Data.seq _ _ = Data.cell v from q)⟩
    · exact ⟨_, hTO, fun v q => by cases (show Data.seq _ _ = Data.cell v from q)⟩
    · exact ⟨o1, e1, fun v q => by rw [d1] at q; cases q⟩
    · exact ⟨o2, e2, fun v q => by rw [d2] at q; cases q⟩
  keep := fun i h h' Z k => by
    obtain ⟨hz, hTI, ⟨a, c, hTO⟩, ⟨o1, e1, r1⟩, ⟨o2, e2, r2⟩⟩ := Z
    exact ⟨k z (by simp) _ hz, k TI (by simp) _ hTI, ⟨a, c, k TO (by simp) _ hTO⟩, ⟨o1, k i1 (by simp) _ e1, r1⟩, ⟨o2, k i2 (by simp) _ e2, r2⟩⟩
  item := by
    intro X hP hw hK hc i pins s σ H E I hf Z hg
    subst hP hw hK
    obtain ⟨xs, ys, x, y, hx, hy, ex, ey⟩ := hg
    obtain ⟨_, vx, rx, tx⟩ := I.hok l1 _ hx
    obtain ⟨_, vy, ry, ty⟩ := I.hok l2 _ hy
    obtain ⟨u, hu, ru⟩ := rx.get ex
    obtain ⟨v, hv, rv⟩ := ry.get ey
    have hfree : ∀ b ∈ [z, TI, TO, i1, i2], H b = none := fun b hb => (hf b hb).1
    have L : ∀ l, l = l1 ∨ l = l2 → l ≠ z ∧ l ≠ TO ∧ l ≠ i1 ∧ l ≠ i2 := fun l hl => by
      have hs : ∃ o, H l = some o := by
        rcases hl with e | e
        · exact ⟨_, by rw [e]; exact hx⟩
        · exact ⟨_, by rw [e]; exact hy⟩
      obtain ⟨o, ho⟩ := hs
      exact ⟨ne_of_none ho (hfree z (by simp)), ne_of_none ho (hfree TO (by simp)), ne_of_none ho (hfree i1 (by simp)), ne_of_none ho (hfree i2 (by simp))⟩
    refine zip_item D L Z (show s.heap.IsTuple l1 vx.toArray from tx.isTup) (show s.heap.IsTuple l2 vy.toArray from ty.isTup) (x := u) (y := v) (by simpa using hu) (by simpa using hv) fun h' Z' hp kk => ?_
    refine ⟨_, rfl, wpAny_letOwnedTupleGo_zip Z'.hz fun h2 hz2 sb => ?_⟩
    have kk2 : ∀ c o, c ∉ [z, TO, i1, i2] → s.heap.get? c = some o → h2.get? c = some o := fun c o hc e => sb.extBut _ _ (fun q => hc (by simp [q])) (kk c o (fun q => hc (by simp [q])) (fun q => hc (by simp [q])) (fun q => hc (by simp [q])) (fun q => hc (by simp [q])) e)
    have nb : ∀ c o, H c = some o → c ∉ [z, TO, i1, i2] := fun c o e hm => by
      have : H c = none := hfree c (by simp only [List.mem_cons, List.not_mem_nil, or_false] at hm ⊢; rcases hm with q | q | q | q <;> simp [q])
      rw [this] at e; cases e
    have zlt : z < s.heap.objs.size := Heap.lt_size Z.hz
    have hp2 : IsPair h2 s.heap.objs.size u v := sb.extBut _ _ (Nat.ne_of_gt zlt) hp
    have fr : H s.heap.objs.size = none := I.fresh
    have I2 : Inv X pins σ (upd H s.heap.objs.size (.tup [x, y])) { s with heap := h2 } := by
      refine I.step (g' := s.gens) (d' := s.drawn) (t' := s.toks) (ch := [z, TO, i1, i2]) (fun b hb => ?_) (fun b o _ _ hc e _ => kk2 b o hc e) (fun b o _ _ hc e _ => ⟨o.slots, kk2 b o hc e⟩)
        (fun b o _ e n => by rw [upd_ne (Nat.ne_of_lt (Heap.lt_size e))]; exact n)
        (fun b o hc e => ⟨o, kk2 b o hc e⟩) (fun b zs e => by rw [upd_ne (ne_of_none e fr)]; exact e) (fun b o zs e => by rw [upd_ne (ne_of_none e fr)]; exact e) (fun b ps e => ⟨#[], by rw [upd_ne (ne_of_none e fr), e]; simp⟩) (fun m hm => ?_) (fun b o e => ?_) I.bare
      · obtain ⟨f0, f1, f2, f3, f4, f5⟩ := hf b (by simp only [List.mem_cons, List.not_mem_nil, or_false] at hb ⊢; rcases hb with q | q | q | q <;> simp [q])
        exact ⟨f3, f1, f4, f5⟩
      · obtain ⟨o, es', ep, ho, r⟩ := hm
        refine ⟨o, es', ep, kk2 _ o (fun hm => ?_) ho, r⟩
        exact (hf X.env.locals (by simp only [List.mem_cons, List.not_mem_nil, or_false] at hm ⊢; rcases hm with q | q | q | q <;> simp [q])).2.1 rfl
      · by_cases hb : b = s.heap.objs.size
        · subst hb
          rw [upd_same] at e
          cases e
          exact ⟨(by show 2 ≤ sizeLine; decide), [u, v], .cons ru (.cons rv .nil), ⟨_, hp2, rfl, rfl, _, rfl⟩⟩
        · rw [upd_ne hb] at e
          refine (I.hok b o e).stay (fun c v hc q => kk2 c v ?_ q) (fun c q => by rw [upd_ne (ne_of_none q fr)]; exact q) fun c zs q => by rw [upd_ne (ne_of_none q fr)]; exact q
          rcases hc with rfl | hc
          · exact nb _ _ e
          · exact nb _ _ hc
    exact ⟨.ref s.heap.objs.size, _, I2, rfl, ⟨_, xs, ys, x, y, fr, rfl, hx, hy, ex, ey, rfl⟩, ⟨hz2, sb.extBut _ _ D.TIz Z'.hTI, (let ⟨a, c, q⟩ := Z'.hTO; ⟨a, c, sb.extBut _ _ D.TOz q⟩), Z'.h1.extBut sb.extBut D.i1z, Z'.h2.extBut sb.extBut D.i2z⟩, fun b hb => by
      rw [upd_ne]
      · exact hfree b hb
      · obtain ⟨o, e, _⟩ : ∃ o, s.heap.get? b = some o ∧ True := by
          simp only [List.mem_cons, List.not_mem_nil, or_false] at hb
          obtain ⟨hz, hTI, ⟨a, c, hTO⟩, ⟨o1, e1, _⟩, ⟨o2, e2, _⟩⟩ := Z
          rcases hb with rfl | rfl | rfl | rfl | rfl
          · exact ⟨_, hz, trivial⟩
          · exact ⟨_, hTI, trivial⟩
          · exact ⟨_, hTO, trivial⟩
          · exact ⟨_, e1, trivial⟩
          · exact ⟨_, e2, trivial⟩
        exact Nat.ne_of_lt (Heap.lt_size e)⟩
  done := by
    intro X hP hw hK hc i pins s σ H E I hf Z hg
    subst hP hw hK
    obtain ⟨xs, ys, hx, hy, hle⟩ := hg
    obtain ⟨_, vx, rx, tx⟩ := I.hok l1 _ hx
    have hln := rx.length
    have hfree : ∀ b ∈ [z, TI, TO, i1, i2], H b = none := fun b hb => (hf b hb).1
    refine zip_end (I.ok.hd hc) D (ne_of_none hx (hfree z (by simp))) Z (show s.heap.IsTuple l1 vx.toArray from tx.isTup) (by simp; omega) fun h' kk => ⟨rfl, ?_⟩
    have kk2 : ∀ c o, c ∉ [z, TO, i1, i2] → s.heap.get? c = some o → h'.get? c = some o := fun c o hc e => kk c o (fun q => hc (by simp [q])) (fun q => hc (by simp [q])) (fun q => hc (by simp [q])) (fun q => hc (by simp [q])) e
    have nb : ∀ c o, H c = some o → c ∉ [z, TO, i1, i2] := fun c o e hm => by
      have : H c = none := hfree c (by simp only [List.mem_cons, List.not_mem_nil, or_false] at hm ⊢; rcases hm with q | q | q | q <;> simp [q])
      rw [this] at e; cases e
    refine I.step (g' := s.gens) (d' := s.drawn) (t' := s.toks) (ch := [z, TO, i1, i2]) (fun b hb => ?_) (fun b o _ _ hc e _ => kk2 b o hc e) (fun b o _ _ hc e _ => ⟨o.slots, kk2 b o hc e⟩) (fun _ _ _ _ n => n)
      (fun b o hc e => ⟨o, kk2 b o hc e⟩) (fun _ _ e => e) (fun _ _ _ e => e) (fun b ps e => ⟨#[], by rw [e]; simp⟩) (fun m hm => ?_) (fun b o e => ?_) I.bare
    · obtain ⟨f0, f1, f2, f3, f4, f5⟩ := hf b (by simp only [List.mem_cons, List.not_mem_nil, or_false] at hb ⊢; rcases hb with q | q | q | q <;> simp [q])
      exact ⟨f3, f1, f4, f5⟩
    · obtain ⟨o, es', ep, ho, r⟩ := hm
      refine ⟨o, es', ep, kk2 _ o (fun hm => ?_) ho, r⟩
      exact (hf X.env.locals (by simp only [List.mem_cons, List.not_mem_nil, or_false] at hm ⊢; rcases hm with q | q | q | q <;> simp [q])).2.1 rfl
    · refine (I.hok b o e).stay (fun c v hc q => kk2 c v ?_ q) (fun _ q => q) fun _ _ q => q
      rcases hc with rfl | hc
      · exact nb _ _ e
      · exact nb _ _ hc
  self := fun _ _ _ _ _ Z h => wpAny_pyIter_zip Z.hz h

section
variable {X : Cx} {es : List Expr} {k0 : Nat} {tp : Pos}
def iZip (ta : TA) : TI := fun σ H R => ta σ H fun vs H1 => ∃ l1 l2 xs ys, vs = [.ref l1, .ref l2] ∧ H1 l1 = some (.tup xs) ∧ H1 l2 = some (.tup ys) ∧ R (Itz l1 l2) H1
theorem pi_zip {a b : Expr} {ta : TA} {p pos : Pos} (hg : Gl X "zip") (hm : X.mg "zip" = none) (ha : PA X [a, b] ta) (hs : starEach [a, b] X.env = [(false, eval a X.env), (false, eval b X.env)] := by rfl) (hs2 : starEach [b] X.env = [(false, eval b X.env)] := by rfl) :
    PI X (.Tuple es k0 tp) (.Call (.Name "zip" p) [a, b] [] pos) (iZip ta) := by
  intro pins s σ H R I h
  refine Call_ (ld_blt I hg hm boot_zip (PyProof.Rows.callWith_type1 (thn (ha pos pins s σ H _ I h) fun us s1 ⟨vs, H1, I1, r1, q1⟩ => ?_) (by rw [hs, hs2]) (by rw [hs2]; rfl)))
  obtain ⟨l1, l2, xs, ys, e, hx, hy, q⟩ := q1
  subst e
  obtain ⟨u1, u2, rfl, r1', r2'⟩ := vals2 r1
  cases r1'
  cases r2'
  obtain ⟨_, vx, rx, tx⟩ := I1.hok l1 _ hx
  obtain ⟨_, vy, ry, ty⟩ := I1.hok l2 _ hy
  refine zip_call (show s1.heap.IsTuple l1 vx.toArray from tx.isTup) (show s1.heap.IsTuple l2 vy.toArray from ty.isTup) fun h' Z kk => ?_
  refine wpAny_pyIter_zip Z.hz ?_
  have I2 : Inv X pins σ H1 { s1 with heap := h' } := I1.kept (t' := s1.toks) kk
  have ne : ∀ i j : Nat, i ≠ j → s1.heap.objs.size + i ≠ s1.heap.objs.size + j := fun i j hij => by omega
  refine ⟨_, _, _, _, H1, rfl, I2, turn_zip (es := es) (k0 := k0) (tp := tp) (TI := s1.heap.objs.size + 2) (TO := s1.heap.objs.size + 3) (i1 := s1.heap.objs.size) (i2 := s1.heap.objs.size + 1) ⟨ne 2 4 (by decide), ne 3 4 (by decide), ne 0 4 (by decide), ne 1 4 (by decide), ne 2 3 (by decide), ne 2 0 (by decide), ne 2 1 (by decide), ne 3 0 (by decide), ne 3 1 (by decide), ne 0 1 (by decide)⟩, Z, fun b hb => ?_, q⟩
  have hge : s1.heap.objs.size ≤ b := by
    simp only [List.mem_cons, List.not_mem_nil, or_false] at hb
    rcases hb with rfl | rfl | rfl | rfl | rfl <;> first | exact Nat.le_add_right _ _ | exact Nat.le_refl _
  exact I1.fpOk hge (I1.hok.fresh hge)

/-! ### sum -/
theorem call_sum (hc : X.calm = true) : CallR X (.builtin "sum") (fun xs H Q => ∃ l ns, xs = [.ref l] ∧ SqL X.K H l (ns.map V.int) ∧ PySem.SumFits ns ∧ Q (.int ns.sum) H) := by
  intro pins s σ H xs us Q I r h
  obtain ⟨l, ns, rfl, hS, hfit, q⟩ := h
  obtain ⟨u, rfl, ru⟩ := vals1 r
  cases ru
  obtain ⟨its, rv, p, hz⟩ := I.list hS
  obtain ⟨ps, e1, e2⟩ := pairs_of_ints (intsAre_of rv)
  have ei : its.toArray = intItems ps.toArray := by
    unfold intItems
    rw [e1]
    simp
  have hl := p.isList
  rw [ei] at hl
  have num : ∀ j, numAt ps.toArray j = ns.getD j 0 := fun j => by
    unfold numAt
    rw [← e2]
    simp [List.getD_eq_getElem?_getD, List.getElem?_map]
  have pre : ∀ j, j ≤ ns.length → preSum (numAt ps.toArray) j = (ns.take j).sum := by
    intro j
    induction j with
    | zero => intro _; rfl
    | succ j ih =>
      intro hj
      show preSum (numAt ps.toArray) j + numAt ps.toArray j = _
      rw [ih (by omega), num, List.take_succ, List.sum_append]
      have : ns[j]? = some (ns[j]'(by omega)) := by simp
      rw [List.getD_eq_getElem?_getD, this]
      simp
  have hlen : ps.toArray.size = ns.length := by rw [← e2]; simp
  refine sum_intList (I.ok.hd hc) hl (fun j hj => ?_) fun h' tk t' kk => ?_
  · have hj' : j < ns.length := by omega
    obtain ⟨f1, f2⟩ := hfit j hj'
    rw [num, pre (j + 1) (by omega)]
    exact ⟨f1, f2⟩
  · rw [hlen, pre ns.length (Nat.le_refl _), List.take_length]
    exact ⟨.int ns.sum, H, I.kept kk, ⟨_, rfl⟩, q⟩
theorem pg_tupK {es : List Expr} {k : Nat} {t : TGs} {n : Nat} {pos : Pos} (K : PySem.W.Frag) (hK : X.K = K) (hc : X.calm = true) (h : PGs X es t)
    (hn : (assignEach es X.env).length = n := by rfl) (hst : (assignEach es X.env).findIdx? (·.1) = none := by rfl) : PG X (.Tuple es k pos) (gTup K n t) := hK ▸ pg_tup hc h hn hst
end

/-- [f x y for x, y in zip(xs, ys)], the block's own names first -/
theorem comp_zip {K : PySem.W.Frag} {H1 : Hp} {l1 l2 D : Addr} {xs ys : List V} {f : V → V → V} {rest : St} {telt : TE} {Q : Hp → Prop} (hx : H1 l1 = some (.tup xs)) (hy : H1 l2 = some (.tup ys)) (hl : xs.length = ys.length) (hD : H1 D = none) (hn : xs.length ≤ sizeLine)
    (el : ∀ (i : Nat) x y H' R, xs[i]? = some x → ys[i]? = some y → Same H1 H' → R (f x y) H' → telt (some x :: some y :: rest) H' R) (q : ∀ H', Same H1 H' → H' D = some (.lst (List.zipWith f xs ys)) → Q H') :
    ∃ W : Nat → Nat → St → Hp → Prop, (∃ m, W 0 m (none :: none :: rest) (upd H1 D (.lst []))) ∧
      ∀ i m σ' H', W i m σ' H' → ((Itz l1 l2).stop i H' ∧ Q H') ∨ ((Itz l1 l2).go i H' ∧ ∃ N : St → Hp → Prop, (∀ σ2 H2, N σ2 H2 → ∃ m', m' < m ∧ W (i + 1) m' σ2 H2) ∧
        ∀ v H2, (Itz l1 l2).yld i H' v H2 → gTup K 2 (gCons (gName 0) (gCons (gName 1) gNil)) v σ' H2 fun σ3 H3 => tTrue σ3 H3 fun b H4 => if b = true then tEmit D telt N σ3 H4 else N σ3 H4) := by
  have hz : (List.zipWith f xs ys).length = xs.length := by rw [List.length_zipWith, hl, Nat.min_self]
  refine ⟨fun i m σ' H' => m = xs.length - i ∧ i ≤ xs.length ∧ (∃ a b, σ' = a :: b :: rest) ∧ Same H1 H' ∧ H' D = some (.lst ((List.zipWith f xs ys).take i)), ⟨xs.length, by simp, Nat.zero_le _, ⟨_, _, rfl⟩, Same.upd hD, by rw [upd_same]; rfl⟩, ?_⟩
  rintro i m σ' H' ⟨rfl, hi, ⟨a, b, rfl⟩, s, hd⟩
  by_cases hlt : i < xs.length
  · have ex : xs[i]? = some xs[i] := by simp [hlt]
    have ey : ys[i]? = some (ys[i]'(by omega)) := by simp
    refine .inr ⟨⟨xs, ys, _, _, s _ _ hx, s _ _ hy, ex, ey⟩, fun σ2 H2 => (∃ a b, σ2 = a :: b :: rest) ∧ Same H1 H2 ∧ H2 D = some (.lst ((List.zipWith f xs ys).take (i + 1))), fun σ2 H2 h => ⟨xs.length - (i + 1), by omega, rfl, hlt, h.1, h.2.1, h.2.2⟩, ?_⟩
    rintro v H2 ⟨p, xs', ys', x', y', fp, rfl, hx', hy', ex', ey', rfl⟩
    have e1 : xs' = xs := by have := (s _ _ hx).symm.trans hx'; cases this; rfl
    have e2 : ys' = ys := by have := (s _ _ hy).symm.trans hy'; cases this; rfl
    subst e1 e2
    have nDp : D ≠ p := fun z => by rw [z, fp] at hd; cases hd
    refine ⟨p, _, rfl, SqT.of upd_same, rfl, _, _, rfl, _, _, rfl, rfl, ?_⟩
    dsimp only [tTrue]
    refine iteT ?_
    show tEmit D telt _ (some x' :: some y' :: rest) _
    refine el i x' y' _ _ ex' ey' (s.updT fp) ⟨_, by rw [upd_ne nDp]; exact hd, ?_, ⟨_, _, rfl⟩, (s.updT fp).put hD, ?_⟩
    · rw [List.length_take]; omega
    · rw [upd_same, List.take_succ, List.getElem?_zipWith, ex', ey']
      rfl
  · have e : i = xs.length := by omega
    subst e
    refine .inl ⟨⟨xs, ys, s _ _ hx, s _ _ hy, Nat.le_refl _⟩, q H' s ?_⟩
    rw [hd, ← hz, List.take_length]
end L2

/-! EXCEPTIONS, 1: an own exception class (under ValueError, or under an own class under it) is called; its __init__ stores attributes -/
namespace L2
open PySem PySem.Spec PyProof.Rows

abbrev bmV : List Value := [.type "ValueError", .type "Exception", .type "BaseException", .type "object"]
/-- the mro behind the class itself -/
def MroV (bm : List Value) : Prop := bm = bmV ∨ ∃ D : Addr, bm = .ref D :: bmV
theorem MroV.has {bm : List Value} (m : MroV bm) {T : String} {b : Bool} (h : bmV.contains (.type T) = b) : bm.contains (.type T) = b := by
  rcases m with rfl | ⟨D, rfl⟩
  · exact h
  · rw [List.contains_cons, h]; rfl
theorem MroV.self {bm : List Value} (m : MroV bm) (C : Addr) {T : String} {b : Bool} (h : bmV.contains (.type T) = b) : (Value.ref C :: bm).contains (.type T) = b := by
  rw [List.contains_cons, m.has h]; rfl
theorem MroV.passes {bm : List Value} (m : MroV bm) (v : Value) : refuseLoop v "__setattr__" bm = pure () := by
  rcases m with rfl | ⟨D, rfl⟩
  · exact PySem.F.store_ValueError.passes v
  · rw [refuseLoop_ref]; exact PySem.F.store_ValueError.passes v
section
variable {prog : Program} {w : World} {A : Around} {E : Value → Shared → Prop} {R : Result → Shared → Prop} {h : Heap} {g : Array GenState} {d : Drawn} {t : Nat} {os : OsState}
variable {nm q : Str} {C N : Addr} {bs bm : List Value} {hdct : Bool} {sn : List Str} {sub : List Value} {ab : Bool} {col : Option Bool} {dd : Option Addr} {k0 k1 k2 k3 k5 : Option Value}

theorem xnew_check {M : Model} (m : MroV bm) {rest : List Value} {Q : Unit → Shared → Prop} (hC : h.get? C = some (excClassObj nm q C N bs bm hdct sn sub ab col dd k0 k1 k2 k3 k5 "ValueError.__new__"))
    (hq : Q () ⟨h, g, d, t, os⟩) : wpAny M A (checkBuiltinCall "ValueError.__new__" ⟨.ref C :: rest, []⟩) Q E ⟨h, g, d, t, os⟩ := by
  have hin := m.self C PySem.F.excBase_ValueError.hasB
  have hst := PySem.F.excBase_ValueError.noStar
  simp only [checkBuiltinCall, PySem.F.excBase_ValueError.newKind, PySem.F.excBase_ValueError.newSplit, PySem.F.excBase_ValueError.newRow]
  repeat (first | refine wpAny_loadPart_at hC ?_ | (refine wpAny_isSubtype_exc hC ?_; rw [hin]) | refine wpAny_staticBase_exc hC ?_ | refine wpAny_madeBy_exc hC ?_ | simp only [bne_self_eq_false, Bool.false_eq_true, if_false] | wp_step)
  exact hq
theorem xnew_code (m : MroV bm) {rest : List Value} (hC : h.get? C = some (excClassObj nm q C N bs bm hdct sn sub ab col dd k0 k1 k2 k3 k5 "ValueError.__new__"))
    (hq : R (.ok (.ret (.ref (h.objs.size + 1)))) ⟨(h.push { cls := .type "tuple", data := .seq rest.toArray }).push { cls := .ref C, data := .fields #[.ref h.objs.size, .none, .none, .none, .bool false, .none] }, g, d, t, os⟩)
    (hrest : rest.length ≤ sizeLine) : codeAny (model prog w) A (.builtin "ValueError.__new__" ⟨.ref C :: rest, []⟩) R ⟨h, g, d, t, os⟩ := by
  have hends := PySem.F.excBase_ValueError.ends
  have c1 := m.self C PySem.F.excBase_ValueError.hasB
  have c2 := m.self C PySem.F.excBase_ValueError.noAttr
  have c3 := m.self C PySem.F.excBase_ValueError.noName
  refine codeAny_builtinAt PySem.F.excBase_ValueError.entry ?_; unfold Builtin.«BaseException.__new__»
  refine PySem.wpAt_bind ?_; show PySem.wpAt _ _ _ (stack >>= _) _ _ _
  refine PySem.wpAt_bind (PySem.wpAt_stack fun p below => PySem.wpAt_of_wpAny ?_); wp_walk
  refine PySem.wpAt_of_wpAny ?_; rw [PySem.F.excBase_ValueError.owner]
  repeat (first | with_reducible refine wpAny_madeHere_exc PySem.F.excBase_ValueError.canon hC ?_ | with_reducible refine wpAny_loadPart_at hC ?_ | (with_reducible refine wpAny_isSubtype_exc hC ?_; first | rw [c1] | rw [c2] | rw [c3]) | wp_step)
  show R _ _; rw [Heap.size_push]; exact hq
/-- C(rest): the new exception at h.objs.size + 1, then __init__ -/
theorem xcall {K : PySem.W.Frag} (X : K.In h) (m : MroV bm) {rest : List Value} {fI : Addr} {Q : Value → Shared → Prop} (hC : h.get? C = some (excClassObj nm q C N bs bm hdct sn sub ab col dd k0 k1 k2 k3 k5 "ValueError.__new__"))
    (hi : PySem.W.findIn K (.ref C) "__init__" = some (some (.ref fI))) (hf : PySem.W.isFn K (.ref fI) = true) (hrest : rest.length ≤ sizeLine)
    (hq : wpAny (model prog w) (A.under (.builtin "type.__call__" ⟨.ref C :: rest, []⟩)) (call (.ref fI) (.ref (h.objs.size + 1) :: rest)) (fun r s' => r = .none ∧ Q (.ref (h.objs.size + 1)) s') E
      ⟨(h.push { cls := .type "tuple", data := .seq rest.toArray }).push { cls := .ref C, data := .fields #[.ref h.objs.size, .none, .none, .none, .bool false, .none] }, g, d, t, os⟩) :
    wpAny (model prog w) A (call (.ref C) rest) Q E ⟨h, g, d, t, os⟩ := by
  have f1 := tc_lookup
  have f2 := tc_bind (.ref C)
  have hT : (⟨h, g, d, t, os⟩ : Shared).TypeIs (.ref C) "type" := ⟨_, hC, rfl⟩
  refine wpAny_call (codeAny_of_tree ?_); show wpAny _ _ (callAny (.ref C) _) _ _ _
  repeat (any_goals (first | assumption | with_reducible refine wpAny_loadPart_at hC ?_ | wp_step))
  refine ⟨rfl, ?_⟩
  refine codeAny_call_builtin_at (Code.quiet_builtin _ (by decide +kernel)) entry_typeCall (wpAny_check_type_call_sub hC ?_)
  repeat (first | with_reducible refine wpAny_loadPart_at hC ?_ | with_reducible refine wpAny_madeBy_exc hC ?_ | wp_step)
  refine codeAny_call_builtin_code (Code.quiet_builtin _ PySem.F.excBase_ValueError.quiet) (xnew_check m hC (xnew_code m hC ?_ hrest))
  show wpAny _ _ _ _ _ _
  have kp : ∀ b o, h.get? b = some o → ((h.push { cls := .type "tuple", data := .seq rest.toArray }).push { cls := .ref C, data := .fields #[.ref h.objs.size, .none, .none, .none, .bool false, .none] }).get? b = some o := fun b o e => Heap.get?_push_of_some _ (Heap.get?_push_of_some _ e)
  have hC1 := kp _ _ hC
  have X1 : K.In ((h.push { cls := .type "tuple", data := .seq rest.toArray }).push { cls := .ref C, data := .fields #[.ref h.objs.size, .none, .none, .none, .bool false, .none] }) := X.keeps kp
  have hg : ((h.push { cls := .type "tuple", data := .seq rest.toArray }).push { cls := .ref C, data := .fields #[.ref h.objs.size, .none, .none, .none, .bool false, .none] }).get? (h.objs.size + 1) = some { cls := .ref C, data := .fields #[.ref h.objs.size, .none, .none, .none, .bool false, .none] } := by heap_get
  have hcc : (Value.ref C :: bm).contains (.ref C) = true := by simp
  unfold isInstance
  repeat (first | with_reducible refine wpAny_loadPart_at hg ?_ | wp_step)
  refine wpAny_isSubtype_exc hC1 ?_; rw [hcc]
  repeat (first | with_reducible refine wpAny_loadPart_at hg ?_ | wp_step)
  show wpAny _ _ (typeLookup (.ref C) _) _ _ _
  refine PySem.W.looks_findIn X1 hi _ _ _ _ (fun _ _ e => e) ?_
  refine wpAny_holding (wpAny_bind ?_); unfold bindSpecial
  refine wpAny_bind (PySem.W.looks_typeIn X1 (beq_iff_eq.mp hf) _ _ _ _ (fun _ _ e => e) ?_)
  rw [if_pos (by decide)]
  refine wpAny_pure (wpAny_bind (wpAny_mono hq (fun r s' hr => ?_) fun _ _ x => x))
  obtain ⟨rfl, hQ⟩ := hr
  wp_walk
  exact hQ
end
end L2

/-! EXCEPTIONS, 2: an attribute stored on an exception -/
namespace L2
open PySem PySem.Spec PyProof.Rows
open PySem.Builtin PySem.Builtin.ObjectAttr
section
variable {prog : Program} {w : World} {A : Around} {E : Value → Shared → Prop} {h : Heap} {g : Array GenState} {d : Drawn} {t : Nat} {os : OsState}
variable {nm q : Str} {C N x : Addr} {bs bm : List Value} {sn : List Str} {sub : List Value} {ab : Bool} {col : Option Bool} {dd : Option Addr} {k0 k1 k2 k3 k5 : Option Value} {newId : String} {mA : Str → Option Value} {name : Str} {v : Value} {K : PySem.W.Frag}

theorem xsa_check {M : Model} (m : MroV bm) {o : Obj} {nv : Value} {Q : Unit → Shared → Prop} (hC : h.get? C = some (excClassObj nm q C N bs bm true sn sub ab col dd k0 k1 k2 k3 k5 newId)) (hx : h.get? x = some o) (hc : o.cls = .ref C) (hq : Q () ⟨h, g, d, t, os⟩) :
    wpAny M A (checkBuiltinCall "object.__setattr__" ⟨[.ref x, nv, v], []⟩) Q E ⟨h, g, d, t, os⟩ := by
  have hin := m.self C PySem.F.store_ValueError.hasOwner
  have ha := PySem.F.store_ValueError.args (.ref x) nv v
  simp only [checkBuiltinCall, PySem.F.store_ValueError.kind, PySem.F.store_ValueError.split]
  refine wpAny_bind ?_; unfold isInstance
  repeat (first | (with_reducible refine wpAny_loadPart_at hx ?_; rw [hc]) | (with_reducible refine wpAny_isSubtype_exc hC ?_; rw [hin]) | wp_step)
  exact hq
theorem xsa_entry (X : K.In h) (m : MroV bm) {tk : Tok} {Q : PySem.Fin → Shared → Prop} {ns : List Str} (hC : h.get? C = some (excClassObj nm q C N bs bm true sn sub ab col dd k0 k1 k2 k3 k5 newId)) (hna : PySem.W.findIn K (.ref C) name = some none) (hxC : x ≠ C) (I : h.Inst x C mA)
    (hq : ∀ h' tk', h'.Inst x C (fun y => if y = name then some v else mA y) →
      (∀ b o, b ≠ x → (∀ o0 dx, h.get? x = some o0 → o0.dict = some dx → b ≠ dx) → h.get? b = some o → h'.get? b = some o) →
      (∀ o0, h.get? x = some o0 → ∃ o1, h'.get? x = some o1 ∧ o1.cls = o0.cls ∧ o1.data = o0.data ∧ o1.slots = o0.slots ∧ (∀ dx, o0.dict = some dx → o1.dict = some dx) ∧ (o0.dict = none → o1.dict = some h.objs.size)) → Q (.done (.ret .none)) ⟨h', g, d, tk', os⟩) (hw : Within mA ns) (hsz : ns.length ≤ sizeLine) :
    wpAny (model prog w) A (Builtin.«object.__setattr__» ⟨[.ref x, .str name tk, v], []⟩) Q E ⟨h, g, d, t, os⟩ := by
  obtain ⟨o, hx, hc, hnc, hd⟩ := I
  have hpass := m.passes (.ref x)
  have lk : ∀ (A : Around) (Q : Option Value → Shared → Prop) (E : Value → Shared → Prop), Q none ⟨h, g, d, t, os⟩ → wpAny (model prog w) A (typeLookup (.ref C) name) Q E ⟨h, g, d, t, os⟩ := fun A Q E q => PySem.W.looks_findIn X hna A Q E _ (fun _ _ e => e) q
  unfold Builtin.«object.__setattr__»
  repeat (first | rw [refuse_eq] | (rw [refuseLoop_ref, hpass]) | (with_reducible refine wpAny_loadPart_at hx ?_; rw [hc]) | with_reducible refine wpAny_mroOf_exc hC ?_ | with_reducible refine lk _ _ _ ?_ | wp_step)
  rcases hd with ⟨hdn, hmA⟩ | ⟨dx, hdx, hne, hns⟩
  · rw [hdn, if_neg (by simp [typeHasDict])]
    split
    · rename_i hcd
      cases hcd
    split
    · rename_i c hcd
      exact absurd hcd (hnc c)
    · have hx1 : (h.push { cls := .type "dict", data := .dict #[] }).get? x = some o := Heap.get?_push_of_some _ hx
      have hxs : x ≠ h.objs.size := Nat.ne_of_lt (Heap.lt_size hx)
      refine wpAny_bind (wpAny_alloc' (wpAny_bind (wpAny_update' hx1 (wpAny_pure ?_))))
      have hgd : ((h.push { cls := .type "dict", data := .dict #[] }).update x fun o => { cls := o.cls, dict := some h.objs.size, data := o.data, slots := o.slots }).get? h.objs.size = some { cls := .type "dict", data := .dict #[] } := (Heap.get?_update_ne _ _ _ _ hxs.symm).trans (Heap.get?_push_at rfl rfl)
      have hnd : ((h.push { cls := .type "dict", data := .dict #[] }).update x fun o => { cls := o.cls, dict := some h.objs.size, data := o.data, slots := o.slots }).Ns h.objs.size (fun _ => none) := ⟨_, #[], _, hgd, rfl, fun e he => absurd he (by simp), fun _ => rfl⟩
      show wpAny _ _ (storeInDict h.objs.size (.str name tk) name v) _ _ _
      unfold storeInDict newKeyGuard
      refine wpAny_bind (wpAny_pure (wpAny_bind (wpAny_nsSet1 (Heap.Ns1.of_empty hnd) fun h' hn' hs => ?_)))
      obtain ⟨oD, esD, epD, hoD, hdD, hcD⟩ := hn'.count (Within.cons name v Within.nil)
      refine wpAny_bind (wpAny_lookBehind hoD (by rw [hdD]; exact pastItsLine_dict (Nat.le_trans hcD (by rw [List.length_cons, List.length_nil, sizeLine_eq]; omega))) ?_)
      wp_walk
      have hx' : h'.get? x = some { cls := o.cls, dict := some h.objs.size, data := o.data, slots := o.slots } := by
        refine (hs.2 x hxs).trans (Heap.get?_update_self _ hx1 ?_)
        have hfr := (Heap.get?_some_iff.mp hx).2
        obtain ⟨oc, od, odt, osl⟩ := o
        cases odt <;> first | rfl | exact hfr
      refine hq h' _ ⟨_, hx', hc, hnc, .inr ⟨h.objs.size, rfl, hxs.symm, ?_⟩⟩ (fun b ob hbx _ hb => ?_) (fun o0 h0 => ?_)
      · obtain ⟨o', es, ep, e1, e2, e3, eu, e4⟩ := hn'
        exact ⟨o', es, ep, e1, e2, e3, eu, fun y => by rw [e4 y]; by_cases hy : y = name <;> simp [hy, hmA]⟩
      · exact (hs.2 b (Nat.ne_of_lt (Heap.lt_size hb))).trans ((Heap.get?_update_ne _ _ _ _ hbx).trans (Heap.get?_push_of_some _ hb))
      · obtain rfl : o = o0 := Option.some.inj (hx.symm.trans h0)
        exact ⟨_, hx', rfl, rfl, rfl, fun dx e => (by rw [hdn] at e; cases e), fun _ => rfl⟩
  · rw [hdx]
    refine wpAny_pure ?_
    show wpAny _ _ (storeInDict dx (.str name tk) name v) _ _ _
    unfold storeInDict newKeyGuard
    refine wpAny_bind (wpAny_pure (wpAny_bind (wpAny_nsSet1 hns fun h' hn' hs => ?_)))
    obtain ⟨oD, esD, epD, hoD, hdD, hcD⟩ := hn'.count (Within.cons name v hw)
    refine wpAny_bind (wpAny_lookBehind hoD (by rw [hdD]; exact pastItsLine_dict (Nat.le_trans hcD (by rw [List.length_cons]; omega))) ?_)
    wp_walk
    refine hq h' _ ⟨o, (hs.2 x hne.symm).trans hx, hc, hnc, .inr ⟨dx, hdx, hne, hn'⟩⟩ (fun b ob _ hbd hb => (hs.2 b (hbd o dx hx hdx)).trans hb) (fun o0 h0 => ?_)
    obtain rfl : o = o0 := Option.some.inj (hx.symm.trans h0)
    exact ⟨o, (hs.2 x hne.symm).trans hx, rfl, rfl, rfl, fun _ e => e, fun e => (by rw [hdx] at e; cases e)⟩
theorem xstore (X : K.In h) (m : MroV bm) {Q : Unit → Shared → Prop} {ns : List Str} (hC : h.get? C = some (excClassObj nm q C N bs bm true sn sub ab col dd k0 k1 k2 k3 k5 newId)) (hsa : PySem.W.findIn K (.ref C) "__setattr__" = some (some (.builtin "object.__setattr__")))
    (hna : PySem.W.findIn K (.ref C) name = some none) (hxC : x ≠ C) (I : h.Inst x C mA)
    (hq : ∀ h' tk', h'.Inst x C (fun y => if y = name then some v else mA y) →
      (∀ b o, b ≠ x → (∀ o0 dx, h.get? x = some o0 → o0.dict = some dx → b ≠ dx) → h.get? b = some o → h'.get? b = some o) →
      (∀ o0, h.get? x = some o0 → ∃ o1, h'.get? x = some o1 ∧ o1.cls = o0.cls ∧ o1.data = o0.data ∧ o1.slots = o0.slots ∧ (∀ dx, o0.dict = some dx → o1.dict = some dx) ∧ (o0.dict = none → o1.dict = some h.objs.size)) → Q () ⟨h', g, d, tk', os⟩) (hw : Within mA ns) (hsz : ns.length ≤ sizeLine) :
    wpAny (model prog w) A (setAttr (.ref x) name v) Q E ⟨h, g, d, t, os⟩ := by
  obtain ⟨o, hx, hc, _⟩ := id I
  have f3 := PySem.F.store_ValueError.slot.bind (.ref x)
  have lk : ∀ (A : Around) (Q : Option Value → Shared → Prop) (E : Value → Shared → Prop) (t : Nat), Q (some (.builtin "object.__setattr__")) ⟨h, g, d, t, os⟩ → wpAny (model prog w) A (typeLookup (.ref C) "__setattr__") Q E ⟨h, g, d, t, os⟩ := fun A Q E t q => PySem.W.looks_findIn X hsa A Q E _ (fun _ _ e => e) q
  unfold setAttr callSpecial? specialOf
  repeat (any_goals (first | assumption | (with_reducible refine wpAny_loadPart_at hx ?_; rw [hc]) | refine lk _ _ _ _ ?_ | wp_step))
  refine codeAny_call_builtin PySem.F.store_ValueError.slot.plain PySem.F.store_ValueError.entry (xsa_check m hC hx hc (xsa_entry X m hC hna hxC I (fun h' tk' I' hk hsame => ?_) hw hsz))
  repeat (any_goals (first | assumption | wp_step))
  exact hq h' tk' I' hk hsame
end
end L2

/-! EXCEPTIONS, 3: the layer's rules -/
namespace L2
open PySem PySem.Spec PyProof.Rows
/-- an exception just made: its class, its dict -/
def ExcO (C e : Addr) (od : Option Addr) : HO := .ext fun h => ∃ t : Addr, h.get? e = some { cls := .ref C, dict := od, data := .fields #[.ref t, .none, .none, .none, .bool false, .none] }
structure XCls (K : PySem.W.Frag) (C : Addr) : Prop where
  ob : ∃ nm q N bs bm sn sub ab col dd k0 k1 k2 k3 k5, K.lookup C = some (excClassObj nm q C N bs bm true sn sub ab col dd k0 k1 k2 k3 k5 "ValueError.__new__") ∧ MroV bm
  sa : PySem.W.findIn K (.ref C) "__setattr__" = some (some (.builtin "object.__setattr__"))
  kp : PySem.W.keepIn K (.ref C) = true
section
variable {X : Cx} {pins : List (Addr × Obj)} {σ : St} {H : Hp} {s : Shared} {C x : Addr} {od : Option Addr}
theorem excO_at (I : Inv X pins σ H s) (e : H x = some (ExcO C x od)) : ∃ t : Addr, s.heap.get? x = some { cls := .ref C, dict := od, data := .fields #[.ref t, .none, .none, .none, .bool false, .none] } := (I.hok x _ e).1
theorem excO_ok {P : Program} {w : World} {H : Hp} {h : Heap} {t : Addr} (e : h.get? x = some { cls := .ref C, dict := od, data := .fields #[.ref t, .none, .none, .none, .bool false, .none] }) : ObjOk P w H h x (ExcO C x od) :=
  ⟨⟨t, e⟩, ⟨_, e⟩, fun h1 h2 ⟨t, e1⟩ k => ⟨t, k _ e1⟩⟩
theorem cls_ne (I : Inv X pins σ H s) {o : HO} {ob : Obj} (hC : X.K.lookup C = some ob) (e : H x = some o) : x ≠ C := fun z => by
  have hb := I.ok.mod.kin _ _ hC
  have := (I.bs _ _ hb).2
  rw [z, this] at e; cases e
/-- what the store wants to end in -/
def XPut (D : St → Hp → Prop) (σ : St) (H : Hp) (a C : Addr) (od : Option Addr) (f : Str) (y : V) : Prop := match od with
  | none => ∀ dx, H dx = none → dx ≠ a → D σ (upd (upd H dx (.xd (putF f y []))) a (ExcO C a (some dx)))
  | some dx => ∃ fs, H dx = some (.xd fs) ∧ fs.length < 1000 ∧ D σ (upd H dx (.xd (putF f y fs)))
theorem xd_put {P : Program} {w : World} {H : Hp} {h : Heap} {dx : Addr} {mA : Str → Option Value} {f : Str} {y : V} {u : Value} {fs : List (Str × V)} (hl : fs.length < 1000) (hn : h.Ns1 dx fun g => if g = f then some u else mA g) (r : ∀ g, RelO (fs.lookup g) (mA g)) (wi : PySem.Within mA (fs.map (·.1))) (ry : RelV y u) :
    ObjOk P w H h dx (.xd (putF f y fs)) := by
  refine ⟨by have := length_putF f y fs; omega, _, hn, fun g => ?_, fun g hg => ?_⟩
  · rw [lookup_putF]
    by_cases q : g = f
    · rw [if_pos q]; simp only [q, if_true]; exact ry
    · rw [if_neg q]; simp only [q, if_false]; exact r g
  · by_cases q : g = f
    · rw [q]; exact (keys_putF f y fs).1
    · refine (keys_putF f y fs).2 g (wi g fun z => hg ?_)
      simp only [q, if_false]; exact z
theorem xsetattr_ok {f : Str} {y : V} {u : Value} {D : St → Hp → Prop} {A : Around} {E : Value → Shared → Prop} (I : Inv X pins σ H s) (c : XCls X.K C) (na : NoAttr X.K C f) (e : H x = some (ExcO C x od)) (ry : RelV y u) (q : XPut D σ H x C od f y) :
    wpAny (model X.prog X.w) A (setAttr (.ref x) f u) (fun _ s' => ∃ H', Inv X pins σ H' s' ∧ D σ H') E s := by
  obtain ⟨nm, qn, N, bs, bm, sn, sub, ab, col, dd, k0, k1, k2, k3, k5, hK, m⟩ := c.ob
  have hC := I.kIn _ _ hK
  obtain ⟨t, hx⟩ := excO_at I e
  have hxC := cls_ne I hK e
  cases od with
  | none =>
    have hI : s.heap.Inst x C (fun _ => none) := ⟨_, hx, rfl, fun c z => (by cases z), .inl ⟨rfl, fun _ => rfl⟩⟩
    obtain ⟨hp, g, d, tk, os⟩ := s
    refine xstore (ns := []) I.kIn m hC c.sa na hxC hI (fun h' tk' I' hk hs => ?_) PySem.Within.nil (Nat.zero_le _)
    obtain ⟨o1, e1, e2, e3, e4, _, e5⟩ := hs _ hx
    have ed := e5 rfl
    have eo : h'.get? x = some { cls := .ref C, dict := some hp.objs.size, data := .fields #[.ref t, .none, .none, .none, .bool false, .none] } := by
      rw [e1]
      obtain ⟨c1, d1, dt1, sl1⟩ := o1
      simp only at e2 e3 e4 ed
      subst e2 e3 e4 ed
      rfl
    have hkk : ∀ b o, b ≠ x → hp.get? b = some o → h'.get? b = some o := fun b o hb ho => hk b o hb (fun o0 dx h0 hd => by rw [hx] at h0; cases h0; cases hd) ho
    have fr : H hp.objs.size = none := I.fresh
    have hxs : hp.objs.size ≠ x := fun z => by rw [← z, fr] at e; cases e
    obtain ⟨oI, hoI, _, _, hdI⟩ := I'
    have hn1 : h'.Ns1 hp.objs.size (fun g => if g = f then some u else none) := by
      rw [eo] at hoI
      cases hoI
      rcases hdI with ⟨z, _⟩ | ⟨d', hd', _, hn⟩
      · cases z
      · cases hd'; exact hn
    refine ⟨_, ?_, q _ fr hxs⟩
    refine I.un (t' := tk') (h' := h') ⟨fun b o ho n _ _ => ?_, fun b o ho n _ _ => ⟨o.slots, ?_⟩, fun b o ho n _ => ?_, fun b o ho _ => ?_, fun b xs z => ?_, fun b o xs z => ?_, fun b ps z => ⟨#[], ?_⟩⟩ fun b o z => ?_
    · exact hkk b o (fun z => by rw [z, e] at n; cases n) ho
    · exact hkk b o (fun z => by rw [z, e] at n; cases n) ho
    · rw [upd_ne (fun z => by rw [z, e] at n; cases n), upd_ne (Nat.ne_of_lt (Heap.lt_size ho))]; exact n
    · by_cases hb : b = x
      · subst hb; exact ⟨_, eo⟩
      · exact ⟨o, hkk b o hb ho⟩
    · rw [upd_ne (ne_of z e (by intro w; cases w)), upd_ne (ne_of_none z fr)]; exact z
    · rw [upd_ne (ne_of z e (by intro w; cases w)), upd_ne (ne_of_none z fr)]; exact z
    · rw [upd_ne (ne_of z e (by intro w; cases w)), upd_ne (ne_of_none z fr), z]; simp
    · by_cases hb : b = x
      · subst hb
        rw [upd_same] at z; cases z
        exact excO_ok eo
      · rw [upd_ne hb] at z
        by_cases hb2 : b = hp.objs.size
        · subst hb2
          rw [upd_same] at z; cases z
          exact xd_put (mA := fun _ => none) (by decide) hn1 (fun g => True.intro) PySem.Within.nil ry
        · rw [upd_ne hb2] at z
          refine (I.hok b o z).stay (fun c v hc qv => hkk c v ?_ qv) (fun c qc => ?_) fun c xs qc => ?_
          · rcases hc with rfl | hc
            · exact hb
            · exact ne_of hc e (by intro w; cases w)
          · rw [upd_ne (ne_of qc e (by intro w; cases w)), upd_ne (ne_of_none qc fr)]; exact qc
          · rw [upd_ne (ne_of qc e (by intro w; cases w)), upd_ne (ne_of_none qc fr)]; exact qc
  | some dx =>
    obtain ⟨fs, hd, hl, q⟩ := q
    obtain ⟨hl2, mA, hn, r, wi⟩ := I.hok dx _ hd
    have hdx : dx ≠ x := ne_of hd e (by intro w; cases w)
    have hI : s.heap.Inst x C mA := ⟨_, hx, rfl, fun c z => (by cases z), .inr ⟨dx, rfl, hdx, hn⟩⟩
    have hz : (fs.map (·.1)).length ≤ sizeLine := by rw [List.length_map, sizeLine_eq]; omega
    obtain ⟨hp, g, d, tk, os⟩ := s
    refine xstore (ns := fs.map (·.1)) I.kIn m hC c.sa na hxC hI (fun h' tk' I' hk hs => ?_) wi hz
    obtain ⟨o1, e1, e2, e3, e4, e5, _⟩ := hs _ hx
    have ed := e5 dx rfl
    have eo : h'.get? x = some { cls := .ref C, dict := some dx, data := .fields #[.ref t, .none, .none, .none, .bool false, .none] } := by
      rw [e1]
      obtain ⟨c1, d1, dt1, sl1⟩ := o1
      simp only at e2 e3 e4 ed
      subst e2 e3 e4 ed
      rfl
    obtain ⟨oI, hoI, _, _, hdI⟩ := I'
    have hn1 : h'.Ns1 dx (fun g => if g = f then some u else mA g) := by
      rw [eo] at hoI
      cases hoI
      rcases hdI with ⟨z, _⟩ | ⟨d', hd', _, hn⟩
      · cases z
      · cases hd'; exact hn
    refine ⟨_, I.write (t' := tk') (h' := h') (x := dx) (e := dx) (by rw [hd]; exact True.intro) (.inl rfl) (fun b o hb ho => ?_) (let ⟨o, _, _, e', _⟩ := hn1; ⟨o, e'⟩) (xd_put hl hn1 r wi ry), q⟩
    by_cases hbx : b = x
    · subst hbx
      rw [show hp.get? b = _ from hx] at ho
      cases ho
      exact eo
    · exact hk b o hbx (fun o0 d0 h0 hd0 => by rw [show hp.get? x = _ from hx] at h0; cases h0; cases hd0; exact hb) ho
end
section
variable {X : Cx} {o value : Expr} {f : Str} {pos pos' : Pos} {ta tv : TE}
/-- self.f = value, self an exception -/
def sXFld (K : PySem.W.Frag) (ta tv : TE) (f : Str) : TS := fun D σ H => tv σ H fun y H1 => ta σ H1 fun x H2 => ∃ a C od, x = .ref a ∧ H2 a = some (ExcO C a od) ∧ XCls K C ∧ NoAttr K C f ∧ XPut D.nx σ H2 a C od f y
theorem ps_xfld (ha : PE X o ta) (hv : PE X value tv) (hs : swapsWith value (some (.Attribute o f pos')) pos.line X.env = pure false) : PS X (.Assign [.Attribute o f pos'] value pos) (sXFld X.K ta tv f) := by
  intro pins s σ H D I h
  refine plainObj_wpAny_Assign_Attribute (thn (hv pins s σ H _ I h) fun u s1 ⟨y, H1, I1, ry, q⟩ => thn (ha pins s1 σ H1 _ I1 q) fun ov s2 ⟨x, H2, I2, rx, a, C, od, ex, ea, c, n, q2⟩ => ?_) hs
  subst ex
  obtain rfl : ov = Value.ref a := rx
  exact thn (xsetattr_ok I2 c n ea ry q2) fun _ s3 ⟨H3, I3, q3⟩ => ⟨σ, H3, I3, q3⟩
end

/-! ### C.m(..), C a class of the text -/
structure CMeth (K : PySem.W.Frag) (C : Addr) (m : Str) (f : Addr) : Prop where
  ga : PySem.W.specialIn K (.ref C) "__getattribute__" = some (some (.builtin "type.__getattribute__"))
  rd : PySem.W.readsIn K C (.type "type") = true
  fd : PySem.W.findCls K (.ref C) (.type "type") m = some (.val (.ref f))
  kp : PySem.W.keepIn K (.ref f) = true
section
variable {X : Cx} {CX : CXT} {k : Nat} {f C : Addr} {fd : FuncData} {ps : List Str} {sp : Sp} {dvs : List V} {ds : List Value} {E : XK} {x m : Str} {p pos apos : Pos} {e : Expr} {es : List Expr} {t : TA}
theorem pe_cmeth {pl : Sem Bool} (M : CMeth X.K C m f) (hg : Gl X x) (hm : X.mg x = some (.ref C)) (F : FnOk X.prog X.w X.K X.mg X.base CX k f fd ps sp) (hr : Room k X.A) (hb : Binds X.K fd ps ds) (hd : Vals dvs ds) (hx : Passes CX X E) (ha : PA X (e :: es) t)
    (hdb : (x == ("__debug__" : Str)) = false := by decide)
    (hst : starEach (e :: es) X.env = (false, eval e X.env) :: starEach es X.env := by rfl) (hpl : (backTo pos (starEach es X.env)).any (·.1) = false := by rfl)
    (ht : eval (.Call (.Attribute (.Name x p) m apos) (e :: es) [] pos) X.env = (do
      let ov ← eval (.Name x p) X.env
      standAt apos.atName
      let (f, first) ← holding [ov] (getMethod ov m pl)
      callWith pos f first (backTo pos (starEach (e :: es) X.env)) (backToKw pos (keywordEach [] X.env))) := by rfl) :
    PE X (.Call (.Attribute (.Name x p) m apos) (e :: es) [] pos) (tCall sp dvs E t) := by
  intro pins s σ H Q I h
  refine PySem.W.methodCall_KW (pl := pl) (ld_glob I hg hm ?_ hdb) ht
  refine PySem.W.method_cls I.kIn M.ga (PySem.W.cls_value I.kIn M.rd M.fd (by rfl) ?_)
  refine PySem.W.callWith_K (first := []) (h₀ := X.base) I.ok.mod.kin M.kp (thn (ha pos pins _ σ H _ (I.tok _) h) fun us s2 ⟨vs, H2, I2, r, q2⟩ => ⟨I2.kIn, ?_⟩) hst hpl
  exact run_fn F hr hb hd hx I2 r q2

/-! ### an exception is made -/
def tXMake (C : Addr) (sp : Sp) (dvs : List V) (E : XK) (t : TA) : TE := fun σ H Q => t σ H fun vs H1 => vs.length ≤ sizeLine ∧ ∀ x, H1 x = none → sp (.ref x :: (vs ++ dvs)) (upd H1 x (ExcO C x none)) (fun v H2 => v = .non ∧ Q (.ref x) H2) E
theorem run_xmake {pins : List (Addr × Obj)} {σ : St} {H : Hp} {s : Shared} {Q : VK} {us : List Value} {vs : List V} (c : XCls X.K C) (hi : PySem.W.findIn X.K (.ref C) "__init__" = some (some (.ref f))) (hf : PySem.W.isFn X.K (.ref f) = true) (F : FnOk X.prog X.w X.K X.mg X.base CX k f fd ps sp) (hr : Room (k + 1) X.A) (hb : Binds X.K fd ps ds) (hd : Vals dvs ds)
    (hx : Passes CX X E) (I : Inv X pins σ H s) (r : Vals vs us) (hv : vs.length ≤ sizeLine)
    (h : ∀ x, H x = none → sp (.ref x :: (vs ++ dvs)) (upd H x (ExcO C x none)) (fun v H2 => v = .non ∧ Q (.ref x) H2) E) :
    wpAny (model X.prog X.w) X.A (call (.ref C) us) (EP X pins σ Q) X.xe s := by
  obtain ⟨nm, qn, N, bs, bm, sn, sub, ab, col, dd, k0, k1, k2, k3, k5, hK, m⟩ := c.ob
  have hC := I.kIn _ _ hK
  have hq := h (s.heap.objs.size + 1) (I.hok.fresh (Nat.le_succ _))
  have I1 : Inv X pins σ H { s with heap := s.heap.push { cls := .type "tuple", data := .seq us.toArray } } := I.kept (t' := s.toks) fun b o e => Heap.get?_push_of_some _ e
  have sz1 : (s.heap.push { cls := .type "tuple", data := .seq us.toArray }).objs.size = s.heap.objs.size + 1 := Heap.size_push ..
  have I2 : Inv X pins σ (upd H (s.heap.objs.size + 1) (ExcO C (s.heap.objs.size + 1) none)) { s with heap := (s.heap.push { cls := .type "tuple", data := .seq us.toArray }).push { cls := .ref C, data := .fields #[.ref s.heap.objs.size, .none, .none, .none, .bool false, .none] } } := by
    refine I1.laid (t' := s.toks) (fun b o e => Heap.get?_push_of_some _ e) (Nat.le_of_eq sz1) (excO_ok (t := s.heap.objs.size) ?_)
    rw [← sz1]; exact Heap.get?_push_size _ rfl
  have r2 : Vals (V.ref (s.heap.objs.size + 1) :: (vs ++ dvs)) (Value.ref (s.heap.objs.size + 1) :: (us ++ ds)) := .cons rfl (r.append hd)
  have hl : (Value.ref (s.heap.objs.size + 1) :: us ++ ds).length = ps.length := by
    have e := r2.length
    rw [F.len _ _ _ _ hq] at e
    exact e.symm
  obtain ⟨hp, g, d, tk, os⟩ := s
  refine xcall I.kIn m hC hi hf (by rw [← r.length]; exact hv) ?_
  refine wpAny_call (codeAny_mono (F.run _ X.stack _ _ ⟨Value.ref (hp.objs.size + 1) :: us, []⟩ (Value.ref (hp.objs.size + 1) :: (us ++ ds)) _ _ E (hr.make C us []) (I2.env0.make C us []) (hb _ (Value.ref (hp.objs.size + 1) :: us) I2.kIn hl) r2 hq) fun r s' hq' => ?_)
  cases r with
  | error e => exact hx pins σ _ _ e s' I2 hq'
  | ok fl =>
    cases fl with
    | ret u =>
      obtain ⟨v, H', I3, rv, ev, q3⟩ := I2.after hq'
      subst ev
      exact ⟨rv, ⟨V.ref (hp.objs.size + 1), H', I3, rfl, q3⟩⟩
    | next => exact False.elim hq'
    | brk => exact False.elim hq'
    | cont => exact False.elim hq'
theorem pe_xmake (c : XCls X.K C) (hi : PySem.W.findIn X.K (.ref C) "__init__" = some (some (.ref f))) (hf : PySem.W.isFn X.K (.ref f) = true) (F : FnOk X.prog X.w X.K X.mg X.base CX k f fd ps sp) (hr : Room (k + 1) X.A) (hg : Gl X x) (hm : X.mg x = some (.ref C)) (hb : Binds X.K fd ps ds) (hd : Vals dvs ds) (hx : Passes CX X E)
    (ha : PA X (e :: es) t) (hdb : (x == ("__debug__" : Str)) = false := by decide) (he : starEach (e :: es) X.env = (false, eval e X.env) :: starEach es X.env := by rfl) (hpl : (backTo pos (starEach es X.env)).any (·.1) = false := by rfl) :
    PE X (.Call (.Name x p) (e :: es) [] pos) (tXMake C sp dvs E t) := by
  intro pins s σ H Q I h
  refine wpAny_Call_Name_kw (ld_glob I hg hm ?_ hdb)
  refine PySem.W.callWith_K (h₀ := X.base) I.ok.mod.kin c.kp (thn (ha pos pins s σ H _ I h) fun us s1 ⟨vs, H1, I1, r, hv, q⟩ => ⟨I1.kIn, ?_⟩) he hpl
  exact run_xmake c hi hf F hr hb hd hx I1 r hv q
end
end L2

/-! EXCEPTIONS, 4: raised, passing frames, caught -/
namespace L2
open PySem PySem.Spec PyProof.Rows
def del (H : Hp) (a : Addr) : Hp := fun b => if b = a then none else H b
theorem del_same (H : Hp) (a : Addr) : del H a a = none := if_pos rfl
theorem del_ne {H : Hp} {a b : Addr} (h : b ≠ a) : del H a b = H b := if_neg h
theorem ObjOk.got {P : Program} {w : World} {H : Hp} {h : Heap} {a : Addr} {o : HO} (x : ObjOk P w H h a o) : ∃ ob, h.get? a = some ob := by
  cases o with
  | lst xs => obtain ⟨_, _, _, _, e⟩ := x; exact ⟨_, e⟩
  | tup xs => obtain ⟨_, _, _, _, e, _⟩ := x; exact ⟨_, e⟩
  | dK kvs => obtain ⟨_, _, _, _, o, _, _, e, _⟩ := x; exact ⟨_, e⟩
  | dT kvs => obtain ⟨_, _, _, _, o, _, _, e, _⟩ := x; exact ⟨_, e⟩
  | set S n => obtain ⟨o, _, _, _, e, _⟩ := x; exact ⟨_, e⟩
  | ins C dx fs => obtain ⟨_, _, _, e, _⟩ := x; exact ⟨_, e⟩
  | own y => obtain ⟨_, e⟩ := x; exact ⟨_, e⟩
  | xd fs => obtain ⟨_, _, ⟨_, _, _, e, _⟩, _⟩ := x; exact ⟨_, e⟩
  | rng lo hi => obtain ⟨_, _, _, e⟩ := x; exact ⟨_, e⟩
  | frz ob u => obtain ⟨e, _⟩ := x; exact ⟨_, e⟩
  | tbl ps => exact ⟨_, show h.get? a = some _ from x⟩
  | met f y => exact ⟨_, show h.get? a = some _ from x⟩
  | ext φ => obtain ⟨_, ⟨_, e⟩, _⟩ := x; exact ⟨_, e⟩

/-- in flight: the exception at a and its traceback, both new since h0 and untracked -/
def Fly (h : Heap) (H : Hp) (h0 : Heap) (a : Addr) (cls : Value) : Prop :=
  (H a = none ∧ h0.get? a = none) ∧ ∃ T a0, (H T = none ∧ h0.get? T = none) ∧ ∃ oe vs oT ts, h.get? a = some oe ∧ (oe.cls = cls ∧ vs[0]? = some a0) ∧ oe.data = .fields vs ∧ vs[1]? = some (.ref T) ∧ T ≠ a ∧ h.get? T = some oT ∧ oT.data = .fields ts ∧ ts[3]? = some Value.none
theorem Fly.from {h : Heap} {H : Hp} {h0 h1 : Heap} {a : Addr} {cls : Value} (x : Fly h H h0 a cls) (k : ∀ b o, h1.get? b = some o → ∃ o', h0.get? b = some o') : Fly h H h1 a cls := by
  have g : ∀ b, h0.get? b = none → h1.get? b = none := fun b e => by
    cases q : h1.get? b with
    | none => rfl
    | some o => obtain ⟨o', z⟩ := k b o q; rw [e] at z; cases z
  obtain ⟨⟨x1, x2⟩, T, a0, ⟨x3, x4⟩, r⟩ := x
  exact ⟨⟨x1, g _ x2⟩, T, a0, ⟨x3, g _ x4⟩, r⟩
theorem Fly.flying {h : Heap} {H : Hp} {h0 B : Heap} {a : Addr} {cls : Value} {l : List Env} (x : Fly h H h0 a cls) (ff : h.FunFrames B l) :
    ∃ T a0, (H T = none ∧ h0.get? T = none) ∧ Heap.FlyingW (PySem.W.hideAll h (a :: ([T] ++ frs l))) l a cls a0 h := by
  obtain ⟨_, T, a0, z, oe, vs, oT, ts, e1, e2, e3, e4, e5, e6, e7, e8⟩ := x
  refine ⟨T, a0, z, fun b o e => PySem.W.of_hideAll _ e, PySem.W.hideAll_none _ List.mem_cons_self, PySem.W.funFrames_hide ff fun env he b hb => ?_, oe, vs, T, oT, ts, e1, e2, e3, e4, PySem.W.hideAll_none _ (by simp), e5, e6, e7, e8⟩
  exact List.mem_cons_of_mem _ (List.mem_cons_of_mem _ (List.mem_filterMap.mpr ⟨env, he, hb⟩))

/-- THE KEY: what a station of an exception leaves as it was -/
theorem station {P : Program} {w : World} {fs ts : List Addr} {l l' : List Env} {H0 H : Hp} {h0 h1 h2 B : Heap} {a : Addr} {cls a0 : Value} (u : Un fs [] H0 H h0 h1) (ok : HOk P w H h1) (ff : h1.FunFrames B l)
    (hl : ∀ b ∈ frs l, (b ∈ fs ∨ h0.get? b = none) ∧ H b = none) (ha : H a = none ∧ h0.get? a = none) (hts : ∀ T ∈ ts, H T = none ∧ h0.get? T = none)
    (x : Heap.FlyingW (PySem.W.hideAll h1 (a :: (ts ++ frs l))) l' a cls a0 h2) (up : h1.UpToSlots h2) : Un fs [] H0 H h0 h2 ∧ HOk P w H h2 ∧ Fly h2 H h0 a cls := by
  obtain ⟨st, _, _, oe, vs, T, oT, tv, e1, e2, e3, e4, e5, e6, e7, e8, e9⟩ := x
  have keep : ∀ b o, b ∉ a :: (ts ++ frs l) → h1.get? b = some o → h2.get? b = some o := fun b o hb e => st b o (PySem.W.hideAll_get _ e hb)
  have out : ∀ b, b ∈ a :: (ts ++ frs l) → H b = none ∧ (b ∈ frs l ∨ h0.get? b = none) := fun b hb => by
    rcases List.mem_cons.mp hb with rfl | hb
    · exact ⟨ha.1, .inr ha.2⟩
    · rcases List.mem_append.mp hb with hb | hb
      · exact ⟨(hts b hb).1, .inr (hts b hb).2⟩
      · exact ⟨(hl b hb).2, .inl hb⟩
  have slot : ∀ b o, h0.get? b ≠ none → h1.get? b = some o → ∃ sl, h2.get? b = some { o with slots := sl } := fun b o n e => by
    by_cases hb : b ∈ a :: (ts ++ frs l)
    · rcases (out b hb).2 with q | q
      · obtain ⟨_, o', ho, hn⟩ := ff.mem q
        rw [e] at ho; cases ho
        exact up b o e hn
      · exact absurd q n
    · exact ⟨o.slots, keep b o hb e⟩
  refine ⟨⟨fun b o e n hf hx => ?_, fun b o e n hf hx => ?_, u.free, fun b o e hx => ?_, u.tups, u.frzs, u.tbls⟩, fun b o q => ?_, ha, T, a0, ?_, oe, vs, oT, tv, e1, e2, e3, e4, e6, e7, e8, e9⟩
  · refine keep b o (fun hb => ?_) (u.keep b o e n hf hx)
    rcases (out b hb).2 with q | q
    · rcases (hl b q).1 with q | q
      · exact hf q
      · rw [e] at q; cases q
    · rw [e] at q; cases q
  · obtain ⟨sl, q⟩ := u.slot b o e n hf hx
    obtain ⟨sl', q'⟩ := slot b _ (by rw [e]; simp) q
    exact ⟨sl', q'⟩
  · obtain ⟨o', q⟩ := u.there b o e hx
    obtain ⟨sl', q'⟩ := slot b _ (by rw [e]; simp) q
    exact ⟨_, q'⟩
  · refine (ok b o q).stay (fun c v hc qv => keep c v (fun hm => ?_) qv) (fun _ z => z) fun _ _ z => z
    have n := (out c hm).1
    rcases hc with rfl | hc
    · rw [q] at n; cases n
    · rw [hc] at n; cases n
  · by_cases hm : T ∈ a :: (ts ++ frs l)
    · rcases List.mem_cons.mp hm with z | hm
      · exact absurd z e6
      · rcases List.mem_append.mp hm with hm | hm
        · exact hts T hm
        · obtain ⟨_, o', ho, hn⟩ := ff.mem hm
          obtain ⟨sl, z⟩ := up T o' ho hn
          rw [e7] at z; cases z
          exact absurd e8 (hn tv)
    · have n1 : h1.get? T = none := by
        cases q : h1.get? T with
        | none => rfl
        | some o => rw [PySem.W.hideAll_get _ q hm] at e5; cases e5
      refine ⟨?_, ?_⟩
      · cases q : H T with
        | none => rfl
        | some o => obtain ⟨ob, z⟩ := (ok T o q).got; rw [n1] at z; cases z
      · cases q : h0.get? T with
        | none => rfl
        | some o => obtain ⟨ob, z⟩ := u.there T o q (by simp); rw [n1] at z; cases z

/-- a call's end by an exception -/
def CXE (P : Program) (w : World) : CXT := fun outer H s E e s' => ∃ a cls H', e = .ref a ∧ s'.os = s.os ∧ AllBare s'.gens ∧ Un (frs outer) [] H H' s.heap s'.heap ∧ HOk P w H' s'.heap ∧ Fly s'.heap H' s.heap a cls ∧ E cls none H'
/-- an exception made here is raised here -/
def Raises (X : Cx) (E : XK) : Prop := ∀ (pins : List (Addr × Obj)) (σ : St) (H : Hp) (s : Shared) (x C : Addr) (od : Option Addr), Inv X pins σ H s → H x = some (ExcO C x od) → X.s₀.heap.get? x = none → E (.ref C) none (del H x) → X.xe (.ref x) s

section
variable {X : Cx} {pins : List (Addr × Obj)} {σ : St} {H H' : Hp} {s s' : Shared} {C x a : Addr} {od : Option Addr} {cls a0 : Value}
theorem Inv.del (I : Inv X pins σ H s) (e : H x = some (ExcO C x od)) : Inv X pins σ (L2.del H x) s := by
  have ne : ∀ b u, H b = some u → (∀ φ, u ≠ .ext φ) → b ≠ x := fun b u q n z => by rw [z, e] at q; cases q; exact n _ rfl
  have := I.un (t' := s.toks) (h' := s.heap) (H' := L2.del H x) ⟨fun b o ho n _ _ => ho, fun b o ho n _ _ => ⟨o.slots, ho⟩, fun b o ho n _ => ?_, fun b o ho _ => ⟨o, ho⟩, fun b xs z => ?_, fun b o xs z => ?_, fun b ps z => ⟨#[], ?_⟩⟩ fun b o z => ?_
  · exact this
  · unfold L2.del; split
    · rfl
    · exact n
  · rw [del_ne (ne b _ z fun φ w => by cases w)]; exact z
  · rw [del_ne (ne b _ z fun φ w => by cases w)]; exact z
  · rw [del_ne (ne b _ z fun φ w => by cases w), z]; simp
  · have hb : b ≠ x := fun q => by rw [q, del_same] at z; cases z
    rw [del_ne hb] at z
    exact (I.hok b o z).stay (fun _ _ _ q => q) (fun c q => by rw [del_ne (ne c _ q fun φ w => by cases w)]; exact q) fun c xs q => by rw [del_ne (ne c _ q fun φ w => by cases w)]; exact q
/-- leaving this frame -/
theorem Inv.left {ts : List Addr} {h2 : Heap} {l' : List Env} (I : Inv X pins σ H s) (hex : X.ex = []) (ha : H a = none ∧ X.s₀.heap.get? a = none) (hts : ∀ T ∈ ts, H T = none ∧ X.s₀.heap.get? T = none)
    (x : Heap.FlyingW (PySem.W.hideAll s.heap (a :: (ts ++ frs X.stack))) l' a cls a0 h2) (up : s.heap.UpToSlots h2) : Un X.fs [] X.H₀ H X.s₀.heap h2 ∧ HOk X.prog X.w H h2 ∧ Fly h2 H X.s₀.heap a cls := by
  have u := I.base
  rw [hex] at u
  refine station u I.hok I.stack (fun b hb => ⟨?_, I.stkFree b hb⟩) ha hts x up
  rcases List.mem_cons.mp (I.stkSub b hb) with z | z
  · right; rw [z]; exact Heap.get?_none_of_le I.ok.above
  · exact .inl z
end

section
variable {P : Program} {w : World} {K : PySem.W.Frag} {mg : Str → Option Value} {base : Heap} {N : List Str} {qual : Str} {scope : Scope} {f : Addr} {cd : Value} {A : Around} {outer : List Env} {s : Shared} {H : Hp} {E : XK}
theorem raises_fn : Raises (cxOf (CXE P w) P w K mg base N qual scope f cd A outer s H E) E := by
  intro pins σ H1 s1 x C od I e n q
  obtain ⟨t, hx⟩ := excO_at I e
  have J := I.del e
  have hd : del H1 x x = none := del_same _ _
  refine wpAny_leaving_firstW (base := PySem.W.hideAll s1.heap (x :: ([] ++ frs (cxOf (CXE P w) P w K mg base N qual scope f cd A outer s H E).stack))) (outer := outer) (L := s.heap.objs.size) (a0 := .ref t) I.ok.frames ?_ rfl hx (fun b o z => PySem.W.of_hideAll _ z) (PySem.W.hideAll_none _ List.mem_cons_self) rfl rfl rfl fun h' hL => ?_
  · exact PySem.W.funFrames_hide I.stack fun env he b hb => List.mem_cons_of_mem _ (List.mem_filterMap.mpr ⟨env, he, hb⟩)
  · obtain ⟨k1, k2, k3, k4⟩ := hL
    obtain ⟨u, ok, fl⟩ := J.left (ts := []) rfl ⟨hd, n⟩ (fun _ z => nomatch z) ⟨k1, PySem.W.hideAll_none _ List.mem_cons_self, k2, k3⟩ k4
    exact ⟨x, .ref C, _, rfl, I.os, I.bare, u, ok, fl, q⟩
theorem passes_fn : Passes (CXE P w) (cxOf (CXE P w) P w K mg base N qual scope f cd A outer s H E) E := by
  intro pins σ H1 s1 e s2 I q
  obtain ⟨a, cls, H', rfl, os, bare, un, ok, fl, q⟩ := q
  have J := I.call' (ch := []) os un ok bare fun b z => nomatch z
  have fl' : Fly s2.heap H' s.heap a cls := fl.from fun b o z => I.base.there b o z (fun z => nomatch z)
  obtain ⟨T, a0, z, fw⟩ := fl'.flying J.stack
  refine wpAny_leaves_onW J.ok.frames rfl fw fun h' fw' up => ?_
  obtain ⟨u, ok', f2⟩ := J.left (ts := [T]) rfl fl'.1 (fun b hb => by rw [List.mem_singleton.mp hb]; exact z) fw' up
  exact ⟨a, cls, H', rfl, J.os, J.bare, u, ok', f2, q⟩
end
end L2

/-! EXCEPTIONS, 5: the statements raise and try; defs that raise -/
namespace L2
open PySem PySem.Spec PyProof.Rows
section
variable {M : Model} {A : Around} {E : Value → Shared → Prop} {env : Env}
variable {nm q : Str} {C N : Addr} {bs bm : List Value} {hdct : Bool} {sn : List Str} {sub : List Value} {ab : Bool} {col : Option Bool} {dd : Option Addr} {k0 k1 k2 k3 k5 : Option Value} {newId : String}
theorem xraise {s : Shared} {x : Sem Value} {Q : Flow → Shared → Prop} (m : MroV bm) (hh : A.handled = none)
    (h : wpAny M A x (fun v s₁ => ∃ e od t, v = .ref e ∧ s₁.heap.get? C = some (excClassObj nm q C N bs bm hdct sn sub ab col dd k0 k1 k2 k3 k5 newId) ∧ s₁.heap.get? e = some { cls := .ref C, dict := od, data := .fields #[.ref t, .none, .none, .none, .bool false, .none] } ∧ E (.ref e) s₁) E s) :
    wpAny M A (raiseStmt env (some x) none) Q E s := by
  have hcB : (Value.ref C :: bm).contains (.type "BaseException") = true := m.self C (by decide)
  unfold raiseStmt
  refine wpAny_bind (wpAny_mono h (fun v s₁ h₁ => ?_) fun _ _ x => x)
  obtain ⟨e, od, t, rfl, hC, he, hE⟩ := h₁
  obtain ⟨hp, g, d, tk, os⟩ := s₁
  repeat (first | with_reducible refine wpAny_loadPart_at he ?_ | with_reducible refine wpAny_loadPart_at hC ?_ | (with_reducible refine wpAny_isSubtype_exc hC ?_; rw [hcB]) | wp_step)
  exact wpAny_raiseNew_none hh hE
end
section
variable {X : Cx} {CX : CXT} {k : Nat} {f C : Addr} {fd : FuncData} {ps : List Str} {sp : Sp} {dvs : List V} {ds : List Value} {E Ei : XK} {x m : Str} {p pos cpos apos : Pos} {e : Expr} {es : List Expr} {t : TA}
theorem run_xmake2 {pins : List (Addr × Obj)} {σ : St} {H : Hp} {s : Shared} {Q : Addr → Hp → Prop} {us : List Value} {vs : List V} (c : XCls X.K C) (hi : PySem.W.findIn X.K (.ref C) "__init__" = some (some (.ref f))) (hf : PySem.W.isFn X.K (.ref f) = true) (F : FnOk X.prog X.w X.K X.mg X.base CX k f fd ps sp) (hr : Room (k + 1) X.A) (hb : Binds X.K fd ps ds) (hd : Vals dvs ds)
    (hx : Passes CX X E) (I : Inv X pins σ H s) (r : Vals vs us) (hv : vs.length ≤ sizeLine)
    (h : ∀ x, H x = none → sp (.ref x :: (vs ++ dvs)) (upd H x (ExcO C x none)) (fun v H2 => v = .non ∧ Q x H2) E) :
    wpAny (model X.prog X.w) X.A (call (.ref C) us) (fun v s' => v = .ref (s.heap.objs.size + 1) ∧ ∃ H', Inv X pins σ H' s' ∧ Q (s.heap.objs.size + 1) H') X.xe s := by
  obtain ⟨nm, qn, N, bs, bm, sn, sub, ab, col, dd, k0, k1, k2, k3, k5, hK, m⟩ := c.ob
  have hC := I.kIn _ _ hK
  have hq := h (s.heap.objs.size + 1) (I.hok.fresh (Nat.le_succ _))
  have I1 : Inv X pins σ H { s with heap := s.heap.push { cls := .type "tuple", data := .seq us.toArray } } := I.kept (t' := s.toks) fun b o e => Heap.get?_push_of_some _ e
  have sz1 : (s.heap.push { cls := .type "tuple", data := .seq us.toArray }).objs.size = s.heap.objs.size + 1 := Heap.size_push ..
  have I2 : Inv X pins σ (upd H (s.heap.objs.size + 1) (ExcO C (s.heap.objs.size + 1) none)) { s with heap := (s.heap.push { cls := .type "tuple", data := .seq us.toArray }).push { cls := .ref C, data := .fields #[.ref s.heap.objs.size, .none, .none, .none, .bool false, .none] } } := by
    refine I1.laid (t' := s.toks) (fun b o e => Heap.get?_push_of_some _ e) (Nat.le_of_eq sz1) (excO_ok (t := s.heap.objs.size) ?_)
    rw [← sz1]; exact Heap.get?_push_size _ rfl
  have r2 : Vals (V.ref (s.heap.objs.size + 1) :: (vs ++ dvs)) (Value.ref (s.heap.objs.size + 1) :: (us ++ ds)) := .cons rfl (r.append hd)
  have hl : (Value.ref (s.heap.objs.size + 1) :: us ++ ds).length = ps.length := by
    have e := r2.length
    rw [F.len _ _ _ _ hq] at e
    exact e.symm
  obtain ⟨hp, g, d, tk, os⟩ := s
  refine xcall I.kIn m hC hi hf (by rw [← r.length]; exact hv) ?_
  refine wpAny_call (codeAny_mono (F.run _ X.stack _ _ ⟨Value.ref (hp.objs.size + 1) :: us, []⟩ (Value.ref (hp.objs.size + 1) :: (us ++ ds)) _ _ E (hr.make C us []) (I2.env0.make C us []) (hb _ (Value.ref (hp.objs.size + 1) :: us) I2.kIn hl) r2 hq) fun r s' hq' => ?_)
  cases r with
  | error e => exact hx pins σ _ _ e s' I2 hq'
  | ok fl =>
    cases fl with
    | ret u =>
      obtain ⟨v, H', I3, rv, ev, q3⟩ := I2.after hq'
      subst ev
      exact ⟨rv, rfl, H', I3, q3⟩
    | next => exact False.elim hq'
    | brk => exact False.elim hq'
    | cont => exact False.elim hq'
/-- raise C(..) -/
def tRaise (C : Addr) (sp : Sp) (dvs : List V) (Ei E : XK) (t : TA) : TS := fun _ σ H => t σ H fun vs H1 => vs.length ≤ sizeLine ∧ ∀ x, H1 x = none →
  sp (.ref x :: (vs ++ dvs)) (upd H1 x (ExcO C x none)) (fun v H2 => v = .non ∧ ∃ od, H2 x = some (ExcO C x od) ∧ E (.ref C) none (del H2 x)) Ei
theorem ps_raise (R : Raises X E) (hc : X.calm = true) (c : XCls X.K C) (hi : PySem.W.findIn X.K (.ref C) "__init__" = some (some (.ref f))) (hf : PySem.W.isFn X.K (.ref f) = true) (F : FnOk X.prog X.w X.K X.mg X.base CX k f fd ps sp) (hr : Room (k + 1) X.A) (hg : Gl X x) (hm : X.mg x = some (.ref C)) (hb : Binds X.K fd ps ds) (hd : Vals dvs ds) (hx : Passes CX X Ei)
    (ha : PA X (e :: es) t) (hdb : (x == ("__debug__" : Str)) = false := by decide) (he : starEach (e :: es) X.env = (false, eval e X.env) :: starEach es X.env := by rfl) (hpl : (backTo cpos (starEach es X.env)).any (·.1) = false := by rfl) :
    PS X (.Raise (some (.Call (.Name x p) (e :: es) [] cpos)) none pos) (tRaise C sp dvs Ei E t) := by
  intro pins s σ H D I h
  obtain ⟨nm, qn, N, bs, bm, sn, sub, ab, col, dd, k0, k1, k2, k3, k5, hK, m⟩ := c.ob
  rw [arm_exec_Raise]
  simp only [evalOpt, Option.map]
  refine wpAny_bind (wpAny_standAt (xraise (C := C) m (I.ok.hd hc) (hdct := true) (nm := nm) (q := qn) (N := N) (bs := bs) (sn := sn) (sub := sub) (ab := ab) (col := col) (dd := dd) (k0 := k0) (k1 := k1) (k2 := k2) (k3 := k3) (k5 := k5) (newId := "ValueError.__new__") ?_))
  refine wpAny_bind (wpAny_mono (wpAny_Call_Name_kw (ld_glob I hg hm ?_ hdb)) (fun v s3 h3 => wpAny_bind (wpAny_standAt (wpAny_pure h3))) fun _ _ z => z)
  refine PySem.W.callWith_K (h₀ := X.base) I.ok.mod.kin c.kp (thn (ha cpos pins s σ H _ I h) fun us s1 ⟨vs, H1, I1, r, hv, q⟩ => ⟨I1.kIn, ?_⟩) he hpl
  refine thn (run_xmake2 (Q := fun x H2 => ∃ od, H2 x = some (ExcO C x od) ∧ E (.ref C) none (del H2 x)) c hi hf F hr hb hd hx I1 r hv q) fun v s2 ⟨ev, H2, I2, od, e2, q2⟩ => ?_
  obtain ⟨t2, hx2⟩ := excO_at I2 e2
  exact ⟨_, _, _, ev, I2.kIn _ _ hK, hx2, R pins σ H2 s2 _ C od I2 e2 (Heap.get?_none_of_le (Nat.le_trans I1.sz (Nat.le_succ _))) q2⟩
end

/-! ### try -/
def Cx.inTry (X : Cx) (pins : List (Addr × Obj)) (E : XK) : Cx := { X with pn := X.pn ++ pins, xe := fun e s1 => ∃ σ H s, Inv X pins σ H s ∧ CXE X.prog X.w X.stack H s E e s1 }
def Cx.caught (X : Cx) (e : Value) : Cx := { X with A := X.A.mark (some e), calm := false, xe := fun _ _ => False }
section
variable {X : Cx} {pins pins' : List (Addr × Obj)} {σ : St} {H : Hp} {s : Shared} {E : XK} {e : Value} {D : Ends} {f : Flow}
theorem Inv.inTry (I : Inv X pins σ H s) (E : XK) : Inv (X.inTry pins E) [] σ H s :=
  let ok := I.ok
  ⟨⟨ok.mod, ok.kind, ok.glob, ok.blt, ok.above, ok.inj, ok.has, ok.cab, ok.hd, ok.frames, ok.stk, ok.exf, ok.bs, ok.bsz, ok.noex, ok.exfs, ok.funs, ok.frf⟩, I.os, I.bare, I.base, I.loc, I.cell, I.free, I.freeC, fun p hp => I.pin p (by
    rw [List.append_nil] at hp; exact hp), I.hok, I.len⟩
theorem Inv.outTry (I : Inv (X.inTry pins E) pins' σ H s) : Inv X pins σ H s :=
  let ok := I.ok
  ⟨⟨ok.mod, ok.kind, ok.glob, ok.blt, ok.above, ok.inj, ok.has, ok.cab, ok.hd, ok.frames, ok.stk, ok.exf, ok.bs, ok.bsz, ok.noex, ok.exfs, ok.funs, ok.frf⟩, I.os, I.bare, I.base, I.loc, I.cell, I.free, I.freeC, fun p hp => I.pin p (List.mem_append_left _ hp), I.hok, I.len⟩
theorem Inv.caught (I : Inv X pins σ H s) (e : Value) : Inv (X.caught e) pins σ H s :=
  let ok := I.ok
  ⟨⟨ok.mod, ok.kind, ok.glob, ok.blt, ok.above, ok.inj, ok.has, ok.cab, (fun z => nomatch z), ok.frames, ok.stk, ok.exf, ok.bs, ok.bsz, ok.noex, ok.exfs, ok.funs, ok.frf⟩, I.os, I.bare, I.base, I.loc, I.cell, I.free, I.freeC, I.pin, I.hok, I.len⟩
theorem Inv.uncaught (hd : X.calm = true → X.A.handled = none) (I : Inv (X.caught e) pins σ H s) : Inv X pins σ H s :=
  let ok := I.ok
  ⟨⟨ok.mod, ok.kind, ok.glob, ok.blt, ok.above, ok.inj, ok.has, ok.cab, hd, ok.frames, ok.stk, ok.exf, ok.bs, ok.bsz, ok.noex, ok.exfs, ok.funs, ok.frf⟩, I.os, I.bare, I.base, I.loc, I.cell, I.free, I.freeC, I.pin, I.hok, I.len⟩
theorem SP.outTry (h : SP (X.inTry pins E) pins' D f s) : SP X pins D f s := by
  cases f with
  | next => obtain ⟨σ', H', I, q⟩ := h; exact ⟨σ', H', I.outTry, q⟩
  | brk => obtain ⟨σ', H', I, q⟩ := h; exact ⟨σ', H', I.outTry, q⟩
  | cont => obtain ⟨σ', H', I, q⟩ := h; exact ⟨σ', H', I.outTry, q⟩
  | ret u => obtain ⟨v, σ', H', I, r, q⟩ := h; exact ⟨v, σ', H', I.outTry, r, q⟩
theorem SP.uncaught (hd : X.calm = true → X.A.handled = none) (h : SP (X.caught e) pins D f s) : SP X pins D f s := by
  cases f with
  | next => obtain ⟨σ', H', I, q⟩ := h; exact ⟨σ', H', I.uncaught hd, q⟩
  | brk => obtain ⟨σ', H', I, q⟩ := h; exact ⟨σ', H', I.uncaught hd, q⟩
  | cont => obtain ⟨σ', H', I, q⟩ := h; exact ⟨σ', H', I.uncaught hd, q⟩
  | ret u => obtain ⟨v, σ', H', I, r, q⟩ := h; exact ⟨v, σ', H', I.uncaught hd, r, q⟩
theorem passes_try : Passes (CXE X.prog X.w) (X.inTry pins E) E := fun pins' σ H s e s' I q => ⟨σ, H, s, I.outTry, q⟩
end
section
variable {X : Cx} {C : Addr} {E : XK} {x : Str} {p pos hpos : Pos} {body suite : List Stmt} {b₀ : Stmt} {tb th : TS}
/-- try: body except C: suite; of what the names hold where the exception came nothing is said -/
def tTry (E : XK) (C : Addr) (tb th : TS) : TS := fun D σ H => tb D σ H ∧ ∀ σ' cls H', E cls none H' → cls = .ref C ∧ th D σ' H'
theorem ps_try (hs : X.stack = X.env :: X.outer ∧ X.env.frame = some X.env.locals) (c : XCls X.K C) (hg : Gl X x) (hm : X.mg x = some (.ref C)) (hb : ∀ pins, PSs (X.inTry pins E) body tb) (hh : ∀ e, PSs (X.caught e) (b₀ :: suite) th)
    (hdb : (x == ("__debug__" : Str)) = false := by decide) :
    PS X (.Try body [.ExceptHandler (some (.Name x p)) none (b₀ :: suite) hpos] [] [] pos) (tTry E C tb th) := by
  intro pins s σ H D I h
  obtain ⟨h1, h2⟩ := h
  refine wpAny_Try_except (wpAny_mono (hb pins [] s σ H D (I.inTry E) h1) (fun f s1 q => ?_) fun e s1 q => ?_)
  · cases f with
    | next => exact wpAny_execs_nil (SP.outTry (f := .next) q)
    | brk => exact SP.outTry (f := .brk) q
    | cont => exact SP.outTry (f := .cont) q
    | ret u => exact SP.outTry (f := .ret u) q
  · obtain ⟨σ0, H0, s0, I0, a, cls, H', rfl, os, bare, un, ok, fl, q⟩ := q
    obtain ⟨ec, qh⟩ := h2 σ0 cls H' q
    subst ec
    have J := I0.call' (ch := []) os un ok bare fun b z => nomatch z
    have ff := J.stack
    obtain ⟨T, a0, z, fw⟩ := fl.flying ff
    have fr : X.A.frames = some (X.env :: X.outer) := by rw [← hs.1]; exact J.ok.frames
    rw [hs.1] at fw
    obtain ⟨nm, qn, N, bs, bm, sn, sub, ab, col, dd, k0, k1, k2, k3, k5, hK, m⟩ := c.ob
    refine wpAny_looks_onW fr hs.2 fw fun h1 held up1 => ?_
    refine wpAny_landsW held fun h2 fw2 up2 => ?_
    have st : ∀ (h' : Heap), Heap.FlyingW (PySem.W.hideAll s1.heap (a :: ([T] ++ frs (X.env :: X.outer)))) (X.env :: X.outer) a (.ref C) a0 h' → s1.heap.UpToSlots h' → Inv X pins σ0 H' { s1 with heap := h' } := fun h' fw' up' => by
      obtain ⟨u, ok', _⟩ := station (l := X.env :: X.outer) un ok (by rw [← hs.1]; exact ff) (fun b hb => by rw [← hs.1] at hb; exact ⟨.inl hb, J.stkFree b hb⟩) fl.1 (ts := [T]) (fun b hb => by rw [List.mem_singleton.mp hb]; exact z) fw' up'
      exact I0.call' (ch := []) (s' := { s1 with heap := h' }) os u ok' bare fun b z => nomatch z
    have J2 := st h2 fw2 (up1.trans up2)
    refine wpAny_handleBy_cons (codeAny_handlers_test ?_) (by intro q; cases q)
    refine ld_glob (X := X.caught (.ref a)) (J2.caught _) hg hm ?_ hdb
    obtain ⟨oe, he, hcls⟩ := fw2.there
    refine wpAny_excMatches_sub_self (J2.kIn _ _ hK) he hcls (m.has (by decide)) ?_
    show codeAny _ _ _ _ _
    refine codeAny_handlers_suite (lands_againW fw2 fun h3 fw3 up3 => ?_)
    have J3 := st h3 fw3 ((up1.trans up2).trans up3)
    exact wpAny_mono (hh (.ref a) pins _ σ0 H' D (J3.caught _) qh) (fun f s' r => SP.uncaught I.ok.hd r) fun _ _ z => False.elim z
end

/-! ### a def (or method) of the text whose defaults are any -/
structure FunD (K : PySem.W.Frag) (x qual : Str) (st : Stmt) (f : Addr) (fd : FuncData) : Prop where
  ex : ∃ (oc : Value) (od : Option Addr) (dV kV doc pm : Value) (an : Option Addr) (cdv ct : Value) (osl : Array (Option Value)),
    fd = PySem.W.fnOf x qual (defArgs st) (defBody st) (defScope st) dV kV doc pm an cdv ct ∧ K.lookup f = some ⟨oc, od, .func fd, osl⟩ ∧ PySem.W.codeIn K cdv qual = true
  kp : PySem.W.keepIn K (.ref f) = true
section
variable {P : Program} {w : World} {K : PySem.W.Frag} {mg : Str → Option Value} {base : Heap} {CX : CXT}
theorem Fun.d {x qual : Str} {st : Stmt} {f : Addr} {fd : FuncData} (F : Fun K x qual st f fd) : FunD K x qual st f fd := by
  obtain ⟨oc, od, kV, doc, pm, an, cdv, ct, osl, h⟩ := F.ex
  exact ⟨⟨oc, od, .none, kV, doc, pm, an, cdv, ct, osl, h⟩, F.kp⟩
theorem FunD.ok {x qual : Str} {st : Stmt} {f : Addr} {fd : FuncData} {N ps : List Str} {k : Nat} {sp : Sp} (F : FunD K x qual st f fd) (S : FnScope N ps (defScope st)) (len : ∀ vs H Q E, sp vs H Q E → vs.length = ps.length)
    (hbody : ∀ (cdv : Value) (A : Around) (outer : List Env) (s : Shared) (H : Hp) (vs : List V) (Q : VK) (E : XK), Room k (A.deeper (envOfC qual (defScope st) s.heap.objs.size f cdv)) → sp vs H Q E →
      ∃ t, PSs (cxOf CX0 P w K mg base N qual (defScope st) f cdv A outer s H E).nox (defBody st) t ∧ t { nx := fun _ H' => Q .non H', rt := Q } (start N vs) H) : FnOk P w K mg base CX0 (k + 1) f fd ps sp := by
  obtain ⟨oc, od, dV, kV, doc, pm, an, cdv, ct, osl, rfl, lk, hcd⟩ := F.ex
  refine fn_of lk hcd S len fun A outer s H vs Q E hr hsp => ?_
  obtain ⟨t, h, q⟩ := hbody cdv A outer s H vs Q E hr hsp
  exact ⟨t, h.nox, q⟩
theorem FunD.okE {x qual : Str} {st : Stmt} {f : Addr} {fd : FuncData} {N ps : List Str} {k : Nat} {sp : Sp} (F : FunD K x qual st f fd) (S : FnScope N ps (defScope st)) (len : ∀ vs H Q E, sp vs H Q E → vs.length = ps.length)
    (hbody : ∀ (cdv : Value) (A : Around) (outer : List Env) (s : Shared) (H : Hp) (vs : List V) (Q : VK) (E : XK), Room k (A.deeper (envOfC qual (defScope st) s.heap.objs.size f cdv)) → sp vs H Q E →
      ∃ t, PSs (cxOf (CXE P w) P w K mg base N qual (defScope st) f cdv A outer s H E) (defBody st) t ∧ t { nx := fun _ H' => Q .non H', rt := Q } (start N vs) H) : FnOk P w K mg base (CXE P w) (k + 1) f fd ps sp := by
  obtain ⟨oc, od, dV, kV, doc, pm, an, cdv, ct, osl, rfl, lk, hcd⟩ := F.ex
  refine fn_of lk hcd S len fun A outer s H vs Q E hr hsp => ?_
  obtain ⟨t, h, q⟩ := hbody cdv A outer s H vs Q E hr hsp
  exact ⟨t, h, q⟩
theorem FunD.binds {x qual : Str} {st : Stmt} {f : Addr} {fd : FuncData} {ps : List Str} (F : FunD K x qual st f fd)
    (h : ∀ (dV kV doc pm : Value) (an : Option Addr) (cdv ct : Value) (us : List Value), us.length = ps.length → bindArgs (PySem.W.fnOf x qual (defArgs st) (defBody st) (defScope st) dV kV doc pm an cdv ct) ⟨us, []⟩ = pure (ps.zip us)) : Binds K fd ps [] := by
  obtain ⟨oc, od, dV, kV, doc, pm, an, cdv, ct, osl, rfl, lk, hcd⟩ := F.ex
  exact .all (h dV kV doc pm an cdv ct)
theorem fund_mk {x qual : Str} {st : Stmt} {f : Addr} {oc : Value} {od an : Option Addr} {osl : Array (Option Value)} {dV kV doc pm cdv ct : Value} (l : K.lookup f = some ⟨oc, od, .func (PySem.W.fnOf x qual (defArgs st) (defBody st) (defScope st) dV kV doc pm an cdv ct), osl⟩)
    (c : PySem.W.codeIn K cdv qual = true) (k : PySem.W.keepIn K (.ref f) = true) : FunD K x qual st f (PySem.W.fnOf x qual (defArgs st) (defBody st) (defScope st) dV kV doc pm an cdv ct) := ⟨⟨oc, od, dV, kV, doc, pm, an, cdv, ct, osl, rfl, l, c⟩, k⟩
/-- no exception comes -/
abbrev EN : XK := fun _ _ _ => False
theorem passesN {X : Cx} : Passes (CXE X.prog X.w) X EN := fun _ _ _ _ _ _ _ ⟨_, _, _, _, _, _, _, _, _, z⟩ => z.elim
end
end L2
namespace L2
open PySem PySem.Spec PyProof.Rows
/-! ### within try: readings that name K itself -/
theorem call_list_ofK {X : Cx} (K : PySem.W.Frag) (h : X.K = K) : CallR X (.type "list") (fun xs H Q => ∃ p ys, xs = [.ref p] ∧ (SqL K H p ys ∨ SqT K H p ys) ∧ ∀ l, H l = none → Q (.ref l) (upd H l (.lst ys))) := by
  subst h; exact call_list_of
end L2

/-! EXCEPTIONS, 6: loops in a def that raises; a list against the empty list -/
namespace L2
open PySem PySem.Spec PyProof.Rows
theorem passes_own_fn {P : Program} {w : World} {K : PySem.W.Frag} {mg : Str → Option Value} {base : Heap} {N : List Str} {qual : Str} {scope : Scope} {f : Addr} {cd : Value} {A : Around} {outer : List Env} {s : Shared} {H : Hp} {E : XK} :
    PassesOwn (model (cxOf (CXE P w) P w K mg base N qual scope f cd A outer s H E).prog (cxOf (CXE P w) P w K mg base N qual scope f cd A outer s H E).w) (cxOf (CXE P w) P w K mg base N qual scope f cd A outer s H E).A (cxOf (CXE P w) P w K mg base N qual scope f cd A outer s H E).env (cxOf (CXE P w) P w K mg base N qual scope f cd A outer s H E).xe :=
  PassesOwn.leaving
def rNeE (K : PySem.W.Frag) : R2 := fun x y H Q => ∃ a b xs, x = .ref a ∧ y = .ref b ∧ SqL K H a xs ∧ SqL K H b [] ∧ Q (.bl (!xs.isEmpty)) H
theorem op_neE {X : Cx} (hu : X.A.units < cLine) : OpR X (compareOp .NotEq) (rNeE X.K) := by
  intro pins s σ H x y v u Q I rx ry h
  obtain ⟨a, b, xs, rfl, rfl, ha, hb, q⟩ := h
  cases rx
  cases ry
  obtain ⟨its, r, ⟨o1, n1, g1, g2, _, g3⟩, hz⟩ := I.list ha
  obtain ⟨its2, r2, ⟨o2, n2, g4, g5, _, g6⟩, hz2⟩ := I.list hb
  have ht : s.heap.IsList a its.toArray := ⟨o1, g1, g2, n1, g3⟩
  have ht2 : s.heap.IsList b its2.toArray := ⟨o2, g4, g5, n2, g6⟩
  obtain rfl : its2 = [] := by cases r2; rfl
  cases xs with
  | nil =>
    obtain rfl : its = [] := by cases r; rfl
    exact (PySem.SeqAt.RcNeAt.lists (e := fun _ => true) ht ht2 rfl hu (fun i hi => absurd hi (by simp))) _ _ _ _ ⟨.bl false, H, I, rfl, q⟩
  | cons x xs =>
    have hl := r.length
    refine (PySem.SeqAt.RcNeAt.lists_lengths ht ht2 ?_ hu) _ _ _ _ ⟨.bl true, H, I, rfl, q⟩
    simp only [List.size_toArray, List.length_nil, ← hl, List.length_cons]
    simp
end L2

/-! EXCEPTIONS, 7: try whose handler knows the names' values; the class named by except may be a base -/
namespace L2
open PySem PySem.Spec PyProof.Rows
def Cx.inTryS (X : Cx) (pins : List (Addr × Obj)) (Ex : St → XK) : Cx := { X with pn := X.pn ++ pins, xe := fun e s1 => ∃ σ H s, Inv X pins σ H s ∧ CXE X.prog X.w X.stack H s (Ex σ) e s1 }
/-- an exception of a callee, the names' values known -/
def PassesS (CX : CXT) (X : Cx) (Ex : St → XK) : Prop := ∀ (pins : List (Addr × Obj)) (σ : St) (H : Hp) (s : Shared) (e : Value) (s' : Shared), Inv X pins σ H s → CX X.stack H s (Ex σ) e s' → X.xe e s'
def tCallS (sp : Sp) (dvs : List V) (Ex : St → XK) (t : TA) : TE := fun σ H Q => t σ H fun vs H1 => sp (vs ++ dvs) H1 Q (Ex σ)
def tMakeS (C : Addr) (sp : Sp) (dvs : List V) (Ex : St → XK) (t : TA) : TE := fun σ H Q => t σ H fun vs H1 => ∀ x dx, H1 x = none → H1 dx = none → dx ≠ x →
  sp (.ref x :: (vs ++ dvs)) (upd (upd H1 dx (.own x)) x (.ins C dx [])) (fun v H2 => v = .non ∧ Q (.ref x) H2) (Ex σ)
section
variable {X : Cx} {pins pins' : List (Addr × Obj)} {σ : St} {H : Hp} {s : Shared} {Ex : St → XK} {D : Ends} {fl : Flow}
theorem Inv.inTryS (I : Inv X pins σ H s) (Ex : St → XK) : Inv (X.inTryS pins Ex) [] σ H s :=
  let ok := I.ok
  ⟨⟨ok.mod, ok.kind, ok.glob, ok.blt, ok.above, ok.inj, ok.has, ok.cab, ok.hd, ok.frames, ok.stk, ok.exf, ok.bs, ok.bsz, ok.noex, ok.exfs, ok.funs, ok.frf⟩, I.os, I.bare, I.base, I.loc, I.cell, I.free, I.freeC, fun p hp => I.pin p (by
    rw [List.append_nil] at hp; exact hp), I.hok, I.len⟩
theorem Inv.outTryS (I : Inv (X.inTryS pins Ex) pins' σ H s) : Inv X pins σ H s :=
  let ok := I.ok
  ⟨⟨ok.mod, ok.kind, ok.glob, ok.blt, ok.above, ok.inj, ok.has, ok.cab, ok.hd, ok.frames, ok.stk, ok.exf, ok.bs, ok.bsz, ok.noex, ok.exfs, ok.funs, ok.frf⟩, I.os, I.bare, I.base, I.loc, I.cell, I.free, I.freeC, fun p hp => I.pin p (List.mem_append_left _ hp), I.hok, I.len⟩
theorem SP.outTryS (h : SP (X.inTryS pins Ex) pins' D fl s) : SP X pins D fl s := by
  cases fl with
  | next => obtain ⟨σ', H', I, q⟩ := h; exact ⟨σ', H', I.outTryS, q⟩
  | brk => obtain ⟨σ', H', I, q⟩ := h; exact ⟨σ', H', I.outTryS, q⟩
  | cont => obtain ⟨σ', H', I, q⟩ := h; exact ⟨σ', H', I.outTryS, q⟩
  | ret u => obtain ⟨v, σ', H', I, r, q⟩ := h; exact ⟨v, σ', H', I.outTryS, r, q⟩
theorem passes_tryS : PassesS (CXE X.prog X.w) (X.inTryS pins Ex) Ex := fun pins' σ H s e s' I q => ⟨σ, H, s, I.outTryS, q⟩
end
section
variable {X : Cx} {CX : CXT} {k : Nat} {f C : Addr} {fd : FuncData} {ps : List Str} {sp : Sp} {dvs : List V} {ds : List Value} {Ex : St → XK} {x m : Str} {p pos apos : Pos} {e o : Expr} {es : List Expr} {ta : TE} {t : TA}
/-- a promise that passes at one state of the names passes as the layer asks, the wish kept to that state -/
theorem pe_callS (F : FnOk X.prog X.w X.K X.mg X.base CX k f fd ps sp) (hr : Room k X.A) (hg : Gl X x) (hm : X.mg x = some (.ref f)) (hk : PySem.W.keepIn X.K (.ref f) = true) (hb : Binds X.K fd ps ds) (hd : Vals dvs ds) (hx : PassesS CX X Ex)
    (ha : PA X (e :: es) t) (hdb : (x == ("__debug__" : Str)) = false := by decide) (he : starEach (e :: es) X.env = (false, eval e X.env) :: starEach es X.env := by rfl) (hpl : (backTo pos (starEach es X.env)).any (·.1) = false := by rfl) :
    PE X (.Call (.Name x p) (e :: es) [] pos) (tCallS sp dvs Ex t) := by
  intro pins s σ H Q I h
  refine wpAny_Call_Name_kw (ld_glob I hg hm ?_ hdb)
  refine PySem.W.callWith_K (h₀ := X.base) I.ok.mod.kin hk (thn (ha pos pins s σ H _ I h) fun us s1 ⟨vs, H1, I1, r, q⟩ => ⟨I1.kIn, ?_⟩) he hpl
  have r2 : Vals (vs ++ dvs) (us ++ ds) := r.append hd
  have hl : (us ++ ds).length = ps.length := by rw [← r2.length]; exact F.len _ _ _ _ q
  refine wpAny_call (codeAny_mono (F.run X.A X.stack s1 H1 ⟨us, []⟩ (us ++ ds) (vs ++ dvs) Q (Ex σ) hr I1.env0 (hb s1 us I1.kIn hl) r2 q) fun r s' hq => ?_)
  cases r with
  | error e => exact hx pins σ H1 s1 e s' I1 hq
  | ok fl =>
    cases fl with
    | ret u => exact I1.after hq
    | next => exact False.elim hq
    | brk => exact False.elim hq
    | cont => exact False.elim hq
end
section
variable {X : Cx} {D : Addr} {Ex : St → XK} {x : Str} {p pos hpos : Pos} {body suite : List Stmt} {b₀ : Stmt} {tb th : TS}
/-- try: body except D: suite; the exception's class is D or under it -/
def tTryS (K : PySem.W.Frag) (Ex : St → XK) (D : Addr) (tb th : TS) : TS := fun D' σ H => tb D' σ H ∧ ∀ σ' cls H', Ex σ' cls none H' → PySem.W.exmOne K cls (.ref D) = some true ∧ th D' σ' H'
theorem ps_tryS (hs : X.stack = X.env :: X.outer ∧ X.env.frame = some X.env.locals) (hg : Gl X x) (hm : X.mg x = some (.ref D)) (hb : ∀ pins, PSs (X.inTryS pins Ex) body tb) (hh : ∀ e, PSs (X.caught e) (b₀ :: suite) th)
    (hdb : (x == ("__debug__" : Str)) = false := by decide) :
    PS X (.Try body [.ExceptHandler (some (.Name x p)) none (b₀ :: suite) hpos] [] [] pos) (tTryS X.K Ex D tb th) := by
  intro pins s σ H D' I h
  obtain ⟨h1, h2⟩ := h
  refine wpAny_Try_except (wpAny_mono (hb pins [] s σ H D' (I.inTryS Ex) h1) (fun f s1 q => ?_) fun e s1 q => ?_)
  · cases f with
    | next => exact wpAny_execs_nil (SP.outTryS (fl := .next) q)
    | brk => exact SP.outTryS (fl := .brk) q
    | cont => exact SP.outTryS (fl := .cont) q
    | ret u => exact SP.outTryS (fl := .ret u) q
  · obtain ⟨σ0, H0, s0, I0, a, cls, H', rfl, os, bare, un, ok, fl, q⟩ := q
    obtain ⟨ec, qh⟩ := h2 σ0 cls H' q
    have J := I0.call' (ch := []) os un ok bare fun b z => nomatch z
    have ff := J.stack
    obtain ⟨T, a0, z, fw⟩ := fl.flying ff
    have fr : X.A.frames = some (X.env :: X.outer) := by rw [← hs.1]; exact J.ok.frames
    rw [hs.1] at fw
    refine wpAny_looks_onW fr hs.2 fw fun h1 held up1 => ?_
    refine wpAny_landsW held fun h2 fw2 up2 => ?_
    have st : ∀ (h' : Heap), Heap.FlyingW (PySem.W.hideAll s1.heap (a :: ([T] ++ frs (X.env :: X.outer)))) (X.env :: X.outer) a cls a0 h' → s1.heap.UpToSlots h' → Inv X pins σ0 H' { s1 with heap := h' } := fun h' fw' up' => by
      obtain ⟨u, ok', _⟩ := station (l := X.env :: X.outer) un ok (by rw [← hs.1]; exact ff) (fun b hb => by rw [← hs.1] at hb; exact ⟨.inl hb, J.stkFree b hb⟩) fl.1 (ts := [T]) (fun b hb => by rw [List.mem_singleton.mp hb]; exact z) fw' up'
      exact I0.call' (ch := []) (s' := { s1 with heap := h' }) os u ok' bare fun b z => nomatch z
    have J2 := st h2 fw2 (up1.trans up2)
    refine wpAny_handleBy_cons (codeAny_handlers_test ?_) (by intro q; cases q)
    refine ld_glob (X := X.caught (.ref a)) (J2.caught _) hg hm ?_ hdb
    obtain ⟨oe, he, hcls⟩ := fw2.there
    have LT : PySem.W.Looks (model X.prog X.w) h2 (typeOf (.ref a)) cls := by
      subst hcls
      exact (PySem.W.Looks.ld he).andThen .now
    refine (PySem.W.exm_one J2.kIn LT ec) _ _ _ _ (fun _ _ e => e) ?_
    show codeAny _ _ _ _ _
    refine codeAny_handlers_suite (lands_againW fw2 fun h3 fw3 up3 => ?_)
    have J3 := st h3 fw3 ((up1.trans up2).trans up3)
    exact wpAny_mono (hh (.ref a) pins _ σ0 H' D' (J3.caught _) qh) (fun f s' r => SP.uncaught I.ok.hd r) fun _ _ z => False.elim z
end
end L2

/-! EXCEPTIONS, 8: except D as n -/
namespace L2
open PySem PySem.Spec PyProof.Rows
/-- an exception that has landed: its class -/
def LandO (cls : Value) (a : Addr) : HO := .ext fun h => ∃ oe, h.get? a = some oe ∧ oe.cls = cls
theorem landO_ok {P : Program} {w : World} {H : Hp} {h : Heap} {a : Addr} {cls : Value} {oe : Obj} (e : h.get? a = some oe) (hc : oe.cls = cls) : ObjOk P w H h a (LandO cls a) := ⟨⟨oe, e, hc⟩, ⟨_, e⟩, fun h1 h2 ⟨t, e1, c1⟩ k => ⟨t, k _ e1, c1⟩⟩
section
variable {X : Cx} {pins : List (Addr × Obj)} {σ : St} {H : Hp} {s : Shared}
/-- the name of an except clause goes -/
theorem goes_ok {M : Model} {A : Around} {E : Value → Shared → Prop} {i : Nat} {x : Str} {pos : Pos} {Q : Unit → Shared → Prop} (I : Inv X pins σ H s) (hN : X.N.Nodup) (hi : X.N[i]? = some x) (hk : X.env.scope.names.lookup x = some .local)
    (h : ∀ s', Inv X pins (σ.set i none) H s' → Q () s') : wpAny M A (do bindName X.env x .none; unbindBehindTheSuite X.env x pos) Q E s := by
  obtain ⟨m, hn, hl⟩ := id I.loc
  have hcls : (X.env.scope.kind == .class || (X.env.scope.kind == .module && X.env.locals != X.env.globals)) = false := by rw [I.ok.kind]; rfl
  have hiσ : i < σ.length := by rw [I.len]; exact (List.getElem?_eq_some_iff.mp hi).1
  have cne := I.cne
  refine wpAny_nameGoes_keeps hk hn hcls fun h' v hn' hs => ?_
  refine h _ ⟨I.ok, I.os, I.bare, ⟨fun b o e n hb hx => ?_, fun b o e n hb hx => ?_, I.base.free, fun b o e hx => ?_, I.base.tups, I.base.frzs, I.base.tbls⟩, ⟨_, hn', fun j y v' e1 e2 e3 => ?_⟩, fun y c e => ?_, I.free, I.freeC, fun p hp => ?_, fun b ob e => ?_, by simpa using I.len⟩
  · exact (hs.2 b (Nat.ne_of_lt (Nat.lt_of_lt_of_le (Heap.lt_size e) I.ok.above))).trans (I.base.keep b o e n hb hx)
  · obtain ⟨sl, e1⟩ := I.base.slot b o e n hb hx
    exact ⟨sl, (hs.2 b (Nat.ne_of_lt (Nat.lt_of_lt_of_le (Heap.lt_size e) I.ok.above))).trans e1⟩
  · obtain ⟨o', e1⟩ := I.base.there b o e hx
    exact ⟨o', (hs.2 b (Nat.ne_of_lt (Nat.lt_of_lt_of_le (Heap.lt_size e) I.ok.above))).trans e1⟩
  · by_cases hj : j = i
    · subst hj
      rw [List.getElem?_set_self hiσ] at e2
      cases e2
    · rw [List.getElem?_set_ne (Ne.symm hj)] at e2
      obtain ⟨u', r', q⟩ := hl j y v' e1 e2 e3
      refine ⟨u', r', ?_⟩
      rcases q with ⟨k, e⟩ | ⟨k, c, e, z⟩
      · refine .inl ⟨k, ?_⟩
        have : y ≠ x := fun e => hj (nodup_ix hN e1 (e ▸ hi))
        simp [this, e]
      · exact .inr ⟨k, c, e, z.sameBut hs (cne y c e)⟩
  · obtain ⟨w', z⟩ := I.cell y c e
    exact ⟨w', z.sameBut hs (cne y c e)⟩
  · obtain ⟨e, n, ne, nf, d⟩ := I.pin p hp
    exact ⟨(hs.2 p.1 ne).trans e, n, ne, nf, d⟩
  · refine (I.hok b ob e).stay (fun c w' hc q => (hs.2 c ?_).trans q) (fun _ q => q) fun _ _ q => q
    rintro rfl
    rcases hc with rfl | hc
    · rw [I.free] at e; cases e
    · rw [I.free] at hc; cases hc
end
section
variable {X : Cx} {D : Addr} {Ex : St → XK} {x n : Str} {i : Nat} {p pos hpos : Pos} {body suite : List Stmt} {b₀ : Stmt} {tb th : TS}
/-- the ends of a suite whose name goes -/
def Ends.forget (D : Ends) (i : Nat) : Ends := { nx := fun σ H => D.nx (σ.set i none) H, rt := D.rt, bk := fun σ H => D.bk (σ.set i none) H, ct := fun σ H => D.ct (σ.set i none) H }
def tTryAs (K : PySem.W.Frag) (Ex : St → XK) (D : Addr) (i : Nat) (tb th : TS) : TS := fun D' σ H => tb D' σ H ∧ ∀ σ' cls H' a, Ex σ' cls none H' → H' a = none → PySem.W.exmOne K cls (.ref D) = some true ∧ th (D'.forget i) (σ'.set i (some (.ref a))) (upd H' a (LandO cls a))
theorem ps_tryAs (hs : X.stack = X.env :: X.outer ∧ X.env.frame = some X.env.locals) (hg : Gl X x) (hm : X.mg x = some (.ref D)) (hN : X.N.Nodup) (hi : X.N[i]? = some n) (hk : X.env.scope.names.lookup n = some .local) (hb : ∀ pins, PSs (X.inTryS pins Ex) body tb) (hh : ∀ e, PSs (X.caught e) (b₀ :: suite) th)
    (hdb : (x == ("__debug__" : Str)) = false := by decide) :
    PS X (.Try body [.ExceptHandler (some (.Name x p)) (some n) (b₀ :: suite) hpos] [] [] pos) (tTryAs X.K Ex D i tb th) := by
  intro pins s σ H D' I h
  obtain ⟨h1, h2⟩ := h
  refine wpAny_Try_except (wpAny_mono (hb pins [] s σ H D' (I.inTryS Ex) h1) (fun f s1 q => ?_) fun e s1 q => ?_)
  · cases f with
    | next => exact wpAny_execs_nil (SP.outTryS (fl := .next) q)
    | brk => exact SP.outTryS (fl := .brk) q
    | cont => exact SP.outTryS (fl := .cont) q
    | ret u => exact SP.outTryS (fl := .ret u) q
  · obtain ⟨σ0, H0, s0, I0, a, cls, H', rfl, os, bare, un, ok, fl, q⟩ := q
    obtain ⟨ec, qh⟩ := h2 σ0 cls H' a q fl.1.1
    have J := I0.call' (ch := []) os un ok bare fun b z => nomatch z
    have ff := J.stack
    have ha0 := fl.1
    obtain ⟨T, a0, z, fw⟩ := fl.flying ff
    have fr : X.A.frames = some (X.env :: X.outer) := by rw [← hs.1]; exact J.ok.frames
    rw [hs.1] at fw
    refine wpAny_looks_onW fr hs.2 fw fun h1 held up1 => ?_
    refine wpAny_landsW held fun h2 fw2 up2 => ?_
    have st0 : ∀ (h' : Heap), Heap.FlyingW (PySem.W.hideAll s1.heap (a :: ([T] ++ frs (X.env :: X.outer)))) (X.env :: X.outer) a cls a0 h' → s1.heap.UpToSlots h' → Un (frs X.stack) [] H0 H' s0.heap h' ∧ HOk X.prog X.w H' h' := fun h' fw' up' => by
      obtain ⟨u, ok', _⟩ := station (l := X.env :: X.outer) un ok (by rw [← hs.1]; exact ff) (fun b hb => by rw [← hs.1] at hb; exact ⟨.inl hb, J.stkFree b hb⟩) fl.1 (ts := [T]) (fun b hb => by rw [List.mem_singleton.mp hb]; exact z) fw' up'
      exact ⟨u, ok'⟩
    have st : ∀ (h' : Heap), Heap.FlyingW (PySem.W.hideAll s1.heap (a :: ([T] ++ frs (X.env :: X.outer)))) (X.env :: X.outer) a cls a0 h' → s1.heap.UpToSlots h' → Inv X pins σ0 H' { s1 with heap := h' } := fun h' fw' up' =>
      I0.call' (ch := []) (s' := { s1 with heap := h' }) os (st0 h' fw' up').1 (st0 h' fw' up').2 bare fun b z => nomatch z
    have J2 := st h2 fw2 (up1.trans up2)
    refine wpAny_handleBy_cons (codeAny_handlers_test ?_) (by intro q; cases q)
    refine ld_glob (X := X.caught (.ref a)) (J2.caught _) hg hm ?_ hdb
    obtain ⟨oe, he, hcls⟩ := fw2.there
    have LT : PySem.W.Looks (model X.prog X.w) h2 (typeOf (.ref a)) cls := by
      subst hcls
      exact (PySem.W.Looks.ld he).andThen .now
    refine (PySem.W.exm_one J2.kIn LT ec) _ _ _ _ (fun _ _ e => e) ?_
    show codeAny _ _ _ _ _
    refine codeAny_handlers_suite_as (lands_againW fw2 fun h3 fw3 up3 => ?_)
    obtain ⟨u3, ok3⟩ := st0 h3 fw3 ((up1.trans up2).trans up3)
    obtain ⟨oe3, he3, hc3⟩ := fw3.there
    have nea : ∀ b u, H' b = some u → b ≠ a := fun b u e w => by rw [w, ha0.1] at e; cases e
    have J3 : Inv X pins σ0 (upd H' a (LandO cls a)) { s1 with heap := h3 } := by
      refine I0.call' (ch := []) (s' := { s1 with heap := h3 }) os ⟨u3.keep, u3.slot, fun b o e n hx => ?_, u3.there, fun b xs e => ?_, fun b o u e => ?_, fun b ps e => ?_⟩ (fun b o e => ?_) bare fun b z => nomatch z
      · rw [upd_ne (fun w => by rw [w, ha0.2] at e; cases e)]; exact u3.free b o e n hx
      · rw [upd_ne (nea b _ (u3.tups b xs e))]; exact u3.tups b xs e
      · rw [upd_ne (nea b _ (u3.frzs b o u e))]; exact u3.frzs b o u e
      · obtain ⟨more, e1⟩ := u3.tbls b ps e
        exact ⟨more, by rw [upd_ne (nea b _ e1)]; exact e1⟩
      · by_cases hb : b = a
        · subst hb
          rw [upd_same] at e; cases e
          exact landO_ok he3 hc3
        · rw [upd_ne hb] at e
          exact (ok3 b o e).stay (fun _ _ _ q => q) (fun c q => by rw [upd_ne (nea c _ q)]; exact q) fun c xs q => by rw [upd_ne (nea c _ q)]; exact q
    refine store_ok (X := X.caught (.ref a)) (v := .ref a) (J3.caught _) hN hi (.inl hk) rfl (fun s4 J4 => ?_) (.inr hk)
    refine wpAny_mono (hh (.ref a) pins s4 _ _ (D'.forget i) J4 qh) (fun f s' r => ?_) fun _ _ z => False.elim z
    have r := SP.uncaught I.ok.hd r
    cases f with
    | next => obtain ⟨σ', H'', I', q'⟩ := r; exact goes_ok I' hN hi hk fun s5 J5 => ⟨_, _, J5, q'⟩
    | brk => obtain ⟨σ', H'', I', q'⟩ := r; exact goes_ok I' hN hi hk fun s5 J5 => ⟨_, _, J5, q'⟩
    | cont => obtain ⟨σ', H'', I', q'⟩ := r; exact goes_ok I' hN hi hk fun s5 J5 => ⟨_, _, J5, q'⟩
    | ret u => obtain ⟨v, σ', H'', I', rr, q'⟩ := r; exact goes_ok I' hN hi hk fun s5 J5 => ⟨v, _, _, J5, rr, q'⟩
end
end L2
namespace L2
open PySem PySem.Spec PyProof.Rows
/-- from what k_is finds: an exception of class C is caught by the name of D -/
theorem exm_of {K : PySem.W.Frag} {c : Value} {D : Addr} {b : Bool} (h1 : PySem.W.subIn K (.ref D) (.type "BaseException") = some true) (h2 : (PySem.W.clsIn K D).isSome = true) (h3 : PySem.W.typeIn K (.ref D) = some (.type "type")) (h4 : PySem.W.subIn K c (.ref D) = some b) :
    PySem.W.exmOne K c (.ref D) = some b := by
  unfold PySem.W.exmOne PySem.W.kitCls
  simp [h1, h2, h3, h4]
theorem kit_of {K : PySem.W.Frag} {c : Value} {D : Addr} {b : Bool} (hne : (c == .ref D) = false) (h2 : (PySem.W.clsIn K D).isSome = true) (h3 : PySem.W.typeIn K (.ref D) = some (.type "type")) (h4 : PySem.W.subIn K c (.ref D) = some b) :
    PySem.W.kitOne K c (.ref D) = some b := by
  unfold PySem.W.kitOne PySem.W.kitCls
  rw [hne]
  simp [h2, h3, h4]
end L2

namespace L2
open PySem PySem.Spec PyProof.Rows
section
variable {X : Cx}
/-- t + u, any two tuples of the data -/
def rCatU : R2 := fun x y H Q => ∃ a b xs ys, x = .ref a ∧ y = .ref b ∧ H a = some (.tup xs) ∧ H b = some (.tup ys) ∧ xs.length + ys.length ≤ sizeLine ∧ ∀ p H', Same H H' → H' p = some (.tup (xs ++ ys)) → Q (.ref p) H'
theorem op_catU : OpR X (binaryOp .Add) rCatU := by
  intro pins s σ H x y v u Q I rx ry h
  obtain ⟨a, b, xs, ys, rfl, rfl, ha, hb, hz, q⟩ := h
  by_cases hx : xs = []
  · subst hx
    cases rx
    cases ry
    obtain ⟨its, r1, p1, _⟩ := I.tuple (SqT.of ha)
    obtain ⟨its2, r2, p2, _⟩ := I.tuple (SqT.of hb)
    have e0 : its = [] := r1.nil_iff.mpr rfl
    subst e0
    obtain ⟨⟨cls, dd, data, sl⟩, ho, hc, n, hd⟩ := id p1
    obtain ⟨⟨cls2, dd2, data2, sl2⟩, ho2, hc2, n2, hd2⟩ := id p2
    simp only at hc hd hc2 hd2
    subst hc hd hc2 hd2
    exact concat_meets ⟨_, ho, rfl⟩ ⟨_, ho2, rfl⟩ noFill_tuple_add seq_tuple_add PySem.F.slot_tuple_add PySem.F.entry_tuple_add (PySem.F.args_tuple_add_2 _ _)
      (tuple_addW0 _ _ _ _ _ _ _ _ _ _ (by simp)) ⟨ho, ho2, .ref b, H, I, rfl, q b H (Same.refl _) hb⟩
  · refine op_catT pins s σ H _ _ v u Q I rx ry ⟨a, b, xs, ys, rfl, rfl, SqT.of ha, SqT.of hb, hx, hz, fun e => ?_, fun _ p hp => q p _ (Same.upd hp) upd_same⟩
    subst e
    exact q a H (Same.refl _) (by rw [List.append_nil]; exact ha)
end
end L2

namespace L2
open PySem PySem.Spec PyProof.Rows
/-- a comprehension by an invariant of its own -/
theorem comp_inv {J : It} {H1 : Hp} {D : Addr} {n : Nat} {x : Nat → V} {j : Nat} {σc : St} {tif : TT} {telt : TE} {Q : Hp → Prop} (Iv : Nat → Hp → Prop) (h0 : Iv 0 (upd H1 D (.lst [])))
    (go : ∀ i H', i < n → Iv i H' → J.go i H') (st : ∀ H', Iv n H' → J.stop n H') (yl : ∀ i v H' H2, i < n → Iv i H' → J.yld i H' v H2 → H2 = H' ∧ v = x i)
    (step : ∀ i H' (N : St → Hp → Prop), i < n → Iv i H' → (∀ H2, Iv (i + 1) H2 → N (σc.set j (some (x i))) H2) → tif (σc.set j (some (x i))) H' fun b H4 => if b = true then tEmit D telt N (σc.set j (some (x i))) H4 else N (σc.set j (some (x i))) H4)
    (q : ∀ H', Iv n H' → Q H') :
    ∃ W : Nat → Nat → St → Hp → Prop, (∃ m, W 0 m σc (upd H1 D (.lst []))) ∧
      ∀ i m σ' H', W i m σ' H' → (J.stop i H' ∧ Q H') ∨ (J.go i H' ∧ ∃ N : St → Hp → Prop, (∀ σ2 H2, N σ2 H2 → ∃ m', m' < m ∧ W (i + 1) m' σ2 H2) ∧
        ∀ v H2, J.yld i H' v H2 → gName j v σ' H2 fun σ3 H3 => tif σ3 H3 fun b H4 => if b = true then tEmit D telt N σ3 H4 else N σ3 H4) := by
  refine ⟨fun i m σ' H' => m = n - i ∧ i ≤ n ∧ (∀ v, σ'.set j (some v) = σc.set j (some v)) ∧ Iv i H', ⟨n, by simp, Nat.zero_le _, fun _ => rfl, h0⟩, ?_⟩
  rintro i m σ' H' ⟨rfl, hi, hσ, iv⟩
  by_cases hlt : i < n
  · refine .inr ⟨go i _ hlt iv, fun σ2 H2 => (∀ v, σ2.set j (some v) = σc.set j (some v)) ∧ Iv (i + 1) H2, fun σ2 H2 ⟨h1, h2⟩ => ⟨n - (i + 1), by omega, rfl, hlt, h1, h2⟩, fun v H2 y => ?_⟩
    obtain ⟨rfl, rfl⟩ := yl i v _ H2 hlt iv y
    dsimp only [gName]
    rw [hσ]
    exact step i _ _ hlt iv fun H2 h2 => ⟨fun v => by simp, h2⟩
  · have e : i = n := by omega
    subst e
    exact .inl ⟨st _ iv, q _ iv⟩
theorem comp_rangeI {H1 : Hp} {D : Addr} {lo : Int} {n : Nat} {j : Nat} {σc : St} {tif : TT} {telt : TE} {Q : Hp → Prop} (Iv : Nat → Hp → Prop) (h0 : Iv 0 (upd H1 D (.lst [])))
    (step : ∀ i H' (N : St → Hp → Prop), i < n → Iv i H' → (∀ H2, Iv (i + 1) H2 → N (σc.set j (some (.int (lo + i)))) H2) → tif (σc.set j (some (.int (lo + i)))) H' fun b H4 => if b = true then tEmit D telt N (σc.set j (some (.int (lo + i)))) H4 else N (σc.set j (some (.int (lo + i)))) H4)
    (q : ∀ H', Iv n H' → Q H') :
    ∃ W : Nat → Nat → St → Hp → Prop, (∃ m, W 0 m σc (upd H1 D (.lst []))) ∧
      ∀ i m σ' H', W i m σ' H' → ((Itr lo n).stop i H' ∧ Q H') ∨ ((Itr lo n).go i H' ∧ ∃ N : St → Hp → Prop, (∀ σ2 H2, N σ2 H2 → ∃ m', m' < m ∧ W (i + 1) m' σ2 H2) ∧
        ∀ v H2, (Itr lo n).yld i H' v H2 → gName j v σ' H2 fun σ3 H3 => tif σ3 H3 fun b H4 => if b = true then tEmit D telt N σ3 H4 else N σ3 H4) :=
  comp_inv (J := Itr lo n) (x := fun i => .int (lo + i)) Iv h0 (fun i H' hi _ => hi) (fun H' _ => Nat.le_refl _) (fun i v H' H2 hi _ y => y) step q
theorem comp_listI {K : PySem.W.Frag} {H1 : Hp} {D a : Addr} {xs : List V} {j : Nat} {σc : St} {tif : TT} {telt : TE} {Q : Hp → Prop} (Iv : Nat → Hp → Prop) (h0 : Iv 0 (upd H1 D (.lst [])))
    (hs : ∀ i H', Iv i H' → SqL K H' a xs)
    (step : ∀ i x H' (N : St → Hp → Prop), xs[i]? = some x → Iv i H' → (∀ H2, Iv (i + 1) H2 → N (σc.set j (some x)) H2) → tif (σc.set j (some x)) H' fun b H4 => if b = true then tEmit D telt N (σc.set j (some x)) H4 else N (σc.set j (some x)) H4)
    (q : ∀ H', Iv xs.length H' → Q H') :
    ∃ W : Nat → Nat → St → Hp → Prop, (∃ m, W 0 m σc (upd H1 D (.lst []))) ∧
      ∀ i m σ' H', W i m σ' H' → ((Itl K a).stop i H' ∧ Q H') ∨ ((Itl K a).go i H' ∧ ∃ N : St → Hp → Prop, (∀ σ2 H2, N σ2 H2 → ∃ m', m' < m ∧ W (i + 1) m' σ2 H2) ∧
        ∀ v H2, (Itl K a).yld i H' v H2 → gName j v σ' H2 fun σ3 H3 => tif σ3 H3 fun b H4 => if b = true then tEmit D telt N σ3 H4 else N σ3 H4) := by
  refine comp_inv (J := Itl K a) (n := xs.length) (x := fun i => xs.getD i .non) Iv h0 (fun i H' hi iv => ⟨xs, xs[i], hs _ _ iv, by simp [hi]⟩) (fun H' iv => ⟨xs, hs _ _ iv, Nat.le_refl _⟩) (fun i v H' H2 hi iv y => ?_) (fun i H' N hi iv hN => ?_) q
  · obtain ⟨e, y⟩ := y
    have := y xs (hs _ _ iv)
    exact ⟨e, by rw [List.getD_eq_getElem?_getD, this]; rfl⟩
  · have e : xs[i]? = some (xs.getD i .non) := by rw [List.getD_eq_getElem?_getD, List.getElem?_eq_getElem hi]; rfl
    exact step i _ H' N e iv hN
end L2

/-! EXCEPTIONS WITH THEIR DICT, 1: the flight -/
namespace L2
open PySem PySem.Spec PyProof.Rows
theorem dict_mapF (g : Array Value → Array Value) (o : Obj) : (Obj.mapFields g o).dict = o.dict := by
  obtain ⟨c, d, dt, sl⟩ := o
  cases dt <;> rfl
/-- the exception at e: class, dict, and its traceback's flight mark -/
def TrD (h base : Heap) (e : Addr) (cls : Value) (od : Option Addr) (fl : Value) : Prop :=
  ∃ ob fs T ot tf, h.get? e = some ob ∧ (ob.cls = cls ∧ ob.dict = od) ∧ ob.data = .fields fs ∧ fs[1]? = some (.ref T) ∧ base.get? T = none ∧ T ≠ e ∧ h.get? T = some ot ∧ ot.data = .fields tf ∧ tf[3]? = some fl
def FlD (base : Heap) (l : List Env) (e : Addr) (cls : Value) (od : Option Addr) (fl : Value) (h : Heap) : Prop := base.StaysIn h ∧ base.get? e = none ∧ h.FunFrames base l ∧ TrD h base e cls od fl
theorem FlD.there {base h : Heap} {l : List Env} {e : Addr} {cls fl : Value} {od : Option Addr} (x : FlD base l e cls od fl h) : ∃ ob, h.get? e = some ob ∧ (ob.cls = cls ∧ ob.dict = od) ∧ ∃ vs, ob.data = .fields vs := by
  obtain ⟨_, _, _, ob, fs, _, _, _, e1, e2, e3, _⟩ := x
  exact ⟨ob, e1, e2, fs, e3⟩
section
variable {M : Model} {A : Around} {E : Value → Shared → Prop} {s : Shared} {base : Heap} {env : Env} {outer l : List Env} {L e : Addr} {cls fl : Value} {od : Option Addr} {Q : Unit → Shared → Prop}
/-- the traceback's mark goes -/
theorem mark_off (x : FlD base l e cls od fl s.heap) (k : ∀ h', FlD base l e cls od .none h' → s.heap.UpToSlots h' → Q () { s with heap := h' }) : wpAny M A (setFlight (.ref e) none) Q E s := by
  obtain ⟨st, ne, ff, ob, fs, T, ot, tf, g1, gc, g2, g3, g4, g5, g6, g7, g8⟩ := x
  have sz3 : 3 < tf.size := (Array.getElem?_eq_some_iff.mp g8).1
  let U : Heap := s.heap.update T (Obj.mapFields (·.setIfInBounds 3 ((none : Option Addr).elim Value.none fun f => rawInt f)))
  have oth : ∀ b, b ≠ T → U.get? b = s.heap.get? b := fun b hb => Heap.get?_update_other _ _ (Ne.symm hb)
  have noT : ∀ b o, s.heap.get? b = some o → (∀ vs, o.data ≠ .fields vs) → b ≠ T := fun b o hb hn z => by
    rw [z, g6] at hb
    cases hb
    exact hn tf g7
  unfold setFlight
  refine wpAny_bind (wpAny_field g1 g2 g3 ?_)
  rw [if_pos (show (Value.ref T != Value.none) = true by simp)]
  refine wpAny_setField g6 g7 sz3 (k U ⟨fun b o hb => (oth b fun z => by rw [z, g4] at hb; cases hb).trans (st b o hb), ne, ff.of_keeps fun b o hb hn => ⟨o, (oth b (noT b o hb hn)).trans hb, rfl⟩, ?_⟩ fun b o hb hn => ⟨o.slots, (oth b (noT b o hb hn)).trans hb⟩)
  exact ⟨ob, fs, T, _, _, (oth e (Ne.symm g5)).trans g1, gc, g2, g3, g4, g5, Heap.get?_update_self _ g6 (Obj.isFreed_of_fields (Obj.data_mapFields g7 _)), Obj.data_mapFields g7 _, by simp [sz3]⟩
/-- a new entry of the traceback -/
theorem entry_on {ob : Obj} {fs : Array Value} {head : Value} {nx : Bool} (fr : A.frames = some (env :: outer)) (ff : s.heap.FunFrames base (env :: outer)) (lf : env.frame = some L) (g1 : s.heap.get? e = some ob) (st : base.StaysIn s.heap) (ne : base.get? e = none) (g2 : ob.data = .fields fs) (sz : 1 < fs.size)
    (k : ∀ h', FlD base (env :: outer) e ob.cls ob.dict (rawInt L) h' → s.heap.UpToSlots h' → Q () { s with heap := h' }) :
    wpAny M A (do let a ← frameOf env; let pl ← entryPlaceOf L nx; let b ← EntryCells.newEntry head a .none (rawInt L) .none pl; setField (.ref e) 1 b) Q E s := by
  have nfr : e ∉ (env :: outer).filterMap (·.frame) := fun hm => by
    obtain ⟨_, o, ho, hn⟩ := ff.mem hm
    rw [g1] at ho
    cases ho
    exact hn fs g2
  refine wpAny_bind (wpAny_frameOf_fun fr ff lf fun h1 q1 => ?_)
  refine wpAny_bind (wpAny_entryPlaceOf fun pl hpl => ?_)
  unfold EntryCells.newEntry newFields
  refine wpAny_bind (wpAny_newObj_type ?_ (hpl.sizeOk5 _ _ _ _ _))
  have e1 : h1.get? e = some ob := (q1.2.1 e nfr).trans g1
  have st1 : base.StaysIn h1 := fun b o hb => (q1.2.1 b fun hm => by rw [(ff.mem hm).1] at hb; cases hb).trans (st b o hb)
  generalize htb : (([head, .ref L, .none, rawInt L, .none] ++ (if pl.isEmpty then List.replicate 6 Value.none else pl)).toArray : Array Value) = tb
  have tb3 : tb[3]? = some (rawInt L) := by rw [← htb]; rcases hpl with rfl | ⟨_, _, _, _, _, _, _, rfl⟩ <;> simp
  have e2 := Heap.get?_push_of_some (h := h1) { cls := .type "traceback", dict := none, data := .fields tb } e1
  refine wpAny_setField e2 g2 sz (k _ ?_ ?_)
  all_goals
    have neT : h1.objs.size ≠ e := Nat.ne_of_gt (Heap.lt_size e1)
    have keep : ∀ b o, b ≠ e → h1.get? b = some o → ((h1.push { cls := .type "traceback", dict := none, data := .fields tb }).update e (Obj.mapFields (·.setIfInBounds 1 (Value.ref h1.objs.size)))).get? b = some o := fun b o hb hg => by
      rw [Heap.get?_update_other _ _ (Ne.symm hb)]
      exact Heap.get?_push_of_some _ hg
    have noE : ∀ b o, s.heap.get? b = some o → (∀ vs, o.data ≠ .fields vs) → b ≠ e := fun b o hb hn z => by
      rw [z, g1] at hb
      cases hb
      exact hn fs g2
  · have d3 := Obj.data_mapFields g2 (·.setIfInBounds 1 (Value.ref h1.objs.size))
    have e3 := Heap.get?_update_self (Obj.mapFields (·.setIfInBounds 1 (Value.ref h1.objs.size))) e2 (Obj.isFreed_of_fields d3)
    have t3 := (Heap.get?_update_other (h1.push { cls := .type "traceback", dict := none, data := .fields tb }) (Obj.mapFields (·.setIfInBounds 1 (Value.ref h1.objs.size))) (Ne.symm neT)).trans (Heap.get?_push_size h1 rfl)
    refine ⟨fun b o hb => keep b o (fun z => by rw [z, ne] at hb; cases hb) (st1 b o hb), ne, ff.of_keeps fun b o hb hn => ?_, ?_⟩
    · obtain ⟨sl, z⟩ := q1.2.2 b o hb
      exact ⟨_, keep b _ (noE b o hb hn) z, rfl⟩
    · exact ⟨_, _, h1.objs.size, _, _, e3, ⟨Obj.cls_mapFields _ _, dict_mapF _ _⟩, d3, by simp [sz], st1.fresh, neT, t3, rfl, tb3⟩
  · intro b o hb hn
    obtain ⟨sl, z⟩ := q1.2.2 b o hb
    exact ⟨sl, keep b _ (noE b o hb hn) z⟩
/-- the first frame is left -/
theorem leave_first {ob : Obj} {fs : Array Value} (fr : A.frames = some (env :: outer)) (ff : s.heap.FunFrames base (env :: outer)) (lf : env.frame = some L) (g1 : s.heap.get? e = some ob) (st : base.StaysIn s.heap) (ne : base.get? e = none) (g2 : ob.data = .fields fs) (g3 : fs[1]? = some .none)
    (k : ∀ h', FlD base (env :: outer) e ob.cls ob.dict .none h' → s.heap.UpToSlots h' → Q () { s with heap := h' }) : wpAny M A (leaving env (.ref e)) Q E s := by
  unfold leaving noteFrame
  simp only [lf]
  refine wpAny_bind (wpAny_bind (wpAny_field g1 g2 g3 ?_))
  rw [if_neg (by decide)]
  exact entry_on fr ff lf g1 st ne g2 (Array.getElem?_eq_some_iff.mp g3).1 fun h' x up => mark_off (s := { s with heap := h' }) x fun h2 x2 up2 => k h2 x2 (up.trans up2)
theorem note_on (fr : A.frames = some (env :: outer)) (lf : env.frame = some L) (x : FlD base (env :: outer) e cls od .none s.heap)
    (k : ∀ h', FlD base (env :: outer) e cls od (rawInt L) h' → s.heap.UpToSlots h' → Q () { s with heap := h' }) : wpAny M A (noteFrame (.ref e) env) Q E s := by
  obtain ⟨st, ne, ff, ob, fs, T, ot, tf, g1, ⟨gc, gd⟩, g2, g3, g4, g5, g6, g7, g8⟩ := x
  subst gc gd
  unfold noteFrame
  simp only [lf]
  refine wpAny_bind (wpAny_field g1 g2 g3 ?_)
  rw [if_pos (show (Value.ref T != Value.none) = true by simp)]
  refine wpAny_bind (wpAny_field g6 g7 g8 ?_)
  rw [if_neg (show ¬ ((Value.none == rawInt L) = true) by simp [rawInt])]
  refine wpAny_bind (wpAny_setField g6 g7 (Array.getElem?_eq_some_iff.mp g8).1 ?_)
  have oth : ∀ b, b ≠ T → (s.heap.update T (Obj.mapFields (·.setIfInBounds 3 Value.none))).get? b = s.heap.get? b := fun b hb => Heap.get?_update_other _ _ (Ne.symm hb)
  have noT : ∀ b o, s.heap.get? b = some o → (∀ vs, o.data ≠ .fields vs) → b ≠ T := fun b o hb hn z => by
    rw [z, g6] at hb
    cases hb
    exact hn tf g7
  refine entry_on fr (ff.of_keeps fun b o hb hn => ⟨o, (oth b (noT b o hb hn)).trans hb, rfl⟩) lf ((oth e (Ne.symm g5)).trans g1) (fun b o hb => (oth b fun z => by rw [z, g4] at hb; cases hb).trans (st b o hb)) ne g2 (Array.getElem?_eq_some_iff.mp g3).1 fun h' x up => k h' x fun b o hb hn => up b o ((oth b (noT b o hb hn)).trans hb) hn
/-- a further frame is left -/
theorem leave_on (fr : A.frames = some (env :: outer)) (lf : env.frame = some L) (x : FlD base (env :: outer) e cls od .none s.heap)
    (k : ∀ h', FlD base outer e cls od .none h' → s.heap.UpToSlots h' → Q () { s with heap := h' }) : wpAny M A (leaving env (.ref e)) Q E s := by
  unfold leaving
  refine wpAny_bind (note_on fr lf x fun h1 x1 up1 => mark_off (s := { s with heap := h1 }) x1 fun h2 x2 up2 => ?_)
  obtain ⟨k1, k2, ⟨_, _, k3⟩, k4⟩ := x2
  exact k h2 ⟨k1, k2, k3, k4⟩ (up1.trans up2)
end
end L2

/-! EXCEPTIONS WITH THEIR DICT, 2: raised, passing frames, caught -/
namespace L2
open PySem PySem.Spec PyProof.Rows
/-- in flight: the exception at a with its dict, and its traceback, both new since h0 and untracked -/
def FlyD (h : Heap) (H : Hp) (h0 : Heap) (a : Addr) (cls : Value) (od : Option Addr) : Prop :=
  (H a = none ∧ h0.get? a = none) ∧ ∃ T, (H T = none ∧ h0.get? T = none) ∧ ∃ oe vs oT ts, h.get? a = some oe ∧ (oe.cls = cls ∧ oe.dict = od) ∧ oe.data = .fields vs ∧ vs[1]? = some (.ref T) ∧ T ≠ a ∧ h.get? T = some oT ∧ oT.data = .fields ts ∧ ts[3]? = some Value.none
theorem FlyD.from {h : Heap} {H : Hp} {h0 h1 : Heap} {a : Addr} {cls : Value} {od : Option Addr} (x : FlyD h H h0 a cls od) (k : ∀ b o, h1.get? b = some o → ∃ o', h0.get? b = some o') : FlyD h H h1 a cls od := by
  have g : ∀ b, h0.get? b = none → h1.get? b = none := fun b e => by
    cases q : h1.get? b with
    | none => rfl
    | some o => obtain ⟨o', z⟩ := k b o q; rw [e] at z; cases z
  obtain ⟨⟨x1, x2⟩, T, ⟨x3, x4⟩, r⟩ := x
  exact ⟨⟨x1, g _ x2⟩, T, ⟨x3, g _ x4⟩, r⟩
theorem FlyD.flying {h : Heap} {H : Hp} {h0 B : Heap} {a : Addr} {cls : Value} {od : Option Addr} {l : List Env} (x : FlyD h H h0 a cls od) (ff : h.FunFrames B l) :
    ∃ T, (H T = none ∧ h0.get? T = none) ∧ FlD (PySem.W.hideAll h (a :: ([T] ++ frs l))) l a cls od .none h := by
  obtain ⟨_, T, z, oe, vs, oT, ts, e1, e2, e3, e4, e5, e6, e7, e8⟩ := x
  refine ⟨T, z, fun b o e => PySem.W.of_hideAll _ e, PySem.W.hideAll_none _ List.mem_cons_self, PySem.W.funFrames_hide ff fun env he b hb => ?_, oe, vs, T, oT, ts, e1, e2, e3, e4, PySem.W.hideAll_none _ (by simp), e5, e6, e7, e8⟩
  exact List.mem_cons_of_mem _ (List.mem_cons_of_mem _ (List.mem_filterMap.mpr ⟨env, he, hb⟩))
theorem stationD {P : Program} {w : World} {fs ts : List Addr} {l l' : List Env} {H0 H : Hp} {h0 h1 h2 B : Heap} {a : Addr} {cls : Value} {od : Option Addr} (u : Un fs [] H0 H h0 h1) (ok : HOk P w H h1) (ff : h1.FunFrames B l)
    (hl : ∀ b ∈ frs l, (b ∈ fs ∨ h0.get? b = none) ∧ H b = none) (ha : H a = none ∧ h0.get? a = none) (hts : ∀ T ∈ ts, H T = none ∧ h0.get? T = none)
    (x : FlD (PySem.W.hideAll h1 (a :: (ts ++ frs l))) l' a cls od .none h2) (up : h1.UpToSlots h2) : Un fs [] H0 H h0 h2 ∧ HOk P w H h2 ∧ FlyD h2 H h0 a cls od := by
  obtain ⟨st, _, _, oe, vs, T, oT, tv, e1, e2, e3, e4, e5, e6, e7, e8, e9⟩ := x
  have keep : ∀ b o, b ∉ a :: (ts ++ frs l) → h1.get? b = some o → h2.get? b = some o := fun b o hb e => st b o (PySem.W.hideAll_get _ e hb)
  have out : ∀ b, b ∈ a :: (ts ++ frs l) → H b = none ∧ (b ∈ frs l ∨ h0.get? b = none) := fun b hb => by
    rcases List.mem_cons.mp hb with rfl | hb
    · exact ⟨ha.1, .inr ha.2⟩
    · rcases List.mem_append.mp hb with hb | hb
      · exact ⟨(hts b hb).1, .inr (hts b hb).2⟩
      · exact ⟨(hl b hb).2, .inl hb⟩
  have slot : ∀ b o, h0.get? b ≠ none → h1.get? b = some o → ∃ sl, h2.get? b = some { o with slots := sl } := fun b o n e => by
    by_cases hb : b ∈ a :: (ts ++ frs l)
    · rcases (out b hb).2 with q | q
      · obtain ⟨_, o', ho, hn⟩ := ff.mem q
        rw [e] at ho; cases ho
        exact up b o e hn
      · exact absurd q n
    · exact ⟨o.slots, keep b o hb e⟩
  refine ⟨⟨fun b o e n hf hx => ?_, fun b o e n hf hx => ?_, u.free, fun b o e hx => ?_, u.tups, u.frzs, u.tbls⟩, fun b o q => ?_, ha, T, ?_, oe, vs, oT, tv, e1, e2, e3, e4, e6, e7, e8, e9⟩
  · refine keep b o (fun hb => ?_) (u.keep b o e n hf hx)
    rcases (out b hb).2 with q | q
    · rcases (hl b q).1 with q | q
      · exact hf q
      · rw [e] at q; cases q
    · rw [e] at q; cases q
  · obtain ⟨sl, q⟩ := u.slot b o e n hf hx
    obtain ⟨sl', q'⟩ := slot b _ (by rw [e]; simp) q
    exact ⟨sl', q'⟩
  · obtain ⟨o', q⟩ := u.there b o e hx
    obtain ⟨sl', q'⟩ := slot b _ (by rw [e]; simp) q
    exact ⟨_, q'⟩
  · refine (ok b o q).stay (fun c v hc qv => keep c v (fun hm => ?_) qv) (fun _ z => z) fun _ _ z => z
    have n := (out c hm).1
    rcases hc with rfl | hc
    · rw [q] at n; cases n
    · rw [hc] at n; cases n
  · by_cases hm : T ∈ a :: (ts ++ frs l)
    · rcases List.mem_cons.mp hm with z | hm
      · exact absurd z e6
      · rcases List.mem_append.mp hm with hm | hm
        · exact hts T hm
        · obtain ⟨_, o', ho, hn⟩ := ff.mem hm
          obtain ⟨sl, z⟩ := up T o' ho hn
          rw [e7] at z; cases z
          exact absurd e8 (hn tv)
    · have n1 : h1.get? T = none := by
        cases q : h1.get? T with
        | none => rfl
        | some o => rw [PySem.W.hideAll_get _ q hm] at e5; cases e5
      refine ⟨?_, ?_⟩
      · cases q : H T with
        | none => rfl
        | some o => obtain ⟨ob, z⟩ := (ok T o q).got; rw [n1] at z; cases z
      · cases q : h0.get? T with
        | none => rfl
        | some o => obtain ⟨ob, z⟩ := u.there T o q (by simp); rw [n1] at z; cases z
def CXD (P : Program) (w : World) : CXT := fun outer H s E e s' => ∃ a cls od H', e = .ref a ∧ s'.os = s.os ∧ AllBare s'.gens ∧ Un (frs outer) [] H H' s.heap s'.heap ∧ HOk P w H' s'.heap ∧ FlyD s'.heap H' s.heap a cls od ∧ E cls od H'
def RaisesD (X : Cx) (E : XK) : Prop := ∀ (pins : List (Addr × Obj)) (σ : St) (H : Hp) (s : Shared) (x C : Addr) (od : Option Addr), Inv X pins σ H s → H x = some (ExcO C x od) → X.s₀.heap.get? x = none → E (.ref C) od (del H x) → X.xe (.ref x) s
theorem Inv.leftD {X : Cx} {pins : List (Addr × Obj)} {σ : St} {H : Hp} {s : Shared} {a : Addr} {od : Option Addr} {cls : Value} {ts : List Addr} {h2 : Heap} {l' : List Env} (I : Inv X pins σ H s) (hex : X.ex = []) (ha : H a = none ∧ X.s₀.heap.get? a = none) (hts : ∀ T ∈ ts, H T = none ∧ X.s₀.heap.get? T = none)
    (x : FlD (PySem.W.hideAll s.heap (a :: (ts ++ frs X.stack))) l' a cls od .none h2) (up : s.heap.UpToSlots h2) : Un X.fs [] X.H₀ H X.s₀.heap h2 ∧ HOk X.prog X.w H h2 ∧ FlyD h2 H X.s₀.heap a cls od := by
  have u := I.base
  rw [hex] at u
  refine stationD u I.hok I.stack (fun b hb => ⟨?_, I.stkFree b hb⟩) ha hts x up
  rcases List.mem_cons.mp (I.stkSub b hb) with z | z
  · right; rw [z]; exact Heap.get?_none_of_le I.ok.above
  · exact .inl z
section
variable {P : Program} {w : World} {K : PySem.W.Frag} {mg : Str → Option Value} {base : Heap} {N : List Str} {qual : Str} {scope : Scope} {f : Addr} {cd : Value} {A : Around} {outer : List Env} {s : Shared} {H : Hp} {E : XK}
theorem raises_fnD : RaisesD (cxOf (CXD P w) P w K mg base N qual scope f cd A outer s H E) E := by
  intro pins σ H1 s1 x C od I e n q
  obtain ⟨t, hx⟩ := excO_at I e
  have J := I.del e
  have hd : del H1 x x = none := del_same _ _
  refine leave_first (base := PySem.W.hideAll s1.heap (x :: ([] ++ frs (cxOf (CXD P w) P w K mg base N qual scope f cd A outer s H E).stack))) (outer := outer) (L := s.heap.objs.size) I.ok.frames ?_ rfl hx (fun b o z => PySem.W.of_hideAll _ z) (PySem.W.hideAll_none _ List.mem_cons_self) rfl rfl fun h' hL up => ?_
  · exact PySem.W.funFrames_hide I.stack fun env he b hb => List.mem_cons_of_mem _ (List.mem_filterMap.mpr ⟨env, he, hb⟩)
  · obtain ⟨u, ok, fl⟩ := J.leftD (ts := []) rfl ⟨hd, n⟩ (fun _ z => nomatch z) hL up
    exact ⟨x, .ref C, od, _, rfl, I.os, I.bare, u, ok, fl, q⟩
theorem passes_fnD : Passes (CXD P w) (cxOf (CXD P w) P w K mg base N qual scope f cd A outer s H E) E := by
  intro pins σ H1 s1 e s2 I q
  obtain ⟨a, cls, od, H', rfl, os, bare, un, ok, fl, q⟩ := q
  have J := I.call' (ch := []) os un ok bare fun b z => nomatch z
  have fl' : FlyD s2.heap H' s.heap a cls od := fl.from fun b o z => I.base.there b o z (fun z => nomatch z)
  obtain ⟨T, z, fw⟩ := fl'.flying J.stack
  refine leave_on J.ok.frames rfl fw fun h' fw' up => ?_
  obtain ⟨u, ok', f2⟩ := J.leftD (ts := [T]) rfl fl'.1 (fun b hb => by rw [List.mem_singleton.mp hb]; exact z) fw' up
  exact ⟨a, cls, od, H', rfl, J.os, J.bare, u, ok', f2, q⟩
theorem passes_own_fnD :
    PassesOwn (model (cxOf (CXD P w) P w K mg base N qual scope f cd A outer s H E).prog (cxOf (CXD P w) P w K mg base N qual scope f cd A outer s H E).w) (cxOf (CXD P w) P w K mg base N qual scope f cd A outer s H E).A (cxOf (CXD P w) P w K mg base N qual scope f cd A outer s H E).env (cxOf (CXD P w) P w K mg base N qual scope f cd A outer s H E).xe :=
  PassesOwn.leaving
theorem FunD.okD {CX : CXT} {x qual : Str} {st : Stmt} {fd : FuncData} {N ps : List Str} {k : Nat} {sp : Sp} (F : FunD K x qual st f fd) (S : FnScope N ps (defScope st)) (len : ∀ vs H Q E, sp vs H Q E → vs.length = ps.length)
    (hbody : ∀ (cdv : Value) (A : Around) (outer : List Env) (s : Shared) (H : Hp) (vs : List V) (Q : VK) (E : XK), Room k (A.deeper (envOfC qual (defScope st) s.heap.objs.size f cdv)) → sp vs H Q E →
      ∃ t, PSs (cxOf (CXD P w) P w K mg base N qual (defScope st) f cdv A outer s H E) (defBody st) t ∧ t { nx := fun _ H' => Q .non H', rt := Q } (start N vs) H) : FnOk P w K mg base (CXD P w) (k + 1) f fd ps sp := by
  obtain ⟨oc, od, dV, kV, doc, pm, an, cdv, ct, osl, rfl, lk, hcd⟩ := F.ex
  refine fn_of lk hcd S len fun A outer s H vs Q E hr hsp => ?_
  obtain ⟨t, h, q⟩ := hbody cdv A outer s H vs Q E hr hsp
  exact ⟨t, h, q⟩
theorem passesND {X : Cx} : Passes (CXD X.prog X.w) X EN := fun _ _ _ _ _ _ _ ⟨_, _, _, _, _, _, _, _, _, _, z⟩ => z.elim
end
section
variable {X : Cx} {CX : CXT} {k : Nat} {f C : Addr} {fd : FuncData} {ps : List Str} {sp : Sp} {dvs : List V} {ds : List Value} {E Ei : XK} {x m : Str} {p pos cpos apos : Pos} {e : Expr} {es : List Expr} {t : TA}
/-- raise C(..), its dict told -/
def tRaiseD (C : Addr) (sp : Sp) (dvs : List V) (Ei E : XK) (t : TA) : TS := fun _ σ H => t σ H fun vs H1 => vs.length ≤ sizeLine ∧ ∀ x, H1 x = none →
  sp (.ref x :: (vs ++ dvs)) (upd H1 x (ExcO C x none)) (fun v H2 => v = .non ∧ ∃ od, H2 x = some (ExcO C x od) ∧ E (.ref C) od (del H2 x)) Ei
theorem ps_raiseD (R : RaisesD X E) (hc : X.calm = true) (c : XCls X.K C) (hi : PySem.W.findIn X.K (.ref C) "__init__" = some (some (.ref f))) (hf : PySem.W.isFn X.K (.ref f) = true) (F : FnOk X.prog X.w X.K X.mg X.base CX k f fd ps sp) (hr : Room (k + 1) X.A) (hg : Gl X x) (hm : X.mg x = some (.ref C)) (hb : Binds X.K fd ps ds) (hd : Vals dvs ds) (hx : Passes CX X Ei)
    (ha : PA X (e :: es) t) (hdb : (x == ("__debug__" : Str)) = false := by decide) (he : starEach (e :: es) X.env = (false, eval e X.env) :: starEach es X.env := by rfl) (hpl : (backTo cpos (starEach es X.env)).any (·.1) = false := by rfl) :
    PS X (.Raise (some (.Call (.Name x p) (e :: es) [] cpos)) none pos) (tRaiseD C sp dvs Ei E t) := by
  intro pins s σ H D I h
  obtain ⟨nm, qn, N, bs, bm, sn, sub, ab, col, dd, k0, k1, k2, k3, k5, hK, m⟩ := c.ob
  rw [arm_exec_Raise]
  simp only [evalOpt, Option.map]
  refine wpAny_bind (wpAny_standAt (xraise (C := C) m (I.ok.hd hc) (hdct := true) (nm := nm) (q := qn) (N := N) (bs := bs) (sn := sn) (sub := sub) (ab := ab) (col := col) (dd := dd) (k0 := k0) (k1 := k1) (k2 := k2) (k3 := k3) (k5 := k5) (newId := "ValueError.__new__") ?_))
  refine wpAny_bind (wpAny_mono (wpAny_Call_Name_kw (ld_glob I hg hm ?_ hdb)) (fun v s3 h3 => wpAny_bind (wpAny_standAt (wpAny_pure h3))) fun _ _ z => z)
  refine PySem.W.callWith_K (h₀ := X.base) I.ok.mod.kin c.kp (thn (ha cpos pins s σ H _ I h) fun us s1 ⟨vs, H1, I1, r, hv, q⟩ => ⟨I1.kIn, ?_⟩) he hpl
  refine thn (run_xmake2 (Q := fun x H2 => ∃ od, H2 x = some (ExcO C x od) ∧ E (.ref C) od (del H2 x)) c hi hf F hr hb hd hx I1 r hv q) fun v s2 ⟨ev, H2, I2, od, e2, q2⟩ => ?_
  obtain ⟨t2, hx2⟩ := excO_at I2 e2
  exact ⟨_, _, _, ev, I2.kIn _ _ hK, hx2, R pins σ H2 s2 _ C od I2 e2 (Heap.get?_none_of_le (Nat.le_trans I1.sz (Nat.le_succ _))) q2⟩
end
/-! ### try .. except D as n -/
def Cx.inTryD (X : Cx) (pins : List (Addr × Obj)) (Ex : St → XK) : Cx := { X with pn := X.pn ++ pins, xe := fun e s1 => ∃ σ H s, Inv X pins σ H s ∧ CXD X.prog X.w X.stack H s (Ex σ) e s1 }
section
variable {X : Cx} {pins pins' : List (Addr × Obj)} {σ : St} {H : Hp} {s : Shared} {Ex : St → XK} {D : Ends} {fl : Flow}
theorem Inv.inTryD (I : Inv X pins σ H s) (Ex : St → XK) : Inv (X.inTryD pins Ex) [] σ H s :=
  let ok := I.ok
  ⟨⟨ok.mod, ok.kind, ok.glob, ok.blt, ok.above, ok.inj, ok.has, ok.cab, ok.hd, ok.frames, ok.stk, ok.exf, ok.bs, ok.bsz, ok.noex, ok.exfs, ok.funs, ok.frf⟩, I.os, I.bare, I.base, I.loc, I.cell, I.free, I.freeC, fun p hp => I.pin p (by
    rw [List.append_nil] at hp; exact hp), I.hok, I.len⟩
theorem Inv.outTryD (I : Inv (X.inTryD pins Ex) pins' σ H s) : Inv X pins σ H s :=
  let ok := I.ok
  ⟨⟨ok.mod, ok.kind, ok.glob, ok.blt, ok.above, ok.inj, ok.has, ok.cab, ok.hd, ok.frames, ok.stk, ok.exf, ok.bs, ok.bsz, ok.noex, ok.exfs, ok.funs, ok.frf⟩, I.os, I.bare, I.base, I.loc, I.cell, I.free, I.freeC, fun p hp => I.pin p (List.mem_append_left _ hp), I.hok, I.len⟩
theorem SP.outTryD (h : SP (X.inTryD pins Ex) pins' D fl s) : SP X pins D fl s := by
  cases fl with
  | next => obtain ⟨σ', H', I, q⟩ := h; exact ⟨σ', H', I.outTryD, q⟩
  | brk => obtain ⟨σ', H', I, q⟩ := h; exact ⟨σ', H', I.outTryD, q⟩
  | cont => obtain ⟨σ', H', I, q⟩ := h; exact ⟨σ', H', I.outTryD, q⟩
  | ret u => obtain ⟨v, σ', H', I, r, q⟩ := h; exact ⟨v, σ', H', I.outTryD, r, q⟩
theorem passes_tryD : PassesS (CXD X.prog X.w) (X.inTryD pins Ex) Ex := fun pins' σ H s e s' I q => ⟨σ, H, s, I.outTryD, q⟩
end
/-- an exception that has landed: its class and its dict -/
def LandD (cls : Value) (a : Addr) (od : Option Addr) : HO := .ext fun h => ∃ oe, h.get? a = some oe ∧ (oe.cls = cls ∧ oe.dict = od) ∧ ∃ vs, oe.data = .fields vs
theorem landD_ok {P : Program} {w : World} {H : Hp} {h : Heap} {a : Addr} {cls : Value} {od : Option Addr} {oe : Obj} (e : h.get? a = some oe) (hc : (oe.cls = cls ∧ oe.dict = od) ∧ ∃ vs, oe.data = .fields vs) : ObjOk P w H h a (LandD cls a od) := ⟨⟨oe, e, hc⟩, ⟨_, e⟩, fun h1 h2 ⟨t, e1, c1⟩ k => ⟨t, k _ e1, c1⟩⟩
section
variable {X : Cx} {D : Addr} {Ex : St → XK} {x n : Str} {i : Nat} {p pos hpos : Pos} {body suite : List Stmt} {b₀ : Stmt} {tb th : TS}
def tTryD (K : PySem.W.Frag) (Ex : St → XK) (D : Addr) (i : Nat) (tb th : TS) : TS := fun D' σ H => tb D' σ H ∧ ∀ σ' cls od H' a, Ex σ' cls od H' → H' a = none → PySem.W.exmOne K cls (.ref D) = some true ∧ th (D'.forget i) (σ'.set i (some (.ref a))) (upd H' a (LandD cls a od))
theorem ps_tryD (hs : X.stack = X.env :: X.outer ∧ X.env.frame = some X.env.locals) (hg : Gl X x) (hm : X.mg x = some (.ref D)) (hN : X.N.Nodup) (hi : X.N[i]? = some n) (hk : X.env.scope.names.lookup n = some .local) (hb : ∀ pins, PSs (X.inTryD pins Ex) body tb) (hh : ∀ e, PSs (X.caught e) (b₀ :: suite) th)
    (hdb : (x == ("__debug__" : Str)) = false := by decide) :
    PS X (.Try body [.ExceptHandler (some (.Name x p)) (some n) (b₀ :: suite) hpos] [] [] pos) (tTryD X.K Ex D i tb th) := by
  intro pins s σ H D' I h
  obtain ⟨h1, h2⟩ := h
  refine wpAny_Try_except (wpAny_mono (hb pins [] s σ H D' (I.inTryD Ex) h1) (fun f s1 q => ?_) fun e s1 q => ?_)
  · cases f with
    | next => exact wpAny_execs_nil (SP.outTryD (fl := .next) q)
    | brk => exact SP.outTryD (fl := .brk) q
    | cont => exact SP.outTryD (fl := .cont) q
    | ret u => exact SP.outTryD (fl := .ret u) q
  · obtain ⟨σ0, H0, s0, I0, a, cls, od, H', rfl, os, bare, un, ok, fl, q⟩ := q
    obtain ⟨ec, qh⟩ := h2 σ0 cls od H' a q fl.1.1
    have J := I0.call' (ch := []) os un ok bare fun b z => nomatch z
    have ff := J.stack
    have ha0 := fl.1
    obtain ⟨T, z, fw⟩ := fl.flying ff
    have fr : X.A.frames = some (X.env :: X.outer) := by rw [← hs.1]; exact J.ok.frames
    rw [hs.1] at fw
    refine note_on fr hs.2 fw fun h1 held up1 => ?_
    refine mark_off held fun h2 fw2 up2 => ?_
    have st0 : ∀ (h' : Heap), FlD (PySem.W.hideAll s1.heap (a :: ([T] ++ frs (X.env :: X.outer)))) (X.env :: X.outer) a cls od .none h' → s1.heap.UpToSlots h' → Un (frs X.stack) [] H0 H' s0.heap h' ∧ HOk X.prog X.w H' h' := fun h' fw' up' => by
      obtain ⟨u, ok', _⟩ := stationD (l := X.env :: X.outer) un ok (by rw [← hs.1]; exact ff) (fun b hb => by rw [← hs.1] at hb; exact ⟨.inl hb, J.stkFree b hb⟩) fl.1 (ts := [T]) (fun b hb => by rw [List.mem_singleton.mp hb]; exact z) fw' up'
      exact ⟨u, ok'⟩
    have J2 : Inv X pins σ0 H' { s1 with heap := h2 } := I0.call' (ch := []) (s' := { s1 with heap := h2 }) os (st0 h2 fw2 (up1.trans up2)).1 (st0 h2 fw2 (up1.trans up2)).2 bare fun b z => nomatch z
    refine wpAny_handleBy_cons (codeAny_handlers_test ?_) (by intro q; cases q)
    refine ld_glob (X := X.caught (.ref a)) (J2.caught _) hg hm ?_ hdb
    obtain ⟨oe, he, ⟨hcls, _⟩, _⟩ := fw2.there
    have LT : PySem.W.Looks (model X.prog X.w) h2 (typeOf (.ref a)) cls := by
      subst hcls
      exact (PySem.W.Looks.ld he).andThen .now
    refine (PySem.W.exm_one J2.kIn LT ec) _ _ _ _ (fun _ _ e => e) ?_
    show codeAny _ _ _ _ _
    refine codeAny_handlers_suite_as (mark_off fw2 fun h3 fw3 up3 => ?_)
    obtain ⟨u3, ok3⟩ := st0 h3 fw3 ((up1.trans up2).trans up3)
    obtain ⟨oe3, he3, hc3⟩ := fw3.there
    have nea : ∀ b u, H' b = some u → b ≠ a := fun b u e w => by rw [w, ha0.1] at e; cases e
    have J3 : Inv X pins σ0 (upd H' a (LandD cls a od)) { s1 with heap := h3 } := by
      refine I0.call' (ch := []) (s' := { s1 with heap := h3 }) os ⟨u3.keep, u3.slot, fun b o e n hx => ?_, u3.there, fun b xs e => ?_, fun b o u e => ?_, fun b ps e => ?_⟩ (fun b o e => ?_) bare fun b z => nomatch z
      · rw [upd_ne (fun w => by rw [w, ha0.2] at e; cases e)]; exact u3.free b o e n hx
      · rw [upd_ne (nea b _ (u3.tups b xs e))]; exact u3.tups b xs e
      · rw [upd_ne (nea b _ (u3.frzs b o u e))]; exact u3.frzs b o u e
      · obtain ⟨more, e1⟩ := u3.tbls b ps e
        exact ⟨more, by rw [upd_ne (nea b _ e1)]; exact e1⟩
      · by_cases hb : b = a
        · subst hb
          rw [upd_same] at e; cases e
          exact landD_ok he3 hc3
        · rw [upd_ne hb] at e
          exact (ok3 b o e).stay (fun _ _ _ q => q) (fun c q => by rw [upd_ne (nea c _ q)]; exact q) fun c xs q => by rw [upd_ne (nea c _ q)]; exact q
    refine store_ok (X := X.caught (.ref a)) (v := .ref a) (J3.caught _) hN hi (.inl hk) rfl (fun s4 J4 => ?_) (.inr hk)
    refine wpAny_mono (hh (.ref a) pins s4 _ _ (D'.forget i) J4 qh) (fun f s' r => ?_) fun _ _ z => False.elim z
    have r := SP.uncaught I.ok.hd r
    cases f with
    | next => obtain ⟨σ', H'', I', q'⟩ := r; exact goes_ok I' hN hi hk fun s5 J5 => ⟨_, _, J5, q'⟩
    | brk => obtain ⟨σ', H'', I', q'⟩ := r; exact goes_ok I' hN hi hk fun s5 J5 => ⟨_, _, J5, q'⟩
    | cont => obtain ⟨σ', H'', I', q'⟩ := r; exact goes_ok I' hN hi hk fun s5 J5 => ⟨_, _, J5, q'⟩
    | ret u => obtain ⟨v, σ', H'', I', rr, q'⟩ := r; exact goes_ok I' hN hi hk fun s5 J5 => ⟨v, _, _, J5, rr, q'⟩
end
end L2

/-! EXCEPTIONS WITH THEIR DICT, 3: a landed exception's fields, isinstance of it -/
namespace L2
open PySem PySem.Spec PyProof.Rows
/-! ### an exception is asked: its __getattribute__ is BaseException's -/
theorem check_gaX {M : Model} {A : Around} {E : Value → Shared → Prop} {K : W.Frag} {h : Heap} {g : Array GenState} {d : Drawn} {t : Nat} {os : OsState} {x C : Addr} {ox : Obj} {od : Option Obj} {nameV : Value} {Q : Unit → Shared → Prop}
    (X : K.In h) (I : W.InstAt h x ox C od) (hbe : W.mroIn K C (.type "BaseException") = some true) (q : Q () { heap := h, gens := g, drawn := d, toks := t, os := os }) :
    wpAny M A (checkBuiltinCall "BaseException.__getattribute__" { pos := [Value.ref x, nameV] }) Q E { heap := h, gens := g, drawn := d, toks := t, os := os } := by
  have hk : builtinKind "BaseException.__getattribute__" = some Manifest.AttrKind.slot := by decide +kernel
  have hs : splitId "BaseException.__getattribute__" = some ("BaseException", "__getattribute__") := by decide +kernel
  have ha := F.args_bexc_ga (Value.ref x) nameV
  have L0 := W.InstAt.type I (M := M)
  have L4 := W.looks_mroIn (M := M) X hbe
  unfold checkBuiltinCall
  simp only [hk, hs]
  refine wpAny_bind ?_
  unfold isInstance
  refine wpAny_bind (W.Looks.at L0 (W.Looks.at L4 ?_))
  refine wpAny_ite_false rfl ?_
  exact wpAny_of_eq ha q
theorem get_valueX {prog : Program} {w : World} {A : Around} {E : Value → Shared → Prop} {s : Shared} {K : W.Frag} {x C : Addr} {ox : Obj} {od : Option Obj} {name : Str} {expr : Bool} {Q : Value → Shared → Prop} {v : Value}
    (X : K.In s.heap) (I : W.InstAt s.heap x ox C od)
    (hga : W.findIn K (.ref C) "__getattribute__" = some (some (.builtin "BaseException.__getattribute__")))
    (hgt : W.findIn K (.ref C) "__getattr__" = some none)
    (hbe : W.mroIn K C (.type "BaseException") = some true)
    (hf : W.findObj K C od name = some (.value v)) (hh : W.handedIn v = true)
    (h : Q v { s with toks := s.toks + 1 }) : wpAny (model prog w) A (getAttr (.ref x) name expr) Q E s := by
  obtain ⟨hh', g, d, t, os⟩ := s
  have L0 := W.InstAt.type I (M := model prog w)
  have L1 := W.looks_findIn (M := model prog w) X hga
  have L2 := W.looks_findIn (M := model prog w) X hgt
  have L3 := W.looks_find (M := model prog w) X I hf
  have hx0 : (expr && onTheHeap (Value.builtin "BaseException.__getattribute__")) = false := by cases expr <;> rfl
  unfold getAttr
  refine wpAny_bind (wpAny_mkText ?_)
  unfold getAttrBy
  refine wpAny_holding (wpAny_bind (W.Looks.at L0 (wpAny_bind (W.Looks.at L1 ?_))))
  refine wpAny_ite_false rfl ?_
  unfold getAttrByItsOwn
  refine wpAny_bind ?_
  unfold hookBefore
  refine wpAny_ite_true rfl (W.Looks.at L2 ?_)
  refine wpAny_bind (wpAny_attempt (wpAny_holding ?_))
  unfold callGetattribute
  refine wpAny_ite_false (by rw [hx0]; rfl) ?_
  unfold boundAndCalled
  refine wpAny_bind (wpAny_of_eq (F.attr_ValueError.ga.bind (Value.ref x)) ?_)
  refine wpAny_call (codeAny_call_builtin F.attr_ValueError.ga.plain F.entry_bexc_ga ?_)
  refine check_gaX X I hbe ?_
  unfold Builtin.«object.__getattribute__»
  refine wpAny_bind (wpAny_of_eq (a := (Value.ref x, [Value.str name t])) rfl ?_)
  refine wpAny_bind (wpAny_pure (wpAny_bind (W.Looks.at L0 (wpAny_bind (W.Looks.at L3 (wpAny_pure ?_))))))
  show wpAny (model prog w) A (handedOut v) Q E _
  rw [W.handedOut_of hh]
  exact wpAny_pure h
theorem kin_classX {prog : Program} {w : World} {A : Around} {E : Value → Shared → Prop} {s : Shared} {K : W.Frag} {x D : Addr} {ox od : Obj} {Q : Option Value → Shared → Prop}
    (hga : W.findIn K (.ref D) "__getattribute__" = some (some (.builtin "BaseException.__getattribute__")))
    (hgt : W.findIn K (.ref D) "__getattr__" = some none)
    (hbe : W.mroIn K D (.type "BaseException") = some true)
    (hdct : W.hasDictIn K D = true) (ha : W.findIn K (.ref D) "__class__" = some (some (.builtin "object.__class__")))
    (hn : W.specialIn K (.builtin "object.__class__") "__get__" = some (some (.builtin "getset_descriptor.__get__")))
    (htk : W.takesIn K (.builtin "object.__class__") = some true) (hm : W.mroIn K D (.type "object") = some true)
    (X : K.In s.heap) (I : W.InstAt s.heap x ox D (some od)) (h : Q (some (.ref D)) { s with toks := s.toks + 1 }) :
    wpAny (model prog w) A (getAttr? (.ref x) "__class__") Q E s := by
  have hf : W.findObj K D (some od) "__class__" = some (.bind (.builtin "getset_descriptor.__get__") (.builtin "object.__class__")) :=
    W.findObj_data (by obtain ⟨cd, hc, _⟩ := W.any_some hdct; rw [hc]; rfl) ha hn htk
  obtain ⟨hh', g, d, t, os⟩ := s
  have L0 := W.InstAt.type I (M := model prog w)
  have L1 := W.looks_findIn (M := model prog w) X hga
  have L2 := W.looks_findIn (M := model prog w) X hgt
  have L3 := W.looks_find (M := model prog w) X I hf
  unfold getAttr?
  refine wpAny_bind (wpAny_mkText ?_)
  unfold getAttrBy?
  refine wpAny_bind (wpAny_attempt ?_)
  unfold getAttrBy
  refine wpAny_holding (wpAny_bind (W.Looks.at L0 (wpAny_bind (W.Looks.at L1 ?_))))
  refine wpAny_ite_false rfl ?_
  unfold getAttrByItsOwn
  refine wpAny_bind ?_
  unfold hookBefore
  refine wpAny_ite_true rfl (W.Looks.at L2 ?_)
  refine wpAny_bind (wpAny_attempt (wpAny_holding ?_))
  unfold callGetattribute
  refine wpAny_ite_false rfl ?_
  unfold boundAndCalled
  refine wpAny_bind (wpAny_of_eq (F.attr_ValueError.ga.bind (Value.ref x)) ?_)
  refine wpAny_call (codeAny_call_builtin F.attr_ValueError.ga.plain F.entry_bexc_ga ?_)
  refine check_gaX X I hbe ?_
  unfold Builtin.«object.__getattribute__»
  refine wpAny_bind (wpAny_of_eq (a := (Value.ref x, [Value.str "__class__" t])) rfl ?_)
  refine wpAny_bind (wpAny_pure (wpAny_bind (W.Looks.at L0 (wpAny_bind (W.Looks.at L3 ?_)))))
  show wpAny _ _ (Builtin.ObjectAttr.bindTo (.builtin "getset_descriptor.__get__") (.builtin "object.__class__") (.ref x) (.ref D)) _ _ _
  unfold Builtin.ObjectAttr.bindTo
  refine wpAny_bind (wpAny_holding (wpAny_call (W.class_get X I hm ?_)))
  refine wpAny_pure ?_
  show wpAny (model prog w) A (handedOut (.ref D)) _ _ _
  refine W.handed_on rfl ?_
  exact wpAny_pure h
theorem kitx_X {K : W.Frag} {x D : Addr} {ox od : Obj}
    (hga : W.findIn K (.ref D) "__getattribute__" = some (some (.builtin "BaseException.__getattribute__")))
    (hgt : W.findIn K (.ref D) "__getattr__" = some none)
    (hbe : W.mroIn K D (.type "BaseException") = some true)
    (hdct : W.hasDictIn K D = true) (ha : W.findIn K (.ref D) "__class__" = some (some (.builtin "object.__class__")))
    (hn : W.specialIn K (.builtin "object.__class__") "__get__" = some (some (.builtin "getset_descriptor.__get__")))
    (htk : W.takesIn K (.builtin "object.__class__") = some true) (hm : W.mroIn K D (.type "object") = some true) :
    W.KitX K (.ref x) (.ref D) fun h => W.InstAt h x ox D (some od) := by
  have hl : ∃ c dd cd sl, List.lookup D K = some { cls := c, dict := dd, data := .cls cd, slots := sl } := by
    obtain ⟨cd, hc, _⟩ := W.any_some hdct
    unfold W.clsIn at hc
    split at hc
    · rename_i c dd cd' sl e
      exact ⟨_, _, _, _, e⟩
    · cases hc
  obtain ⟨c, dd, cd, sl, hl⟩ := hl
  refine ⟨fun _ _ _ I => W.InstAt.type I, fun M h X _ => ?_, fun h tp dd' its n sl' X htp => ?_, fun X I k => kin_classX hga hgt hbe hdct ha hn htk hm X I k⟩
  · intro A' Q' E' s' k q
    exact wpAny_bind (wpAny_loadPart (k D _ (X D _ hl)) (wpAny_pure q))
  · refine Bool.eq_false_iff.mpr fun q => ?_
    have e := Value.ref.inj (beq_iff_eq.mp q)
    subst e
    have z := (X D _ hl).symm.trans htp
    cases z
/-- what an exception's class tells when it is asked -/
structure XAsk (K : PySem.W.Frag) (C : Addr) : Prop where
  ga : PySem.W.findIn K (.ref C) "__getattribute__" = some (some (.builtin "BaseException.__getattribute__"))
  gt : PySem.W.findIn K (.ref C) "__getattr__" = some none
  be : PySem.W.mroIn K C (.type "BaseException") = some true
  hd : PySem.W.hasDictIn K C = true
  kc : PySem.W.findIn K (.ref C) "__class__" = some (some (.builtin "object.__class__"))
  mo : PySem.W.mroIn K C (.type "object") = some true
structure XWay (K : PySem.W.Frag) : Prop where
  gt : PySem.W.specialIn K (.builtin "object.__class__") "__get__" = some (some (.builtin "getset_descriptor.__get__"))
  tk : PySem.W.takesIn K (.builtin "object.__class__") = some true
section
variable {X : Cx} {pins : List (Addr × Obj)} {σ : St} {H : Hp} {s : Shared}
theorem land_at {C a dx : Addr} {fs : List (Str × V)} (I : Inv X pins σ H s) (e : H a = some (LandD (.ref C) a (some dx))) (ed : H dx = some (.xd fs)) :
    ∃ ox ob, PySem.W.InstAt s.heap a ox C (some ob) ∧ ∃ mA : Str → Option Value, (∀ n, PySem.W.lookIn n ob = some (mA n)) ∧ ∀ g, RelO (fs.lookup g) (mA g) := by
  obtain ⟨ox, g1, ⟨g2, g3⟩, vs, g4⟩ := (I.hok a _ e).1
  obtain ⟨_, mA, hn, r, _⟩ := I.hok dx _ ed
  obtain ⟨ob, h1, h2⟩ := lookIn_ns hn
  refine ⟨ox, ob, ⟨g1, g2, ?_, ?_⟩, mA, h2, r⟩
  · unfold PySem.W.notCls
    rw [g4]
  · rw [g3]; exact h1
/-- e.f, e landed -/
def tXGet (K : PySem.W.Frag) (ta : TE) (f : Str) : TE := fun σ H Q => ta σ H fun x H1 => ∃ a C dx fs v, x = .ref a ∧ H1 a = some (LandD (.ref C) a (some dx)) ∧ H1 dx = some (.xd fs) ∧ XAsk K C ∧ NoAttr K C f ∧ fs.lookup f = some v ∧ Q v H1
theorem pe_xget {e : Expr} {f : Str} {pos : Pos} {ta : TE} (he : PE X e ta) (hb : attributeBase e f X.env (eval e X.env) = eval e X.env) : PE X (.Attribute e f pos) (tXGet X.K ta f) := by
  intro pins s σ H Q I h
  refine attr_of hb (thn (he pins s σ H _ I h) fun u s1 ⟨x, H1, I1, rx, a, C, dx, fs, v, ex, ea, ed, c, n, l, q⟩ => ?_)
  subst ex
  obtain rfl : u = Value.ref a := rx
  obtain ⟨ox, ob, J, mA, hl, r⟩ := land_at I1 ea ed
  obtain ⟨u, hu, ru⟩ := RelO.some_of (v := v) (o := mA f) (by rw [← l]; exact r f)
  exact get_valueX I1.kIn J c.ga c.gt c.be (PySem.W.findObj_own c.hd n rfl (by rw [hl, hu])) (handed_of ru) ⟨v, H1, I1.tok _, ru, q⟩
/-- isinstance(e, C), e landed -/
def rIsX (K : PySem.W.Frag) : List V → Hp → VK → Prop := fun xs H Q => ∃ a D dx fs cv c b, xs = [.ref a, cv] ∧ ClsV cv c ∧ H a = some (LandD (.ref D) a (some dx)) ∧ H dx = some (.xd fs) ∧ XAsk K D ∧ XWay K ∧ PySem.W.kitOne K (.ref D) c = some b ∧ Q (.bl b) H
theorem call_isX : CallR X (.builtin "isinstance") (rIsX X.K) := by
  intro pins s σ H xs us Q I r h
  obtain ⟨a, D, dx, fs, cv, c, b, rfl, hc, ea, ed, k, w, e, q⟩ := h
  obtain ⟨u, w', rfl, ru, rw'⟩ := vals2 r
  have ew : w' = c := by
    cases hc with
    | ty n => exact rw'
    | own C => exact rw'
  subst ew
  cases (show u = Value.ref a from ru)
  obtain ⟨ox, ob, J, _⟩ := land_at I ea ed
  exact PySem.W.kia_one (kitx_X k.ga k.gt k.be k.hd k.kc w.gt w.tk k.mo) I.kIn J e (fun z => nomatch z) fun tk => ⟨.bl b, H, I.tok tk, rfl, q⟩
theorem kit_ofT {K : PySem.W.Frag} {C : Addr} {T : String} {b : Bool} (hm : PySem.W.kitMeta T = true) (h4 : PySem.W.subIn K (.ref C) (.type T) = some b) : PySem.W.kitOne K (.ref C) (.type T) = some b := by
  unfold PySem.W.kitOne PySem.W.kitCls
  rw [if_neg (by simp)]
  show (if PySem.W.kitMeta T = true then _ else _) = _
  rw [if_pos hm]
  exact h4
theorem kit_self {K : PySem.W.Frag} {C : Addr} : PySem.W.kitOne K (.ref C) (.ref C) = some true := by
  unfold PySem.W.kitOne
  rw [if_pos (by simp)]
end
theorem boot_VE : bootBuiltins (Str.ofString "ValueError") = some (.type "ValueError") := by decide +kernel
/-! ### readings that name K itself -/
theorem pe_xgetK {X : Cx} (K : PySem.W.Frag) (h : X.K = K) {e : Expr} {f : Str} {pos : Pos} {ta : TE} (he : PE X e ta) (hb : attributeBase e f X.env (eval e X.env) = eval e X.env) : PE X (.Attribute e f pos) (tXGet K ta f) := by
  subst h; exact pe_xget he hb
theorem call_isXK {X : Cx} (K : PySem.W.Frag) (h : X.K = K) : CallR X (.builtin "isinstance") (rIsX K) := by
  subst h; exact call_isX
theorem ix_seqK {X : Cx} (K : PySem.W.Frag) (h : X.K = K) : IxR X (rIx K) := by
  subst h; exact ix_seq
end L2

namespace Bt
open PySem L2
/-! ### the text by places -/
def top (i : Nat) : Stmt := PySem.Challenge.pw_beamtender_k09_first_refusal.main.body.getD i (.Pass ⟨0, 0, 0, 0⟩)
abbrev s_BeamError_init : Stmt := inClass (top 1) 0
abbrev s_NoWeight_init : Stmt := inClass (top 4) 0
abbrev s_NoPlace_init : Stmt := inClass (top 5) 0
abbrev s_SamePlace_init : Stmt := inClass (top 6) 0
abbrev s_NoRoom_init : Stmt := inClass (top 7) 0
abbrev s_TipsInHand_init : Stmt := inClass (top 8) 0
abbrev s_TipsBehind_init : Stmt := inClass (top 9) 0
abbrev s_Beam_init : Stmt := inClass (top 17) 0
abbrev s_outside : Stmt := top 18
abbrev s_check_bounds : Stmt := top 19
abbrev s_check_hefts : Stmt := top 20
abbrev s_check_standings : Stmt := top 21
abbrev s_as_standing : Stmt := top 22
abbrev s_tilt : Stmt := top 24
abbrev s_past : Stmt := top 25
abbrev s_in_hand : Stmt := top 26
abbrev s_refusal : Stmt := top 28
abbrev s_moved : Stmt := top 29
abbrev s_behind : Stmt := top 30
abbrev s_full : Stmt := top 31
abbrev s_check_move : Stmt := top 32
abbrev s_check_weight : Stmt := top 33
abbrev s_check_put : Stmt := top 34
abbrev s_check_tilts : Stmt := top 35
abbrev s_w_at : Stmt := top 37
abbrev s_w_whole : Stmt := top 38
abbrev s_w_figs : Stmt := top 39
abbrev s_w_shape : Stmt := top 40
abbrev s_w_put : Stmt := top 41
abbrev s_w_tilt : Stmt := top 42
abbrev s_w_word : Stmt := top 43
abbrev s_w_same : Stmt := top 44
abbrev s_w_move : Stmt := top 45
abbrev s_w_told : Stmt := top 46
abbrev s_w_one : Stmt := top 47
abbrev s_law : Stmt := top 48
theorem sc_BeamError_init : FnScope ["self", "reason", "word"] ["self", "reason", "word"] (defScope s_BeamError_init) := ⟨rfl, rfl, rfl, by decide +kernel, rfl, by decide +kernel, by decide +kernel⟩
theorem sc_NoWeight_init : FnScope ["self", "reason"] ["self", "reason"] (defScope s_NoWeight_init) := ⟨rfl, rfl, rfl, by decide +kernel, rfl, by decide +kernel, by decide +kernel⟩
theorem sc_NoPlace_init : FnScope ["self", "reason"] ["self", "reason"] (defScope s_NoPlace_init) := ⟨rfl, rfl, rfl, by decide +kernel, rfl, by decide +kernel, by decide +kernel⟩
theorem sc_SamePlace_init : FnScope ["self", "reason"] ["self", "reason"] (defScope s_SamePlace_init) := ⟨rfl, rfl, rfl, by decide +kernel, rfl, by decide +kernel, by decide +kernel⟩
theorem sc_NoRoom_init : FnScope ["self", "reason"] ["self", "reason"] (defScope s_NoRoom_init) := ⟨rfl, rfl, rfl, by decide +kernel, rfl, by decide +kernel, by decide +kernel⟩
theorem sc_TipsInHand_init : FnScope ["self", "reason"] ["self", "reason"] (defScope s_TipsInHand_init) := ⟨rfl, rfl, rfl, by decide +kernel, rfl, by decide +kernel, by decide +kernel⟩
theorem sc_TipsBehind_init : FnScope ["self", "reason"] ["self", "reason"] (defScope s_TipsBehind_init) := ⟨rfl, rfl, rfl, by decide +kernel, rfl, by decide +kernel, by decide +kernel⟩
theorem sc_Beam_init : FnScope ["self", "notches", "room", "hefts", "limit"] ["self", "notches", "room", "hefts", "limit"] (defScope s_Beam_init) := ⟨rfl, rfl, rfl, by decide +kernel, rfl, by decide +kernel, by decide +kernel⟩
theorem sc_outside : FnScope ["number", "low", "high"] ["number", "low", "high"] (defScope s_outside) := ⟨rfl, rfl, rfl, by decide +kernel, rfl, by decide +kernel, by decide +kernel⟩
theorem sc_check_bounds : FnScope ["notches", "room", "limit"] ["notches", "room", "limit"] (defScope s_check_bounds) := ⟨rfl, rfl, rfl, by decide +kernel, rfl, by decide +kernel, by decide +kernel⟩
theorem sc_check_hefts : FnScope ["hefts", "heft"] ["hefts"] (defScope s_check_hefts) := ⟨rfl, rfl, rfl, by decide +kernel, rfl, by decide +kernel, by decide +kernel⟩
theorem sc_check_standings : FnScope ["notches", "weights", "many", "weight"] ["notches", "weights"] (defScope s_check_standings) := ⟨rfl, rfl, rfl, by decide +kernel, rfl, by decide +kernel, by decide +kernel⟩
theorem sc_as_standing : FnScope ["beam", "standing", "places", "place"] ["beam", "standing"] (defScope s_as_standing) := ⟨rfl, rfl, rfl, by decide +kernel, rfl, by decide +kernel, by decide +kernel⟩
theorem sc_tilt : FnScope ["beam", "standing", "places"] ["beam", "standing"] (defScope s_tilt) := ⟨rfl, rfl, rfl, by decide +kernel, rfl, by decide +kernel, by decide +kernel⟩
theorem cs_tilt_0 : CompScope ["beam", "standing", "places"] (defScope s_tilt) (exScope (exArg (stE (stAt (defBody s_tilt) 1)) 0)) ["heft", "place"] [none, none] := ⟨rfl, by decide +kernel, by decide +kernel, by decide +kernel, rfl, by decide +kernel, by decide +kernel⟩
theorem sc_past : FnScope ["beam", "tipped"] ["beam", "tipped"] (defScope s_past) := ⟨rfl, rfl, rfl, by decide +kernel, rfl, by decide +kernel, by decide +kernel⟩
theorem sc_in_hand : FnScope ["beam", "standing", "weight", "places"] ["beam", "standing", "weight"] (defScope s_in_hand) := ⟨rfl, rfl, rfl, by decide +kernel, rfl, by decide +kernel, by decide +kernel⟩
theorem sc_refusal : FnScope ["beam", "standing", "move", "places", "e"] ["beam", "standing", "move"] (defScope s_refusal) := ⟨rfl, rfl, rfl, by decide +kernel, rfl, by decide +kernel, by decide +kernel⟩
theorem sc_moved : FnScope ["beam", "standing", "move", "places"] ["beam", "standing", "move"] (defScope s_moved) := ⟨rfl, rfl, rfl, by decide +kernel, rfl, by decide +kernel, by decide +kernel⟩
theorem sc_behind : FnScope ["places", "move"] ["places", "move"] (defScope s_behind) := ⟨rfl, rfl, rfl, by decide +kernel, rfl, by decide +kernel, by decide +kernel⟩
theorem sc_full : FnScope ["beam", "places", "place"] ["beam", "places", "place"] (defScope s_full) := ⟨rfl, rfl, rfl, by decide +kernel, rfl, by decide +kernel, by decide +kernel⟩
theorem sc_check_move : FnScope ["beam", "places", "weight", "taken", "put"] ["beam", "places", "weight", "taken", "put"] (defScope s_check_move) := ⟨rfl, rfl, rfl, by decide +kernel, rfl, by decide +kernel, by decide +kernel⟩
theorem sc_check_weight : FnScope ["places", "weight", "taken"] ["places", "weight", "taken"] (defScope s_check_weight) := ⟨rfl, rfl, rfl, by decide +kernel, rfl, by decide +kernel, by decide +kernel⟩
theorem sc_check_put : FnScope ["beam", "places", "taken", "put"] ["beam", "places", "taken", "put"] (defScope s_check_put) := ⟨rfl, rfl, rfl, by decide +kernel, rfl, by decide +kernel, by decide +kernel⟩
theorem sc_check_tilts : FnScope ["beam", "held", "added"] ["beam", "held", "added"] (defScope s_check_tilts) := ⟨rfl, rfl, rfl, by decide +kernel, rfl, by decide +kernel, by decide +kernel⟩
theorem sc_w_at : FnScope ["_law_script", "_law_k"] ["_law_script", "_law_k"] (defScope s_w_at) := ⟨rfl, rfl, rfl, by decide +kernel, rfl, by decide +kernel, by decide +kernel⟩
theorem sc_w_whole : FnScope ["_law_found"] ["_law_found"] (defScope s_w_whole) := ⟨rfl, rfl, rfl, by decide +kernel, rfl, by decide +kernel, by decide +kernel⟩
theorem sc_w_figs : FnScope ["_law_cell", "_law_count", "_law_base", "_law_mix", "_law_made", "_law_rest", "_law_k"] ["_law_cell", "_law_count", "_law_base", "_law_mix"] (defScope s_w_figs) := ⟨rfl, rfl, rfl, by decide +kernel, rfl, by decide +kernel, by decide +kernel⟩
theorem sc_w_shape : FnScope ["_law_script", "_law_cell", "_law_notches", "_law_count", "_law_room", "_law_mode", "_law_hefts"] ["_law_script"] (defScope s_w_shape) := ⟨rfl, rfl, rfl, by decide +kernel, rfl, by decide +kernel, by decide +kernel⟩
theorem cs_w_shape_0 : CompScope ["_law_script", "_law_cell", "_law_notches", "_law_count", "_law_room", "_law_mode", "_law_hefts"] (defScope s_w_shape) (exScope (stE (stAt (defBody s_w_shape) 5))) ["_law_x"] [none] := ⟨rfl, by decide +kernel, by decide +kernel, by decide +kernel, rfl, by decide +kernel, by decide +kernel⟩
theorem sc_w_put : FnScope ["_law_script", "_law_k", "_law_more", "_law_shape_here", "_law_notches", "_law_room", "_law_hefts", "_law_mix", "_law_cell", "_law_made", "_law_x", "_law_place"] ["_law_script", "_law_k", "_law_more", "_law_shape_here"] (defScope s_w_put) := ⟨rfl, rfl, rfl, by decide +kernel, rfl, by decide +kernel, by decide +kernel⟩
theorem sc_w_tilt : FnScope ["_law_hefts", "_law_spots", "_law_total", "_law_k"] ["_law_hefts", "_law_spots"] (defScope s_w_tilt) := ⟨rfl, rfl, rfl, by decide +kernel, rfl, by decide +kernel, by decide +kernel⟩
theorem sc_w_word : FnScope ["_law_scale", "_law_spots", "_law_move_here", "_law_notches", "_law_room", "_law_hefts", "_law_limit", "_law_weight", "_law_source", "_law_target", "_law_lifted"] ["_law_scale", "_law_spots", "_law_move_here"] (defScope s_w_word) := ⟨rfl, rfl, rfl, by decide +kernel, rfl, by decide +kernel, by decide +kernel⟩
theorem sc_w_same : FnScope ["_law_found", "_law_due", "_law_k"] ["_law_found", "_law_due"] (defScope s_w_same) := ⟨rfl, rfl, rfl, by decide +kernel, rfl, by decide +kernel, by decide +kernel⟩
theorem sc_w_move : FnScope ["_law_cell", "_law_hefts", "_law_notches", "_law_spots", "_law_weight", "_law_rest", "_law_source", "_law_target"] ["_law_cell", "_law_hefts", "_law_notches", "_law_spots"] (defScope s_w_move) := ⟨rfl, rfl, rfl, by decide +kernel, rfl, by decide +kernel, by decide +kernel⟩
theorem cs_w_move_0 : CompScope ["_law_cell", "_law_hefts", "_law_notches", "_law_spots", "_law_weight", "_law_rest", "_law_source", "_law_target"] (defScope s_w_move) (exScope (stE (stAt (stBody (stAt (defBody s_w_move) 0)) 0))) ["_law_x"] [none] := ⟨rfl, by decide +kernel, by decide +kernel, by decide +kernel, rfl, by decide +kernel, by decide +kernel⟩
theorem sc_w_told : FnScope ["_law_beam", "_law_handed", "_law_move_here", "_law_told_here", "_law_kinds", "_law_found", "e", "_law_names", "_law_k"] ["_law_beam", "_law_handed", "_law_move_here"] (defScope s_w_told) := ⟨rfl, rfl, rfl, by decide +kernel, rfl, by decide +kernel, by decide +kernel⟩
theorem sc_w_one : FnScope ["_law_beam", "_law_scale", "_law_spots", "_law_move_here", "_law_due", "_law_turn", "_law_handed", "_law_taken", "_law_word_here", "_law_told_here", "_law_found", "_law_kinds", "_law_behind"] ["_law_beam", "_law_scale", "_law_spots", "_law_move_here"] (defScope s_w_one) := ⟨rfl, rfl, rfl, by decide +kernel, rfl, by decide +kernel, by decide +kernel⟩
theorem sc_law : FnScope ["_law_script", "_law_shape_here", "_law_notches", "_law_room", "_law_hefts", "_law_spots", "_law_cell", "_law_size", "_law_limit", "_law_beam", "_law_cells", "_law_k", "_law_move_here"] ["_law_script"] (defScope s_law) := ⟨rfl, rfl, rfl, by decide +kernel, rfl, by decide +kernel, by decide +kernel⟩
/-! ### what the top has written -/
set_option genInjectivity false in
set_option genSizeOf false in
structure Adr where
  a_BeamError_init : Addr
  d_BeamError_init : FuncData
  a_NoWeight_init : Addr
  d_NoWeight_init : FuncData
  a_NoPlace_init : Addr
  d_NoPlace_init : FuncData
  a_SamePlace_init : Addr
  d_SamePlace_init : FuncData
  a_NoRoom_init : Addr
  d_NoRoom_init : FuncData
  a_TipsInHand_init : Addr
  d_TipsInHand_init : FuncData
  a_TipsBehind_init : Addr
  d_TipsBehind_init : FuncData
  a_Beam_init : Addr
  d_Beam_init : FuncData
  a_outside : Addr
  d_outside : FuncData
  a_check_bounds : Addr
  d_check_bounds : FuncData
  a_check_hefts : Addr
  d_check_hefts : FuncData
  a_check_standings : Addr
  d_check_standings : FuncData
  a_as_standing : Addr
  d_as_standing : FuncData
  a_tilt : Addr
  d_tilt : FuncData
  a_past : Addr
  d_past : FuncData
  a_in_hand : Addr
  d_in_hand : FuncData
  a_refusal : Addr
  d_refusal : FuncData
  a_moved : Addr
  d_moved : FuncData
  a_behind : Addr
  d_behind : FuncData
  a_full : Addr
  d_full : FuncData
  a_check_move : Addr
  d_check_move : FuncData
  a_check_weight : Addr
  d_check_weight : FuncData
  a_check_put : Addr
  d_check_put : FuncData
  a_check_tilts : Addr
  d_check_tilts : FuncData
  a_w_at : Addr
  d_w_at : FuncData
  a_w_whole : Addr
  d_w_whole : FuncData
  a_w_figs : Addr
  d_w_figs : FuncData
  a_w_shape : Addr
  d_w_shape : FuncData
  a_w_put : Addr
  d_w_put : FuncData
  a_w_tilt : Addr
  d_w_tilt : FuncData
  a_w_word : Addr
  d_w_word : FuncData
  a_w_same : Addr
  d_w_same : FuncData
  a_w_move : Addr
  d_w_move : FuncData
  a_w_told : Addr
  d_w_told : FuncData
  a_w_one : Addr
  d_w_one : FuncData
  a_law : Addr
  d_law : FuncData
  c_Beam : Addr
  c_NoWeight : Addr
  c_NoPlace : Addr
  c_SamePlace : Addr
  c_NoRoom : Addr
  c_TipsInHand : Addr
  c_TipsBehind : Addr
  c_BeamError : Addr
  q_MOST_NOTCHES : Tok
  q_MOST_ROOM : Tok
  q_MOST_LIMIT : Tok
  q_MOST_WEIGHTS : Tok
  q_MOST_HEFT : Tok
  q_MOST_STANDINGS : Tok
structure Txt (K : PySem.W.Frag) (mg : Str → Option Value) (t : Adr) : Prop where
  F_BeamError_init : FunD K "__init__" "BeamError.__init__" s_BeamError_init t.a_BeamError_init t.d_BeamError_init
  b_BeamError_init : Binds K t.d_BeamError_init ["self", "reason", "word"] []
  k_BeamError_init : PySem.W.keepIn K (.ref t.a_BeamError_init) = true
  F_NoWeight_init : FunD K "__init__" "NoWeight.__init__" s_NoWeight_init t.a_NoWeight_init t.d_NoWeight_init
  b_NoWeight_init : Binds K t.d_NoWeight_init ["self", "reason"] []
  k_NoWeight_init : PySem.W.keepIn K (.ref t.a_NoWeight_init) = true
  F_NoPlace_init : FunD K "__init__" "NoPlace.__init__" s_NoPlace_init t.a_NoPlace_init t.d_NoPlace_init
  b_NoPlace_init : Binds K t.d_NoPlace_init ["self", "reason"] []
  k_NoPlace_init : PySem.W.keepIn K (.ref t.a_NoPlace_init) = true
  F_SamePlace_init : FunD K "__init__" "SamePlace.__init__" s_SamePlace_init t.a_SamePlace_init t.d_SamePlace_init
  b_SamePlace_init : Binds K t.d_SamePlace_init ["self", "reason"] []
  k_SamePlace_init : PySem.W.keepIn K (.ref t.a_SamePlace_init) = true
  F_NoRoom_init : FunD K "__init__" "NoRoom.__init__" s_NoRoom_init t.a_NoRoom_init t.d_NoRoom_init
  b_NoRoom_init : Binds K t.d_NoRoom_init ["self", "reason"] []
  k_NoRoom_init : PySem.W.keepIn K (.ref t.a_NoRoom_init) = true
  F_TipsInHand_init : FunD K "__init__" "TipsInHand.__init__" s_TipsInHand_init t.a_TipsInHand_init t.d_TipsInHand_init
  b_TipsInHand_init : Binds K t.d_TipsInHand_init ["self", "reason"] []
  k_TipsInHand_init : PySem.W.keepIn K (.ref t.a_TipsInHand_init) = true
  F_TipsBehind_init : FunD K "__init__" "TipsBehind.__init__" s_TipsBehind_init t.a_TipsBehind_init t.d_TipsBehind_init
  b_TipsBehind_init : Binds K t.d_TipsBehind_init ["self", "reason"] []
  k_TipsBehind_init : PySem.W.keepIn K (.ref t.a_TipsBehind_init) = true
  F_Beam_init : Fun K "__init__" "Beam.__init__" s_Beam_init t.a_Beam_init t.d_Beam_init
  b_Beam_init : Binds K t.d_Beam_init ["self", "notches", "room", "hefts", "limit"] []
  k_Beam_init : PySem.W.keepIn K (.ref t.a_Beam_init) = true
  F_outside : Fun K "outside" "outside" s_outside t.a_outside t.d_outside
  b_outside : Binds K t.d_outside ["number", "low", "high"] []
  m_outside : mg "outside" = some (.ref t.a_outside)
  k_outside : PySem.W.keepIn K (.ref t.a_outside) = true
  F_check_bounds : Fun K "check_bounds" "check_bounds" s_check_bounds t.a_check_bounds t.d_check_bounds
  b_check_bounds : Binds K t.d_check_bounds ["notches", "room", "limit"] []
  m_check_bounds : mg "check_bounds" = some (.ref t.a_check_bounds)
  k_check_bounds : PySem.W.keepIn K (.ref t.a_check_bounds) = true
  F_check_hefts : Fun K "check_hefts" "check_hefts" s_check_hefts t.a_check_hefts t.d_check_hefts
  b_check_hefts : Binds K t.d_check_hefts ["hefts"] []
  m_check_hefts : mg "check_hefts" = some (.ref t.a_check_hefts)
  k_check_hefts : PySem.W.keepIn K (.ref t.a_check_hefts) = true
  F_check_standings : Fun K "check_standings" "check_standings" s_check_standings t.a_check_standings t.d_check_standings
  b_check_standings : Binds K t.d_check_standings ["notches", "weights"] []
  m_check_standings : mg "check_standings" = some (.ref t.a_check_standings)
  k_check_standings : PySem.W.keepIn K (.ref t.a_check_standings) = true
  F_as_standing : Fun K "as_standing" "as_standing" s_as_standing t.a_as_standing t.d_as_standing
  b_as_standing : Binds K t.d_as_standing ["beam", "standing"] []
  m_as_standing : mg "as_standing" = some (.ref t.a_as_standing)
  k_as_standing : PySem.W.keepIn K (.ref t.a_as_standing) = true
  F_tilt : Fun K "tilt" "tilt" s_tilt t.a_tilt t.d_tilt
  b_tilt : Binds K t.d_tilt ["beam", "standing"] []
  m_tilt : mg "tilt" = some (.ref t.a_tilt)
  k_tilt : PySem.W.keepIn K (.ref t.a_tilt) = true
  F_past : Fun K "past" "past" s_past t.a_past t.d_past
  b_past : Binds K t.d_past ["beam", "tipped"] []
  m_past : mg "past" = some (.ref t.a_past)
  k_past : PySem.W.keepIn K (.ref t.a_past) = true
  F_in_hand : Fun K "in_hand" "in_hand" s_in_hand t.a_in_hand t.d_in_hand
  b_in_hand : Binds K t.d_in_hand ["beam", "standing", "weight"] []
  m_in_hand : mg "in_hand" = some (.ref t.a_in_hand)
  k_in_hand : PySem.W.keepIn K (.ref t.a_in_hand) = true
  F_refusal : Fun K "refusal" "refusal" s_refusal t.a_refusal t.d_refusal
  b_refusal : Binds K t.d_refusal ["beam", "standing", "move"] []
  m_refusal : mg "refusal" = some (.ref t.a_refusal)
  k_refusal : PySem.W.keepIn K (.ref t.a_refusal) = true
  F_moved : Fun K "moved" "moved" s_moved t.a_moved t.d_moved
  b_moved : Binds K t.d_moved ["beam", "standing", "move"] []
  m_moved : mg "moved" = some (.ref t.a_moved)
  k_moved : PySem.W.keepIn K (.ref t.a_moved) = true
  F_behind : Fun K "behind" "behind" s_behind t.a_behind t.d_behind
  b_behind : Binds K t.d_behind ["places", "move"] []
  m_behind : mg "behind" = some (.ref t.a_behind)
  k_behind : PySem.W.keepIn K (.ref t.a_behind) = true
  F_full : Fun K "full" "full" s_full t.a_full t.d_full
  b_full : Binds K t.d_full ["beam", "places", "place"] []
  m_full : mg "full" = some (.ref t.a_full)
  k_full : PySem.W.keepIn K (.ref t.a_full) = true
  F_check_move : Fun K "check_move" "check_move" s_check_move t.a_check_move t.d_check_move
  b_check_move : Binds K t.d_check_move ["beam", "places", "weight", "taken", "put"] []
  m_check_move : mg "check_move" = some (.ref t.a_check_move)
  k_check_move : PySem.W.keepIn K (.ref t.a_check_move) = true
  F_check_weight : Fun K "check_weight" "check_weight" s_check_weight t.a_check_weight t.d_check_weight
  b_check_weight : Binds K t.d_check_weight ["places", "weight", "taken"] []
  m_check_weight : mg "check_weight" = some (.ref t.a_check_weight)
  k_check_weight : PySem.W.keepIn K (.ref t.a_check_weight) = true
  F_check_put : Fun K "check_put" "check_put" s_check_put t.a_check_put t.d_check_put
  b_check_put : Binds K t.d_check_put ["beam", "places", "taken", "put"] []
  m_check_put : mg "check_put" = some (.ref t.a_check_put)
  k_check_put : PySem.W.keepIn K (.ref t.a_check_put) = true
  F_check_tilts : Fun K "check_tilts" "check_tilts" s_check_tilts t.a_check_tilts t.d_check_tilts
  b_check_tilts : Binds K t.d_check_tilts ["beam", "held", "added"] []
  m_check_tilts : mg "check_tilts" = some (.ref t.a_check_tilts)
  k_check_tilts : PySem.W.keepIn K (.ref t.a_check_tilts) = true
  F_w_at : Fun K "_law_at" "_law_at" s_w_at t.a_w_at t.d_w_at
  b_w_at : Binds K t.d_w_at ["_law_script", "_law_k"] []
  m_w_at : mg "_law_at" = some (.ref t.a_w_at)
  k_w_at : PySem.W.keepIn K (.ref t.a_w_at) = true
  F_w_whole : Fun K "_law_whole" "_law_whole" s_w_whole t.a_w_whole t.d_w_whole
  b_w_whole : Binds K t.d_w_whole ["_law_found"] []
  m_w_whole : mg "_law_whole" = some (.ref t.a_w_whole)
  k_w_whole : PySem.W.keepIn K (.ref t.a_w_whole) = true
  F_w_figs : Fun K "_law_figs" "_law_figs" s_w_figs t.a_w_figs t.d_w_figs
  b_w_figs : Binds K t.d_w_figs ["_law_cell", "_law_count", "_law_base", "_law_mix"] []
  m_w_figs : mg "_law_figs" = some (.ref t.a_w_figs)
  k_w_figs : PySem.W.keepIn K (.ref t.a_w_figs) = true
  F_w_shape : Fun K "_law_shape" "_law_shape" s_w_shape t.a_w_shape t.d_w_shape
  b_w_shape : Binds K t.d_w_shape ["_law_script"] []
  m_w_shape : mg "_law_shape" = some (.ref t.a_w_shape)
  k_w_shape : PySem.W.keepIn K (.ref t.a_w_shape) = true
  F_w_put : Fun K "_law_put" "_law_put" s_w_put t.a_w_put t.d_w_put
  b_w_put : Binds K t.d_w_put ["_law_script", "_law_k", "_law_more", "_law_shape_here"] []
  m_w_put : mg "_law_put" = some (.ref t.a_w_put)
  k_w_put : PySem.W.keepIn K (.ref t.a_w_put) = true
  F_w_tilt : Fun K "_law_tilt" "_law_tilt" s_w_tilt t.a_w_tilt t.d_w_tilt
  b_w_tilt : Binds K t.d_w_tilt ["_law_hefts", "_law_spots"] []
  m_w_tilt : mg "_law_tilt" = some (.ref t.a_w_tilt)
  k_w_tilt : PySem.W.keepIn K (.ref t.a_w_tilt) = true
  F_w_word : Fun K "_law_word" "_law_word" s_w_word t.a_w_word t.d_w_word
  b_w_word : Binds K t.d_w_word ["_law_scale", "_law_spots", "_law_move_here"] []
  m_w_word : mg "_law_word" = some (.ref t.a_w_word)
  k_w_word : PySem.W.keepIn K (.ref t.a_w_word) = true
  F_w_same : Fun K "_law_same" "_law_same" s_w_same t.a_w_same t.d_w_same
  b_w_same : Binds K t.d_w_same ["_law_found", "_law_due"] []
  m_w_same : mg "_law_same" = some (.ref t.a_w_same)
  k_w_same : PySem.W.keepIn K (.ref t.a_w_same) = true
  F_w_move : Fun K "_law_move" "_law_move" s_w_move t.a_w_move t.d_w_move
  b_w_move : Binds K t.d_w_move ["_law_cell", "_law_hefts", "_law_notches", "_law_spots"] []
  m_w_move : mg "_law_move" = some (.ref t.a_w_move)
  k_w_move : PySem.W.keepIn K (.ref t.a_w_move) = true
  F_w_told : Fun K "_law_told" "_law_told" s_w_told t.a_w_told t.d_w_told
  b_w_told : Binds K t.d_w_told ["_law_beam", "_law_handed", "_law_move_here"] []
  m_w_told : mg "_law_told" = some (.ref t.a_w_told)
  k_w_told : PySem.W.keepIn K (.ref t.a_w_told) = true
  F_w_one : Fun K "_law_one" "_law_one" s_w_one t.a_w_one t.d_w_one
  b_w_one : Binds K t.d_w_one ["_law_beam", "_law_scale", "_law_spots", "_law_move_here"] []
  m_w_one : mg "_law_one" = some (.ref t.a_w_one)
  k_w_one : PySem.W.keepIn K (.ref t.a_w_one) = true
  F_law : Fun K "law" "law" s_law t.a_law t.d_law
  b_law : Binds K t.d_law ["_law_script"] []
  m_law : mg "law" = some (.ref t.a_law)
  k_law : PySem.W.keepIn K (.ref t.a_law) = true
  cl_Beam : Cls K t.c_Beam
  m_Beam : mg "Beam" = some (.ref t.c_Beam)
  mk_Beam : Mk K t.c_Beam t.a_Beam_init
  na_Beam_notches : NoAttr K t.c_Beam "notches"
  na_Beam_room : NoAttr K t.c_Beam "room"
  na_Beam_hefts : NoAttr K t.c_Beam "hefts"
  na_Beam_limit : NoAttr K t.c_Beam "limit"
  m_NoWeight : mg "NoWeight" = some (.ref t.c_NoWeight)
  m_NoPlace : mg "NoPlace" = some (.ref t.c_NoPlace)
  m_SamePlace : mg "SamePlace" = some (.ref t.c_SamePlace)
  m_NoRoom : mg "NoRoom" = some (.ref t.c_NoRoom)
  m_TipsInHand : mg "TipsInHand" = some (.ref t.c_TipsInHand)
  m_TipsBehind : mg "TipsBehind" = some (.ref t.c_TipsBehind)
  m_BeamError : mg "BeamError" = some (.ref t.c_BeamError)
  x_NoWeight : XCls K t.c_NoWeight
  x_NoPlace : XCls K t.c_NoPlace
  x_SamePlace : XCls K t.c_SamePlace
  x_NoRoom : XCls K t.c_NoRoom
  x_TipsInHand : XCls K t.c_TipsInHand
  x_TipsBehind : XCls K t.c_TipsBehind
  i_NoWeight : PySem.W.findIn K (.ref t.c_NoWeight) "__init__" = some (some (.ref t.a_NoWeight_init))
  if_NoWeight : PySem.W.isFn K (.ref t.a_NoWeight_init) = true
  na_NoWeight_reason : NoAttr K t.c_NoWeight "reason"
  na_NoWeight_word : NoAttr K t.c_NoWeight "word"
  i_NoPlace : PySem.W.findIn K (.ref t.c_NoPlace) "__init__" = some (some (.ref t.a_NoPlace_init))
  if_NoPlace : PySem.W.isFn K (.ref t.a_NoPlace_init) = true
  na_NoPlace_reason : NoAttr K t.c_NoPlace "reason"
  na_NoPlace_word : NoAttr K t.c_NoPlace "word"
  i_SamePlace : PySem.W.findIn K (.ref t.c_SamePlace) "__init__" = some (some (.ref t.a_SamePlace_init))
  if_SamePlace : PySem.W.isFn K (.ref t.a_SamePlace_init) = true
  na_SamePlace_reason : NoAttr K t.c_SamePlace "reason"
  na_SamePlace_word : NoAttr K t.c_SamePlace "word"
  i_NoRoom : PySem.W.findIn K (.ref t.c_NoRoom) "__init__" = some (some (.ref t.a_NoRoom_init))
  if_NoRoom : PySem.W.isFn K (.ref t.a_NoRoom_init) = true
  na_NoRoom_reason : NoAttr K t.c_NoRoom "reason"
  na_NoRoom_word : NoAttr K t.c_NoRoom "word"
  i_TipsInHand : PySem.W.findIn K (.ref t.c_TipsInHand) "__init__" = some (some (.ref t.a_TipsInHand_init))
  if_TipsInHand : PySem.W.isFn K (.ref t.a_TipsInHand_init) = true
  na_TipsInHand_reason : NoAttr K t.c_TipsInHand "reason"
  na_TipsInHand_word : NoAttr K t.c_TipsInHand "word"
  i_TipsBehind : PySem.W.findIn K (.ref t.c_TipsBehind) "__init__" = some (some (.ref t.a_TipsBehind_init))
  if_TipsBehind : PySem.W.isFn K (.ref t.a_TipsBehind_init) = true
  na_TipsBehind_reason : NoAttr K t.c_TipsBehind "reason"
  na_TipsBehind_word : NoAttr K t.c_TipsBehind "word"
  xw : XWay K
  xa_NoWeight : XAsk K t.c_NoWeight
  xm_NoWeight_BeamError : PySem.W.exmOne K (.ref t.c_NoWeight) (.ref t.c_BeamError) = some true
  kt_NoWeight_NoWeight : PySem.W.kitOne K (.ref t.c_NoWeight) (.ref t.c_NoWeight) = some true
  kt_NoWeight_NoPlace : PySem.W.kitOne K (.ref t.c_NoWeight) (.ref t.c_NoPlace) = some false
  kt_NoWeight_SamePlace : PySem.W.kitOne K (.ref t.c_NoWeight) (.ref t.c_SamePlace) = some false
  kt_NoWeight_NoRoom : PySem.W.kitOne K (.ref t.c_NoWeight) (.ref t.c_NoRoom) = some false
  kt_NoWeight_TipsInHand : PySem.W.kitOne K (.ref t.c_NoWeight) (.ref t.c_TipsInHand) = some false
  kt_NoWeight_TipsBehind : PySem.W.kitOne K (.ref t.c_NoWeight) (.ref t.c_TipsBehind) = some false
  kt_NoWeight_ValueError : PySem.W.kitOne K (.ref t.c_NoWeight) (.type "ValueError") = some true
  xa_NoPlace : XAsk K t.c_NoPlace
  xm_NoPlace_BeamError : PySem.W.exmOne K (.ref t.c_NoPlace) (.ref t.c_BeamError) = some true
  kt_NoPlace_NoWeight : PySem.W.kitOne K (.ref t.c_NoPlace) (.ref t.c_NoWeight) = some false
  kt_NoPlace_NoPlace : PySem.W.kitOne K (.ref t.c_NoPlace) (.ref t.c_NoPlace) = some true
  kt_NoPlace_SamePlace : PySem.W.kitOne K (.ref t.c_NoPlace) (.ref t.c_SamePlace) = some false
  kt_NoPlace_NoRoom : PySem.W.kitOne K (.ref t.c_NoPlace) (.ref t.c_NoRoom) = some false
  kt_NoPlace_TipsInHand : PySem.W.kitOne K (.ref t.c_NoPlace) (.ref t.c_TipsInHand) = some false
  kt_NoPlace_TipsBehind : PySem.W.kitOne K (.ref t.c_NoPlace) (.ref t.c_TipsBehind) = some false
  kt_NoPlace_ValueError : PySem.W.kitOne K (.ref t.c_NoPlace) (.type "ValueError") = some true
  xa_SamePlace : XAsk K t.c_SamePlace
  xm_SamePlace_BeamError : PySem.W.exmOne K (.ref t.c_SamePlace) (.ref t.c_BeamError) = some true
  kt_SamePlace_NoWeight : PySem.W.kitOne K (.ref t.c_SamePlace) (.ref t.c_NoWeight) = some false
  kt_SamePlace_NoPlace : PySem.W.kitOne K (.ref t.c_SamePlace) (.ref t.c_NoPlace) = some false
  kt_SamePlace_SamePlace : PySem.W.kitOne K (.ref t.c_SamePlace) (.ref t.c_SamePlace) = some true
  kt_SamePlace_NoRoom : PySem.W.kitOne K (.ref t.c_SamePlace) (.ref t.c_NoRoom) = some false
  kt_SamePlace_TipsInHand : PySem.W.kitOne K (.ref t.c_SamePlace) (.ref t.c_TipsInHand) = some false
  kt_SamePlace_TipsBehind : PySem.W.kitOne K (.ref t.c_SamePlace) (.ref t.c_TipsBehind) = some false
  kt_SamePlace_ValueError : PySem.W.kitOne K (.ref t.c_SamePlace) (.type "ValueError") = some true
  xa_NoRoom : XAsk K t.c_NoRoom
  xm_NoRoom_BeamError : PySem.W.exmOne K (.ref t.c_NoRoom) (.ref t.c_BeamError) = some true
  kt_NoRoom_NoWeight : PySem.W.kitOne K (.ref t.c_NoRoom) (.ref t.c_NoWeight) = some false
  kt_NoRoom_NoPlace : PySem.W.kitOne K (.ref t.c_NoRoom) (.ref t.c_NoPlace) = some false
  kt_NoRoom_SamePlace : PySem.W.kitOne K (.ref t.c_NoRoom) (.ref t.c_SamePlace) = some false
  kt_NoRoom_NoRoom : PySem.W.kitOne K (.ref t.c_NoRoom) (.ref t.c_NoRoom) = some true
  kt_NoRoom_TipsInHand : PySem.W.kitOne K (.ref t.c_NoRoom) (.ref t.c_TipsInHand) = some false
  kt_NoRoom_TipsBehind : PySem.W.kitOne K (.ref t.c_NoRoom) (.ref t.c_TipsBehind) = some false
  kt_NoRoom_ValueError : PySem.W.kitOne K (.ref t.c_NoRoom) (.type "ValueError") = some true
  xa_TipsInHand : XAsk K t.c_TipsInHand
  xm_TipsInHand_BeamError : PySem.W.exmOne K (.ref t.c_TipsInHand) (.ref t.c_BeamError) = some true
  kt_TipsInHand_NoWeight : PySem.W.kitOne K (.ref t.c_TipsInHand) (.ref t.c_NoWeight) = some false
  kt_TipsInHand_NoPlace : PySem.W.kitOne K (.ref t.c_TipsInHand) (.ref t.c_NoPlace) = some false
  kt_TipsInHand_SamePlace : PySem.W.kitOne K (.ref t.c_TipsInHand) (.ref t.c_SamePlace) = some false
  kt_TipsInHand_NoRoom : PySem.W.kitOne K (.ref t.c_TipsInHand) (.ref t.c_NoRoom) = some false
  kt_TipsInHand_TipsInHand : PySem.W.kitOne K (.ref t.c_TipsInHand) (.ref t.c_TipsInHand) = some true
  kt_TipsInHand_TipsBehind : PySem.W.kitOne K (.ref t.c_TipsInHand) (.ref t.c_TipsBehind) = some false
  kt_TipsInHand_ValueError : PySem.W.kitOne K (.ref t.c_TipsInHand) (.type "ValueError") = some true
  xa_TipsBehind : XAsk K t.c_TipsBehind
  xm_TipsBehind_BeamError : PySem.W.exmOne K (.ref t.c_TipsBehind) (.ref t.c_BeamError) = some true
  kt_TipsBehind_NoWeight : PySem.W.kitOne K (.ref t.c_TipsBehind) (.ref t.c_NoWeight) = some false
  kt_TipsBehind_NoPlace : PySem.W.kitOne K (.ref t.c_TipsBehind) (.ref t.c_NoPlace) = some false
  kt_TipsBehind_SamePlace : PySem.W.kitOne K (.ref t.c_TipsBehind) (.ref t.c_SamePlace) = some false
  kt_TipsBehind_NoRoom : PySem.W.kitOne K (.ref t.c_TipsBehind) (.ref t.c_NoRoom) = some false
  kt_TipsBehind_TipsInHand : PySem.W.kitOne K (.ref t.c_TipsBehind) (.ref t.c_TipsInHand) = some false
  kt_TipsBehind_TipsBehind : PySem.W.kitOne K (.ref t.c_TipsBehind) (.ref t.c_TipsBehind) = some true
  kt_TipsBehind_ValueError : PySem.W.kitOne K (.ref t.c_TipsBehind) (.type "ValueError") = some true
  cm_BeamError : CMeth K t.c_BeamError "__init__" t.a_BeamError_init
  n_tuple : mg "tuple" = none
  n_len : mg "len" = none
  n_range : mg "range" = none
  n_sum : mg "sum" = none
  n_zip : mg "zip" = none
  n_abs : mg "abs" = none
  n_isinstance : mg "isinstance" = none
  n_int : mg "int" = none
  n_bool : mg "bool" = none
  n_min : mg "min" = none
  n_ValueError : mg "ValueError" = none
  n_list : mg "list" = none
  n_str : mg "str" = none
  g_MOST_NOTCHES : mg "MOST_NOTCHES" = some (.int 4 t.q_MOST_NOTCHES)
  g_MOST_ROOM : mg "MOST_ROOM" = some (.int 3 t.q_MOST_ROOM)
  g_MOST_LIMIT : mg "MOST_LIMIT" = some (.int 400 t.q_MOST_LIMIT)
  g_MOST_WEIGHTS : mg "MOST_WEIGHTS" = some (.int 5 t.q_MOST_WEIGHTS)
  g_MOST_HEFT : mg "MOST_HEFT" = some (.int 20 t.q_MOST_HEFT)
  g_MOST_STANDINGS : mg "MOST_STANDINGS" = some (.int 1000 t.q_MOST_STANDINGS)
end Bt

namespace Bt
open PySem L2
/-- // by a positive divisor of at most 104 bits -/
def CDivL (i j : Int) : Prop := 0 < j ∧ j < 10000000000000000000000000000000
theorem noPyl {x y : Int} (h1 : 0 < y) (h2 : y < 10000000000000000000000000000000) : PySem.Builtin.divisionGoesByPylong x y = false := by
  have h104 : (2 : Nat) ^ 104 = 20282409603651670423947251286016 := by decide
  have hl : y.natAbs.log2 < 104 := (Nat.log2_lt (by omega)).mpr (by rw [h104]; omega)
  have hz : (y == 0) = false := by simp; omega
  have hd : ¬ (y.natAbs.log2 / 30 + 1 > 300) := by omega
  simp only [PySem.Builtin.divisionGoesByPylong, hz]
  simp [hd]
theorem op_fdivL {X : Cx} : OpR X (PySem.binaryOp .FloorDiv) (rI CDivL fun i j => .int (i / j)) := opI fun i j _ _ _ _ _ hc q => by
  have h1 : (0 : Int) < j := hc.1
  exact PyProof.Rows.floordiv_int (by omega) (by rw [Int.fdiv_eq_ediv_of_nonneg i (by omega)]; exact q) (.inl (noPyl hc.1 hc.2))

/-! ### mathematics -/
def figSt (cell base : Int) (mix : Bool) : Nat → Int × List Int
  | 0 => (if mix = true then cell * 48271 % 2147483647 else cell, [])
  | i + 1 =>
    if mix = true then (((figSt cell base mix i).1 + (0 + (i : Int)) + 1) * 69621 % 2147483647, (figSt cell base mix i).2 ++ [(((figSt cell base mix i).1 + (0 + (i : Int)) + 1) * 69621 % 2147483647) / 8 % base])
    else ((figSt cell base mix i).1 / base, (figSt cell base mix i).2 ++ [(figSt cell base mix i).1 % base])
def figs (cell : Int) (n : Nat) (base : Int) (mix : Bool) : List Int := (figSt cell base mix n).2
theorem figs_len (cell base : Int) (mix : Bool) (n : Nat) : (figs cell n base mix).length = n := by
  unfold figs
  induction n with
  | zero => rfl
  | succ n ih =>
    unfold figSt
    cases mix
    · rw [if_neg (by decide)]; simp [ih]
    · rw [if_pos rfl]; simp [ih]
theorem figs_in {cell base : Int} {mix : Bool} (hb : 0 < base) (n : Nat) : ∀ x ∈ figs cell n base mix, 0 ≤ x ∧ x < base := by
  unfold figs
  induction n with
  | zero => intro x hx; cases hx
  | succ n ih =>
    unfold figSt
    have key : ∀ z : Int, 0 ≤ z % base ∧ z % base < base := fun z => ⟨Int.emod_nonneg _ (by omega), Int.emod_lt_of_pos _ hb⟩
    intro x hx
    cases mix
    · rw [if_neg (by decide)] at hx
      rcases List.mem_append.mp hx with h | h
      · exact ih x h
      · obtain rfl := List.mem_singleton.mp h; exact key _
    · rw [if_pos rfl] at hx
      rcases List.mem_append.mp hx with h | h
      · exact ih x h
      · obtain rfl := List.mem_singleton.mp h; exact key _
/-- the sizes of a beam are kept -/
structure BeamOk (n r : Int) (hs : List Int) (lim : Int) : Prop where
  n1 : 1 ≤ n
  n2 : n ≤ 4
  r1 : 1 ≤ r
  r2 : r ≤ 3
  l1 : 0 ≤ lim
  l2 : lim ≤ 400
  w : hs.length ≤ 5
  h : ∀ x ∈ hs, 1 ≤ x ∧ x ≤ 20
  most : (2 * n + 1) ^ hs.length ≤ 1000
/-- places that are a standing of the beam -/
structure Valid (n r : Int) (w : Nat) (xs : List Int) : Prop where
  len : xs.length = w
  on : ∀ x ∈ xs, -n ≤ x ∧ x ≤ n
  room : ∀ x ∈ xs, x ≠ 0 → (xs.count x : Int) ≤ r

/-! ### the shape and the standing that a script draws -/
abbrev at0 (ns : List Int) (k : Nat) : Int := ns.getD k 0
def mixOf (ns : List Int) : Bool := decide (V.int (at0 ns 0 % 2) = V.int 1)
def shN (ns : List Int) : Int := ([2, 3, 1, 4] : List Int).getD (at0 ns 1 % 4).toNat 0
def shW (ns : List Int) : Int :=
  if ([3, 2, 4, 1, 5, 0] : List Int).getD (at0 ns 1 / 4 % 6).toNat 0 < ([5, 4, 3, 3] : List Int).getD (shN ns - 1).toNat 0 then ([3, 2, 4, 1, 5, 0] : List Int).getD (at0 ns 1 / 4 % 6).toNat 0 else ([5, 4, 3, 3] : List Int).getD (shN ns - 1).toNat 0
def shR (ns : List Int) : Int := 1 + at0 ns 1 / 24 % 3
def shH0 (ns : List Int) : List Int := (figs (at0 ns 2) (shW ns).toNat 20 (mixOf ns)).map fun x => 1 + x
def shH (ns : List Int) : List Int :=
  if at0 ns 0 / 2 % 5 = 1 then (List.replicate (shW ns).toNat ((shH0 ns).take 1)).flatten else if at0 ns 0 / 2 % 5 = 2 then (List.replicate (shW ns).toNat [20]).flatten else shH0 ns
theorem shN_cases (ns : List Int) : shN ns = 2 ∨ shN ns = 3 ∨ shN ns = 1 ∨ shN ns = 4 := by
  unfold shN
  have h1 : 0 ≤ at0 ns 1 % 4 := Int.emod_nonneg _ (by decide)
  have h2 : at0 ns 1 % 4 < 4 := Int.emod_lt_of_pos _ (by decide)
  have : at0 ns 1 % 4 = 0 ∨ at0 ns 1 % 4 = 1 ∨ at0 ns 1 % 4 = 2 ∨ at0 ns 1 % 4 = 3 := by omega
  rcases this with e | e | e | e <;> rw [e] <;> decide
theorem cap_of {n : Int} : n = 2 ∨ n = 3 ∨ n = 1 ∨ n = 4 → ([5, 4, 3, 3] : List Int).getD (n - 1).toNat 0 = (if n = 1 then 5 else if n = 2 then 4 else 3) := by
  rintro (rfl | rfl | rfl | rfl) <;> decide
theorem six_of (z : Int) : 0 ≤ ([3, 2, 4, 1, 5, 0] : List Int).getD (z % 6).toNat 0 ∧ ([3, 2, 4, 1, 5, 0] : List Int).getD (z % 6).toNat 0 ≤ 5 := by
  have h1 : 0 ≤ z % 6 := Int.emod_nonneg _ (by decide)
  have h2 : z % 6 < 6 := Int.emod_lt_of_pos _ (by decide)
  have : z % 6 = 0 ∨ z % 6 = 1 ∨ z % 6 = 2 ∨ z % 6 = 3 ∨ z % 6 = 4 ∨ z % 6 = 5 := by omega
  rcases this with e | e | e | e | e | e <;> rw [e] <;> decide
theorem shW_le (ns : List Int) : 0 ≤ shW ns ∧ shW ns ≤ (if shN ns = 1 then 5 else if shN ns = 2 then 4 else 3) := by
  unfold shW
  obtain ⟨h1, h2⟩ := six_of (at0 ns 1 / 4)
  rw [cap_of (shN_cases ns)]
  have h3 : (0 : Int) ≤ (if shN ns = 1 then 5 else if shN ns = 2 then 4 else 3) := by repeat (first | decide | split)
  split <;> omega
theorem pow_cap {n : Int} (h : n = 2 ∨ n = 3 ∨ n = 1 ∨ n = 4) {w : Nat} (hw : (w : Int) ≤ (if n = 1 then 5 else if n = 2 then 4 else 3)) : (2 * n + 1) ^ w ≤ 1000 := by
  have h5 : (if n = 1 then (5 : Int) else if n = 2 then 4 else 3) ≤ 5 := by repeat (first | decide | split)
  have : w = 0 ∨ w = 1 ∨ w = 2 ∨ w = 3 ∨ w = 4 ∨ w = 5 := by omega
  rcases h with rfl | rfl | rfl | rfl <;> rcases this with rfl | rfl | rfl | rfl | rfl | rfl <;> first | decide | (exfalso; revert hw; decide)
theorem shH0_len (ns : List Int) : (shH0 ns).length = (shW ns).toNat := by unfold shH0; rw [List.length_map, figs_len]
theorem shH_len (ns : List Int) : (shH ns).length = (shW ns).toNat := by
  unfold shH
  have h0 := shH0_len ns
  split
  · rw [len_rep, List.length_take, h0]
    by_cases h : (shW ns).toNat = 0
    · rw [h]; simp
    · rw [Nat.min_eq_left (by omega), Nat.mul_one]
  · split
    · rw [len_rep]; simp
    · exact h0
theorem shH0_in (ns : List Int) : ∀ x ∈ shH0 ns, 1 ≤ x ∧ x ≤ 20 := by
  intro x hx
  unfold shH0 at hx
  obtain ⟨y, hy, rfl⟩ := List.mem_map.mp hx
  have := figs_in (by decide) _ y hy
  omega
theorem shH_in (ns : List Int) : ∀ x ∈ shH ns, 1 ≤ x ∧ x ≤ 20 := by
  intro x hx
  unfold shH at hx
  split at hx
  · obtain ⟨l, hl, hx⟩ := List.mem_flatten.mp hx
    obtain ⟨_, rfl⟩ := List.mem_replicate.mp hl
    exact shH0_in ns x (List.mem_of_mem_take hx)
  · split at hx
    · obtain ⟨l, hl, hx⟩ := List.mem_flatten.mp hx
      obtain ⟨_, rfl⟩ := List.mem_replicate.mp hl
      obtain rfl := List.mem_singleton.mp hx
      omega
    · exact shH0_in ns x hx
theorem sh_ok (ns : List Int) {lim : Int} (h1 : 0 ≤ lim) (h2 : lim ≤ 400) : BeamOk (shN ns) (shR ns) (shH ns) lim := by
  have hN := shN_cases ns
  have hW := shW_le ns
  have hl := shH_len ns
  have h5 : (if shN ns = 1 then (5 : Int) else if shN ns = 2 then 4 else 3) ≤ 5 := by repeat (first | decide | split)
  have hR1 : 0 ≤ at0 ns 1 / 24 % 3 := Int.emod_nonneg _ (by decide)
  have hR2 : at0 ns 1 / 24 % 3 < 3 := Int.emod_lt_of_pos _ (by decide)
  exact ⟨by omega, by omega, by unfold shR; omega, by unfold shR; omega, h1, h2, by omega, shH_in ns, pow_cap hN (by omega)⟩
/-- the standing: one place after another -/
def putStep (n r : Int) (last : Bool) (made : List Int) (x : Int) : List Int :=
  made ++ [if (if last = true then n else x - n) ≠ 0 ∧ r ≤ (made.count (if last = true then n else x - n) : Int) then 0 else (if last = true then n else x - n)]
def putL (n r : Int) (last : Bool) (xs : List Int) : List Int := xs.foldl (putStep n r last) []
def putOf (ns : List Int) (k : Nat) (more n r : Int) (w : Nat) : List Int :=
  putL n r (decide (V.int ((at0 ns k + more) % 13) = V.int 12)) (figs (at0 ns k + more) w (2 * n + 1) (mixOf ns))
theorem putL_snoc (n r : Int) (last : Bool) (xs : List Int) (x : Int) : putL n r last (xs ++ [x]) = putStep n r last (putL n r last xs) x := by
  unfold putL; rw [List.foldl_append]; rfl
theorem putL_ok {n r : Int} (last : Bool) (hn : 0 ≤ n) (hr : 1 ≤ r) (xs : List Int) (hx : ∀ x ∈ xs, 0 ≤ x ∧ x < 2 * n + 1) :
    (putL n r last xs).length = xs.length ∧ (∀ y ∈ putL n r last xs, -n ≤ y ∧ y ≤ n) ∧ ∀ y, y ≠ 0 → ((putL n r last xs).count y : Int) ≤ r := by
  have main : ∀ (k : Nat) (xs : List Int), xs.length = k → (∀ x ∈ xs, 0 ≤ x ∧ x < 2 * n + 1) → (putL n r last xs).length = xs.length ∧ (∀ y ∈ putL n r last xs, -n ≤ y ∧ y ≤ n) ∧ ∀ y, y ≠ 0 → ((putL n r last xs).count y : Int) ≤ r := by
    intro k
    induction k with
    | zero =>
      intro xs hk _
      have : xs = [] := List.eq_nil_of_length_eq_zero hk
      subst this
      exact ⟨rfl, (fun y hy => nomatch hy), fun y _ => by show ((([] : List Int).count y : Nat) : Int) ≤ r; simp; omega⟩
    | succ k ih =>
      intro xs hk hx
      obtain ⟨ys, x, rfl⟩ : ∃ ys x, xs = ys ++ [x] := ⟨xs.dropLast, xs.getLast (by intro e; rw [e] at hk; cases hk), (List.dropLast_concat_getLast _).symm⟩
      have hk' : ys.length = k := by rw [List.length_append, List.length_singleton] at hk; omega
      obtain ⟨h1, h2, h3⟩ := ih ys hk' fun z hz => hx z (List.mem_append_left _ hz)
      have hx0 := hx x (List.mem_append_right _ (List.mem_singleton.mpr rfl))
      rw [putL_snoc]
      unfold putStep
      have hp : -n ≤ (if last = true then n else x - n) ∧ (if last = true then n else x - n) ≤ n := by split <;> omega
      generalize (if last = true then n else x - n) = p at hp ⊢
      refine ⟨by rw [List.length_append, List.length_append, h1]; rfl, fun y hy => ?_, fun y hy => ?_⟩
      · rcases List.mem_append.mp hy with hy | hy
        · exact h2 y hy
        · obtain rfl := List.mem_singleton.mp hy
          split <;> omega
      · rw [List.count_append, List.count_singleton]
        have h3y := h3 y hy
        by_cases hc : p ≠ 0 ∧ r ≤ ((putL n r last ys).count p : Int)
        · rw [if_pos hc]
          have : ((0 : Int) == y) = false := by simpa using fun e => hy e.symm
          rw [this]
          simpa using h3y
        · rw [if_neg hc]
          by_cases e : p = y
          · subst e
            have : ¬ r ≤ ((putL n r last ys).count p : Int) := fun z => hc ⟨hy, z⟩
            simp
            omega
          · have : (p == y) = false := by simpa using e
            rw [this]
            simpa using h3y
  exact main xs.length xs rfl hx
theorem put_ok (ns : List Int) (k : Nat) (more : Int) {n r : Int} (w : Nat) (hn : 1 ≤ n) (hr : 1 ≤ r) : Valid n r w (putOf ns k more n r w) := by
  unfold putOf
  obtain ⟨h1, h2, h3⟩ := putL_ok (n := n) (r := r) (decide (V.int ((at0 ns k + more) % 13) = V.int 12)) (by omega) hr (figs (at0 ns k + more) w (2 * n + 1) (mixOf ns)) (figs_in (by omega) w)
  exact ⟨by rw [h1, figs_len], h2, fun x _ h0 => h3 x h0⟩

/-! ### the data -/
def bflds (n r : Int) (h : Addr) (lim : Int) : List (Str × V) := putF "limit" (.int lim) (putF "hefts" (.ref h) (putF "room" (.int r) (putF "notches" (.int n) [])))
theorem b_notches (n r : Int) (h : Addr) (lim : Int) : (bflds n r h lim).lookup ("notches" : Str) = some (V.int n) := by
  unfold bflds
  rw [lookup_putF, if_neg (by decide +kernel), lookup_putF, if_neg (by decide +kernel), lookup_putF, if_neg (by decide +kernel), lookup_putF, if_pos rfl]
theorem b_room (n r : Int) (h : Addr) (lim : Int) : (bflds n r h lim).lookup ("room" : Str) = some (V.int r) := by
  unfold bflds
  rw [lookup_putF, if_neg (by decide +kernel), lookup_putF, if_neg (by decide +kernel), lookup_putF, if_pos rfl]
theorem b_hefts (n r : Int) (h : Addr) (lim : Int) : (bflds n r h lim).lookup ("hefts" : Str) = some (V.ref h) := by
  unfold bflds
  rw [lookup_putF, if_neg (by decide +kernel), lookup_putF, if_pos rfl]
theorem b_limit (n r : Int) (h : Addr) (lim : Int) : (bflds n r h lim).lookup ("limit" : Str) = some (V.int lim) := by
  unfold bflds
  rw [lookup_putF, if_pos rfl]
/-- a beam stands at b -/
def BeamAt (t : Adr) (H : Hp) (b : Addr) (n r : Int) (hs : List Int) (lim : Int) : Prop :=
  BeamOk n r hs lim ∧ ∃ dx h, H b = some (.ins t.c_Beam dx (bflds n r h lim)) ∧ H h = some (.tup (hs.map V.int))
theorem BeamAt.same {t : Adr} {H H' : Hp} {b : Addr} {n r : Int} {hs : List Int} {lim : Int} (B : BeamAt t H b n r hs lim) (s : Same H H') : BeamAt t H' b n r hs lim := by
  obtain ⟨ok, dx, h, e1, e2⟩ := B
  exact ⟨ok, dx, h, s _ _ e1, s _ _ e2⟩

/-! ### promises -/
def sp_outside (K : PySem.W.Frag) (t : Adr) : Sp := fun vs H Q _ => ∃ a lo hi : Int, vs = [.int a, .int lo, .int hi] ∧ Q (.bl (decide (a < lo) || decide (hi < a))) H
def sp_check_bounds (K : PySem.W.Frag) (t : Adr) : Sp := fun vs H Q _ => ∃ n r l : Int, vs = [.int n, .int r, .int l] ∧ (1 ≤ n ∧ n ≤ 4 ∧ 1 ≤ r ∧ r ≤ 3 ∧ 0 ≤ l ∧ l ≤ 400) ∧ Q .non H
def sp_check_hefts (K : PySem.W.Frag) (t : Adr) : Sp := fun vs H Q _ => ∃ (a : Addr) (hs : List Int), vs = [.ref a] ∧ (SqL K H a (hs.map V.int) ∨ SqT K H a (hs.map V.int)) ∧ (hs.length ≤ 5 ∧ ∀ x ∈ hs, 1 ≤ x ∧ x ≤ 20) ∧ Q .non H
def sp_check_standings (K : PySem.W.Frag) (t : Adr) : Sp := fun vs H Q _ => ∃ (n : Int) (w : Nat), vs = [.int n, .int w] ∧ (1 ≤ n ∧ n ≤ 4 ∧ w ≤ 5 ∧ (2 * n + 1) ^ w ≤ 1000) ∧ Q .non H
def sp_Beam_init (K : PySem.W.Frag) (t : Adr) : Sp := fun vs H Q _ => ∃ (p dx a : Addr) (n r lim : Int) (hs : List Int), vs = [.ref p, .int n, .int r, .ref a, .int lim] ∧ H p = some (.ins t.c_Beam dx []) ∧
  (SqL K H a (hs.map V.int) ∨ H a = some (.tup (hs.map V.int))) ∧ BeamOk n r hs lim ∧ ∀ H', BeamAt t H' p n r hs lim → SameX p H H' → Q .non H'
def sp_as_standing (K : PySem.W.Frag) (t : Adr) : Sp := fun vs H Q _ => ∃ (b a : Addr) (n r lim : Int) (hs xs : List Int), vs = [.ref b, .ref a] ∧ BeamAt t H b n r hs lim ∧ Valid n r hs.length xs ∧
  (SqL K H a (xs.map V.int) ∨ H a = some (.tup (xs.map V.int))) ∧ ∀ l H', Same H H' → H' l = some (.tup (xs.map V.int)) → Q (.ref l) H'
def sp_mirrored (K : PySem.W.Frag) (t : Adr) : Sp := fun vs H Q _ => ∃ (b a : Addr) (n r lim : Int) (hs xs : List Int), vs = [.ref b, .ref a] ∧ BeamAt t H b n r hs lim ∧ Valid n r hs.length xs ∧
  (SqL K H a (xs.map V.int) ∨ H a = some (.tup (xs.map V.int))) ∧ ∀ l H', Same H H' → H' l = some (.tup ((xs.map fun x => -x).map V.int)) → Q (.ref l) H'
def sp_w_at (K : PySem.W.Frag) (t : Adr) : Sp := fun vs H Q _ => ∃ (a : Addr) (ns : List Int) (k : Nat), vs = [.ref a, .int k] ∧ SqL K H a (ns.map V.int) ∧ Q (.int (ns.getD k 0)) H
def sp_w_whole (K : PySem.W.Frag) (t : Adr) : Sp := fun vs H Q _ => ∃ i : Int, vs = [.int i] ∧ Q (.bl true) H
def sp_w_figs (K : PySem.W.Frag) (t : Adr) : Sp := fun vs H Q _ => ∃ (cell base : Int) (n : Nat) (mix : Bool), vs = [.int cell, .int n, .int base, .bl mix] ∧ (n ≤ 1000 ∧ 0 < base ∧ base < 10000000000000000000000000000000) ∧
  ∀ l, H l = none → Q (.ref l) (upd H l (.lst ((figs cell n base mix).map V.int)))
def sp_w_same (K : PySem.W.Frag) (t : Adr) : Sp := fun vs H Q _ => ∃ (a b : Addr) (xs ys : List Int), vs = [.ref a, .ref b] ∧ (SqL K H a (xs.map V.int) ∨ SqT K H a (xs.map V.int)) ∧ (SqL K H b (ys.map V.int) ∨ SqT K H b (ys.map V.int)) ∧ ys.length ≤ 1000 ∧ Q (.bl (decide (xs = ys))) H
def sp_w_shape (K : PySem.W.Frag) (t : Adr) : Sp := fun vs H Q _ => ∃ (a : Addr) (ns : List Int), vs = [.ref a] ∧ SqL K H a (ns.map V.int) ∧
  ∀ l h H', Same H H' → H l = none → H h = none → H' h = some (.lst ((shH ns).map V.int)) → H' l = some (.lst [.int (shN ns), .int (shR ns), .ref h]) → Q (.ref l) H'
def sp_w_put (K : PySem.W.Frag) (t : Adr) : Sp := fun vs H Q _ => ∃ (a sh h : Addr) (ns : List Int) (k : Nat) (more n r : Int) (hs : List Int), vs = [.ref a, .int k, .int more, .ref sh] ∧ SqL K H a (ns.map V.int) ∧
  H sh = some (.lst [.int n, .int r, .ref h]) ∧ SqL K H h (hs.map V.int) ∧ (1 ≤ n ∧ n ≤ 4 ∧ 1 ≤ r ∧ hs.length ≤ 5) ∧
  ∀ l H', Same H H' → H l = none → H' l = some (.lst ((putOf ns k more n r hs.length).map V.int)) → Q (.ref l) H'
def spLaw (K : PySem.W.Frag) : Sp := fun vs H Q _ => ∃ (a : Addr) (ns : List Int), vs = [.ref a] ∧ SqL K H a (ns.map V.int) ∧ ns.length ≤ 63 ∧ ∀ H', Q (.bl true) H'
def sp_law (K : PySem.W.Frag) (t : Adr) : Sp := spLaw K

section
variable {P : Program} {w : World} {K : PySem.W.Frag} {mg : Str → Option Value} {base : Heap} {t : Adr}
theorem ok_outside (T : Txt K mg t) : FnOk P w K mg base CX0 1 t.a_outside t.d_outside ["number", "low", "high"] (sp_outside K t) := by
  refine T.F_outside.ok sc_outside (fun vs H Q E h => ?_) (fun cdv A outer s H vs Q E hr h => ?_)
  · obtain ⟨a, lo, hi, rfl, q⟩ := h
    rfl
  · obtain ⟨a, lo, hi, rfl, q⟩ := h
    refine ⟨_, (pss_one (ps_ret (pe_or (pe_cmpR op_lt (pv 0) (pv 1) (nomark _)) (pe_one (pe_cmpR op_gt (pv 0) (pv 2) (nomark _)))))), ?_⟩
    refine ⟨_, rfl, _, rfl, _, _, rfl, rfl, _, rfl, ?_⟩
    refine ite2 (fun h1 => ?_) (fun h1 => ?_)
    · rw [h1] at q
      exact q
    · rw [Bool.eq_false_iff.mpr h1] at q
      exact ⟨_, rfl, _, rfl, _, _, rfl, rfl, q⟩
theorem ok_check_bounds (T : Txt K mg t) : FnOk P w K mg base CX0 2 t.a_check_bounds t.d_check_bounds ["notches", "room", "limit"] (sp_check_bounds K t) := by
  have G_outside : FnOk P w K mg base CX0 1 t.a_outside t.d_outside ["number", "low", "high"] (sp_outside K t) := ok_outside T
  refine T.F_check_bounds.ok sc_check_bounds (fun vs H Q E h => ?_) (fun cdv A outer s H vs Q E hr h => ?_)
  · obtain ⟨n, r, l, rfl, ⟨h1, h2, h3, h4, h5, h6⟩, q⟩ := h
    rfl
  · obtain ⟨n, r, l, rfl, ⟨h1, h2, h3, h4, h5, h6⟩, q⟩ := h
    have hr_outside : Room 1 _ := hr.mono (by decide)
    refine ⟨_, (pss_cons (ps_if (pt_val (pe_call G_outside hr_outside rfl T.m_outside T.k_outside T.b_outside .nil pass0 (pa_cons (pv 0) (pa_cons pe_int (pa_cons (pe_glob (v := .int 4) rfl T.g_MOST_NOTCHES ⟨_, rfl⟩) pa_nil))))) (pss_one ps_never) pss_nil)
      (pss_cons (ps_if (pt_val (pe_call G_outside hr_outside rfl T.m_outside T.k_outside T.b_outside .nil pass0 (pa_cons (pv 1) (pa_cons pe_int (pa_cons (pe_glob (v := .int 3) rfl T.g_MOST_ROOM ⟨_, rfl⟩) pa_nil))))) (pss_one ps_never) pss_nil)
      (pss_one (ps_if (pt_val (pe_call G_outside hr_outside rfl T.m_outside T.k_outside T.b_outside .nil pass0 (pa_cons (pv 2) (pa_cons pe_int (pa_cons (pe_glob (v := .int 400) rfl T.g_MOST_LIMIT ⟨_, rfl⟩) pa_nil))))) (pss_one ps_never) pss_nil)))), ?_⟩
    refine ⟨_, rfl, _, _, _, rfl, _, rfl, iteB (out_no h1 h2) ?_⟩
    refine ⟨_, rfl, _, _, _, rfl, _, rfl, iteB (out_no h3 h4) ?_⟩
    exact ⟨_, rfl, _, _, _, rfl, _, rfl, iteB (out_no h5 h6) q⟩
theorem ok_check_hefts (T : Txt K mg t) : FnOk P w K mg base CX0 2 t.a_check_hefts t.d_check_hefts ["hefts"] (sp_check_hefts K t) := by
  have G_outside : FnOk P w K mg base CX0 1 t.a_outside t.d_outside ["number", "low", "high"] (sp_outside K t) := ok_outside T
  refine T.F_check_hefts.ok sc_check_hefts (fun vs H Q E h => ?_) (fun cdv A outer s H vs Q E hr h => ?_)
  · obtain ⟨a, hs, rfl, hS, ⟨hl, hh⟩, q⟩ := h
    rfl
  · obtain ⟨a, hs, rfl, hS, ⟨hl, hh⟩, q⟩ := h
    have hr_outside : Room 1 _ := hr.mono (by decide)
    refine ⟨_, (pss_cons (ps_if (pt_cmpR op_gt (pe_callB call_len_seq rfl T.n_len PySem.boot_len (pa_cons (pv 0) pa_nil)) (pe_glob (v := .int 5) rfl T.g_MOST_WEIGHTS ⟨_, rfl⟩) (nomark _)) (pss_one ps_never) pss_nil)
      (pss_one (ps_for PassesOwn.never rfl (pi_seq (pv 0)) (pg_name (i := 1) sc_check_hefts.nd rfl (Or.inl rfl)) (pss_one (ps_if (pt_val (pe_call G_outside hr_outside rfl T.m_outside T.k_outside T.b_outside .nil pass0 (pa_cons (pv 1) (pa_cons pe_int (pa_cons (pe_glob (v := .int 20) rfl T.g_MOST_HEFT ⟨_, rfl⟩) pa_nil))))) (pss_one ps_never) pss_nil))))), ?_⟩
    refine ⟨_, rfl, a, hs.map V.int, rfl, hS, _, _, rfl, rfl, _, rfl, iteB (dec_gt (by rw [List.length_map]; omega)) ?_⟩
    refine ⟨_, rfl, a, rfl, ?_⟩
    have turn : ∀ (i : Nat) x, (hs.map V.int)[i]? = some x → ∃ z, x = .int z ∧ 1 ≤ z ∧ z ≤ 20 := fun i x e => by
      obtain ⟨z, rfl, hz⟩ := int_at e
      exact ⟨z, rfl, hh z (List.mem_of_getElem? hz)⟩
    rcases hS with hS | hS
    · refine .inl ⟨⟨_, hS⟩, for_list (K := K) (a := a) (xs := hs.map V.int) (fun i σ H' => ∃ v, σ = [some (.ref a), v] ∧ H' = H) ⟨_, rfl, rfl⟩ (fun i σ H' _ ⟨_, _, e⟩ => e ▸ hS) ?_ ?_⟩
      · rintro i x σ H' hi ⟨v, rfl, rfl⟩
        obtain ⟨z, rfl, h1, h2⟩ := turn i x hi
        exact ⟨_, rfl, _, _, _, rfl, _, rfl, iteB (out_no h1 h2) ⟨_, rfl, rfl⟩⟩
      · rintro σ H' ⟨v, rfl, rfl⟩
        exact q
    · refine .inr ⟨⟨_, hS⟩, for_tup (K := K) (a := a) (xs := hs.map V.int) (fun i σ H' => ∃ v, σ = [some (.ref a), v] ∧ H' = H) ⟨_, rfl, rfl⟩ (fun i σ H' _ ⟨_, _, e⟩ => e ▸ hS) ?_ ?_⟩
      · rintro i x σ H' hi ⟨v, rfl, rfl⟩
        obtain ⟨z, rfl, h1, h2⟩ := turn i x hi
        exact ⟨_, rfl, _, _, _, rfl, _, rfl, iteB (out_no h1 h2) ⟨_, rfl, rfl⟩⟩
      · rintro σ H' ⟨v, rfl, rfl⟩
        exact q
theorem ok_check_standings (T : Txt K mg t) : FnOk P w K mg base CX0 1 t.a_check_standings t.d_check_standings ["notches", "weights"] (sp_check_standings K t) := by
  refine T.F_check_standings.ok sc_check_standings (fun vs H Q E h => ?_) (fun cdv A outer s H vs Q E hr h => ?_)
  · obtain ⟨n, w, rfl, ⟨h1, h2, h3, h4⟩, q⟩ := h
    rfl
  · obtain ⟨n, w, rfl, ⟨h1, h2, h3, h4⟩, q⟩ := h
    refine ⟨_, (pss_cons (ps_set (i := 2) sc_check_standings.nd rfl (Or.inl rfl) pe_int)
      (pss_cons (ps_for PassesOwn.never rfl (pi_range1 rfl T.n_range (pa_cons (pv 1) pa_nil)) (pg_name (i := 3) sc_check_standings.nd rfl (Or.inl rfl)) (pss_one (ps_set (i := 2) sc_check_standings.nd rfl (Or.inl rfl) (pe_op op_mul (pv 2) (pe_op op_add (pe_op op_mul pe_int (pv 0)) pe_int)))))
      (pss_one (ps_if (pt_cmpR op_gt (pv 2) (pe_glob (v := .int 1000) rfl T.g_MOST_STANDINGS ⟨_, rfl⟩) (nomark _)) (pss_one ps_never) pss_nil)))), ?_⟩
    refine ⟨_, rfl, _, rfl, by omega, by omega, for_range (n := (w : Int).toNat) (fun i σ H' => ∃ v, σ = [some (.int n), some (.int w), some (.int ((2 * n + 1) ^ i)), v] ∧ H' = H) ⟨none, by rw [Int.pow_zero]; rfl, rfl⟩ ?_ ?_⟩
    · rintro i σ H' hi ⟨v, rfl, rfl⟩
      exact ⟨_, rfl, _, rfl, _, _, rfl, rfl, .inl ⟨by decide, by decide⟩, _, _, rfl, rfl, _, _, rfl, rfl, .inr ⟨by omega, by omega⟩, _, by rw [Int.pow_succ]; rfl, rfl⟩
    · rintro σ H' ⟨v, rfl, rfl⟩
      exact ⟨_, rfl, _, _, rfl, rfl, _, rfl, iteB (dec_gt (by rw [Int.toNat_natCast]; exact h4)) q⟩
theorem ok_Beam_init (T : Txt K mg t) : FnOk P w K mg base CX0 3 t.a_Beam_init t.d_Beam_init ["self", "notches", "room", "hefts", "limit"] (sp_Beam_init K t) := by
  have G_check_bounds : FnOk P w K mg base CX0 2 t.a_check_bounds t.d_check_bounds ["notches", "room", "limit"] (sp_check_bounds K t) := ok_check_bounds T
  have G_check_hefts : FnOk P w K mg base CX0 2 t.a_check_hefts t.d_check_hefts ["hefts"] (sp_check_hefts K t) := ok_check_hefts T
  have G_check_standings : FnOk P w K mg base CX0 1 t.a_check_standings t.d_check_standings ["notches", "weights"] (sp_check_standings K t) := ok_check_standings T
  refine T.F_Beam_init.ok sc_Beam_init (fun vs H Q E h => ?_) (fun cdv A outer s H vs Q E hr h => ?_)
  · obtain ⟨p, dx, a, n, r, lim, hs, rfl, hp, hS, B, q⟩ := h
    rfl
  · obtain ⟨p, dx, a, n, r, lim, hs, rfl, hp, hS, B, q⟩ := h
    have hr_check_bounds : Room 2 _ := hr.mono (by decide)
    have hr_check_hefts : Room 2 _ := hr.mono (by decide)
    have hr_check_standings : Room 1 _ := hr.mono (by decide)
    refine ⟨_, (pss_cons (ps_expr (pe_call G_check_bounds hr_check_bounds rfl T.m_check_bounds T.k_check_bounds T.b_check_bounds .nil pass0 (pa_cons (pv 1) (pa_cons (pv 2) (pa_cons (pv 4) pa_nil)))))
      (pss_cons (ps_expr (pe_call G_check_hefts hr_check_hefts rfl T.m_check_hefts T.k_check_hefts T.b_check_hefts .nil pass0 (pa_cons (pv 3) pa_nil)))
      (pss_cons (ps_expr (pe_call G_check_standings hr_check_standings rfl T.m_check_standings T.k_check_standings T.b_check_standings .nil pass0 (pa_cons (pv 1) (pa_cons (pe_callB call_len_seq rfl T.n_len PySem.boot_len (pa_cons (pv 3) pa_nil)) pa_nil))))
      (pss_cons (ps_fld (pv 0) (pv 1) rfl)
      (pss_cons (ps_fld (pv 0) (pv 2) rfl)
      (pss_cons (ps_fld (pv 0) (pe_callTy call_tuple_of rfl T.n_tuple PyProof.Rows.boot_tuple (pa_cons (pv 3) pa_nil)) rfl)
      (pss_one (ps_fld (pv 0) (pv 4) rfl)))))))), ?_⟩
    have hS' : SqL K H a (hs.map V.int) ∨ SqT K H a (hs.map V.int) := hS.imp id SqT.of
    refine ⟨_, rfl, _, rfl, _, rfl, n, r, lim, rfl, ⟨B.n1, B.n2, B.r1, B.r2, B.l1, B.l2⟩, ?_⟩
    refine ⟨_, rfl, a, hs, rfl, hS', ⟨B.w, B.h⟩, ?_⟩
    refine ⟨_, rfl, _, rfl, a, _, rfl, hS', n, hs.length, by rw [List.length_map]; rfl, ⟨B.n1, B.n2, B.w, B.most⟩, ?_⟩
    refine ⟨_, rfl, _, rfl, p, _, dx, _, rfl, hp, T.cl_Beam, T.na_Beam_notches, by decide, ?_⟩
    refine ⟨_, rfl, _, rfl, p, _, dx, _, rfl, upd_same, T.cl_Beam, T.na_Beam_room, fl1000 fl0, ?_⟩
    have hne : ∀ {b : Addr} {o : HO}, H b = some o → o ≠ .ins t.c_Beam dx [] → b ≠ p := fun e ne => ne_of e hp ne
    refine ⟨_, rfl, a, hs.map V.int, rfl, ?_⟩
    rcases hS with hS | hS
    · have nap : ∀ o, SqL K (upd (upd H p o) p o) a (hs.map V.int) → True := fun _ _ => trivial
      refine .inl ⟨?_, fun l hl => ?_⟩
      · rcases hS with (hS | ⟨ob, hS⟩) | hS
        · exact .inl (.inl (by rw [upd_ne (hne hS (by intro z; cases z)), upd_ne (hne hS (by intro z; cases z))]; exact hS))
        · exact .inl (.inr ⟨ob, by rw [upd_ne (hne hS (by intro z; cases z)), upd_ne (hne hS (by intro z; cases z))]; exact hS⟩)
        · exact .inr hS
      · have hlp : l ≠ p := fun z => by rw [z, upd_same] at hl; cases hl
        have hl0 : H l = none := by rw [upd_ne hlp, upd_ne hlp] at hl; exact hl
        refine ⟨_, rfl, p, _, dx, _, rfl, (by rw [upd_ne hlp.symm]; exact upd_same), T.cl_Beam, T.na_Beam_hefts, fl1000 (flS fl0), ?_⟩
        refine ⟨_, rfl, _, rfl, p, _, dx, _, rfl, upd_same, T.cl_Beam, T.na_Beam_limit, fl1000 (flS (flS fl0)), ?_⟩
        refine q _ ⟨B, dx, l, upd_same, by rw [upd_ne hlp, upd_ne hlp, upd_same]⟩ fun b o e hb => ?_
        rw [upd_ne hb, upd_ne hb, upd_ne (ne_of_none e hl0), upd_ne hb, upd_ne hb]
        exact e
    · have hap : a ≠ p := hne hS (by intro z; cases z)
      refine .inr ⟨SqT.of (by rw [upd_ne hap, upd_ne hap]; exact hS), ?_⟩
      refine ⟨_, rfl, p, _, dx, _, rfl, upd_same, T.cl_Beam, T.na_Beam_hefts, fl1000 (flS fl0), ?_⟩
      refine ⟨_, rfl, _, rfl, p, _, dx, _, rfl, upd_same, T.cl_Beam, T.na_Beam_limit, fl1000 (flS (flS fl0)), ?_⟩
      refine q _ ⟨B, dx, a, upd_same, by rw [upd_ne hap, upd_ne hap, upd_ne hap, upd_ne hap]; exact hS⟩ fun b o e hb => ?_
      rw [upd_ne hb, upd_ne hb, upd_ne hb, upd_ne hb]
      exact e

theorem ok_as_standing (T : Txt K mg t) : FnOk P w K mg base CX0 2 t.a_as_standing t.d_as_standing ["beam", "standing"] (sp_as_standing K t) := by
  have G_outside : FnOk P w K mg base CX0 1 t.a_outside t.d_outside ["number", "low", "high"] (sp_outside K t) := ok_outside T
  refine T.F_as_standing.ok sc_as_standing (fun vs H Q E h => ?_) (fun cdv A outer s H vs Q E hr h => ?_)
  · obtain ⟨b, a, n, r, lim, hs, xs, rfl, B, V0, hS, q⟩ := h
    rfl
  · obtain ⟨b, a, n, r, lim, hs, xs, rfl, B, V0, hS, q⟩ := h
    have hr_outside : Room 1 _ := hr.mono (by decide)
    refine ⟨_, (pss_cons (ps_set (i := 2) sc_as_standing.nd rfl (Or.inl rfl) (pe_callTy call_tuple_of rfl T.n_tuple PyProof.Rows.boot_tuple (pa_cons (pv 1) pa_nil)))
      (pss_cons (ps_if (pt_cmpR op_ne (pe_callB call_len_seq rfl T.n_len PySem.boot_len (pa_cons (pv 2) pa_nil)) (pe_callB call_len_seq rfl T.n_len PySem.boot_len (pa_cons (pe_fld (pv 0) rfl) pa_nil)) (nomark _)) (pss_one ps_never) pss_nil)
      (pss_cons (ps_for PassesOwn.never rfl (pi_tup (pv 2)) (pg_name (i := 3) sc_as_standing.nd rfl (Or.inl rfl)) (pss_cons (ps_if (pt_val (pe_call G_outside hr_outside rfl T.m_outside T.k_outside T.b_outside .nil pass0 (pa_cons (pv 3) (pa_cons (pe_un un_neg (pe_fld (pv 0) rfl)) (pa_cons (pe_fld (pv 0) rfl) pa_nil))))) (pss_one ps_never) pss_nil)
      (pss_one (ps_if (PW.pt (pw_and (pt_cmpR op_ne (pv 3) pe_int (nomark _)) (pw_and1 (pt_cmpR op_gt (pe_tm PySem.F.slot_tuple_count PySem.F.type_tuple_count mt_countT (pv 2) (pa_cons (pv 3) pa_nil)) (pe_fld (pv 0) rfl) (nomark _))))) (pss_one ps_never) pss_nil))))
      (pss_one (ps_ret (pv 2)))))), ?_⟩
    refine ⟨_, rfl, a, xs.map V.int, rfl, ?_⟩
    rcases hS with hS | hT
    · refine .inl ⟨hS, fun l hl => ?_⟩
      replace q := q l _ (Same.upd hl) upd_same
      have hT : (upd H l (.tup (xs.map V.int))) l = some (.tup (xs.map V.int)) := upd_same
      replace B := B.same (Same.upd (o := .tup (xs.map V.int)) hl)
      revert q hT B
      generalize upd H l (.tup (xs.map V.int)) = H1
      intro q hT B
      obtain ⟨ok, dx, h, hb, hh⟩ := B
      refine ⟨_, rfl, _, _, rfl, .inr (SqT.of hT), _, rfl, b, _, dx, _, _, rfl, hb, T.cl_Beam, T.na_Beam_hefts, b_hefts _ _ _ _, h, _, rfl, .inr (SqT.of hh), rfl, _, rfl, ?_⟩
      refine iteB (by rw [List.length_map, List.length_map, V0.len]; simp) ?_
      refine ⟨_, rfl, _, rfl, ⟨_, SqT.of hT⟩, for_tup (K := K) (xs := xs.map V.int) (fun i σ H' => ∃ v, σ = [some (.ref b), some (.ref a), some (.ref l), v] ∧ H' = H1) ⟨none, rfl, rfl⟩ (fun i σ H' _ ⟨_, _, e⟩ => e ▸ SqT.of hT) ?_ ?_⟩
      · rintro i x σ H' hi ⟨v, rfl, rfl⟩
        obtain ⟨z, rfl, hz⟩ := int_at hi
        have hm := List.mem_of_getElem? hz
        obtain ⟨z1, z2⟩ := V0.on z hm
        refine ⟨_, rfl, _, rfl, b, _, dx, _, _, rfl, hb, T.cl_Beam, T.na_Beam_notches, b_notches _ _ _ _, _, rfl, _, rfl, b, _, dx, _, _, rfl, hb, T.cl_Beam, T.na_Beam_notches, b_notches _ _ _ _, z, -n, n, rfl, _, rfl, iteB (out_no z1 z2) ?_⟩
        refine ⟨_, rfl, rfl, _, rfl, ?_⟩
        refine ite2 (fun h1 => ?_) (fun h1 => ?_)
        · have hz0 : z ≠ 0 := by
            intro e
            subst e
            simp at h1
          exact ⟨_, rfl, ⟨_, _, rfl, hT⟩, _, rfl, _, xs, z, rfl, rfl, SqT.of hT, _, rfl, b, _, dx, _, _, rfl, hb, T.cl_Beam, T.na_Beam_room, b_room _ _ _ _, _, _, rfl, rfl, _, rfl, iteB (dec_gt (V0.room z hm hz0)) ⟨_, rfl, rfl⟩⟩
        · exact iteF ⟨_, rfl, rfl⟩
      · rintro σ H' ⟨v, rfl, rfl⟩
        exact ⟨_, rfl, q⟩
    · refine .inr ⟨SqT.of hT, ?_⟩
      replace q := q a _ (Same.refl _) hT
      obtain ⟨ok, dx, h, hb, hh⟩ := B
      refine ⟨_, rfl, _, _, rfl, .inr (SqT.of hT), _, rfl, b, _, dx, _, _, rfl, hb, T.cl_Beam, T.na_Beam_hefts, b_hefts _ _ _ _, h, _, rfl, .inr (SqT.of hh), rfl, _, rfl, ?_⟩
      refine iteB (by rw [List.length_map, List.length_map, V0.len]; simp) ?_
      refine ⟨_, rfl, _, rfl, ⟨_, SqT.of hT⟩, for_tup (K := K) (xs := xs.map V.int) (fun i σ H' => ∃ v, σ = [some (.ref b), some (.ref a), some (.ref a), v] ∧ H' = H) ⟨none, rfl, rfl⟩ (fun i σ H' _ ⟨_, _, e⟩ => e ▸ SqT.of hT) ?_ ?_⟩
      · rintro i x σ H' hi ⟨v, rfl, rfl⟩
        obtain ⟨z, rfl, hz⟩ := int_at hi
        have hm := List.mem_of_getElem? hz
        obtain ⟨z1, z2⟩ := V0.on z hm
        refine ⟨_, rfl, _, rfl, b, _, dx, _, _, rfl, hb, T.cl_Beam, T.na_Beam_notches, b_notches _ _ _ _, _, rfl, _, rfl, b, _, dx, _, _, rfl, hb, T.cl_Beam, T.na_Beam_notches, b_notches _ _ _ _, z, -n, n, rfl, _, rfl, iteB (out_no z1 z2) ?_⟩
        refine ⟨_, rfl, rfl, _, rfl, ?_⟩
        refine ite2 (fun h1 => ?_) (fun h1 => ?_)
        · have hz0 : z ≠ 0 := by
            intro e
            subst e
            simp at h1
          exact ⟨_, rfl, ⟨_, _, rfl, hT⟩, _, rfl, _, xs, z, rfl, rfl, SqT.of hT, _, rfl, b, _, dx, _, _, rfl, hb, T.cl_Beam, T.na_Beam_room, b_room _ _ _ _, _, _, rfl, rfl, _, rfl, iteB (dec_gt (V0.room z hm hz0)) ⟨_, rfl, rfl⟩⟩
        · exact iteF ⟨_, rfl, rfl⟩
      · rintro σ H' ⟨v, rfl, rfl⟩
        exact ⟨_, rfl, q⟩

def tiltOf (hs xs : List Int) : Int := (List.zipWith (fun h x => h * x) hs xs).sum
def absI (i : Int) : Int := if i < 0 then -i else i
def sideOf (z : Int) : Str := if z < 0 then "left" else if 0 < z then "right" else "level"
def mulV (x y : V) : V := match x, y with
  | .int a, .int b => .int (a * b)
  | _, _ => .non
theorem zip_mulV : ∀ (hs xs : List Int), List.zipWith mulV (hs.map V.int) (xs.map V.int) = (List.zipWith (fun h x => h * x) hs xs).map V.int
  | [], _ => rfl
  | _ :: _, [] => rfl
  | h :: hs, x :: xs => by
    show V.int (h * x) :: List.zipWith mulV (hs.map V.int) (xs.map V.int) = _
    rw [zip_mulV hs xs]
    rfl
theorem zip_bound : ∀ {hs xs : List Int} {B : Int}, (∀ h ∈ hs, 1 ≤ h ∧ h ≤ 20) → (∀ x ∈ xs, -B ≤ x ∧ x ≤ B) → 0 ≤ B → ∀ z ∈ List.zipWith (fun h x => h * x) hs xs, -(20 * B) ≤ z ∧ z ≤ 20 * B
  | [], _, _, _, _, _ => (fun z hz => by simp at hz)
  | _ :: _, [], _, _, _, _ => (fun z hz => by simp at hz)
  | h :: hs, x :: xs, B, h1, h2, hB => fun z hz => by
    rw [List.zipWith_cons_cons] at hz
    rcases List.mem_cons.mp hz with rfl | hz
    · obtain ⟨a1, a2⟩ := h1 h List.mem_cons_self
      obtain ⟨b1, b2⟩ := h2 x List.mem_cons_self
      have c1 : h * x ≤ h * B := Int.mul_le_mul_of_nonneg_left b2 (by omega)
      have c2 : h * B ≤ 20 * B := Int.mul_le_mul_of_nonneg_right a2 hB
      have c3 : h * -B ≤ h * x := Int.mul_le_mul_of_nonneg_left b1 (by omega)
      have c4 : h * -B = -(h * B) := Int.mul_neg h B
      omega
    · exact zip_bound (fun y hy => h1 y (List.mem_cons_of_mem _ hy)) (fun y hy => h2 y (List.mem_cons_of_mem _ hy)) hB z hz
theorem tilt_fits {n r lim : Int} {hs xs : List Int} (ok : BeamOk n r hs lim) (V0 : Valid n r hs.length xs) : PySem.SumFits (List.zipWith (fun h x => h * x) hs xs) := by
  refine PyProof.Rows.sumFits_of_bound (B := 80) (n := 5) (by decide) (fun z hz => ?_) ?_ (by decide)
  · have := zip_bound (B := 4) ok.h (fun x hx => by have := V0.on x hx; have := ok.n2; omega) (by decide) z hz
    omega
  · rw [List.length_zipWith]
    have := ok.w
    omega
def sp_tilt (K : PySem.W.Frag) (t : Adr) : Sp := fun vs H Q _ => ∃ (b a : Addr) (n r lim : Int) (hs xs : List Int), vs = [.ref b, .ref a] ∧ BeamAt t H b n r hs lim ∧ Valid n r hs.length xs ∧
  (SqL K H a (xs.map V.int) ∨ H a = some (.tup (xs.map V.int))) ∧ ∀ H', Same H H' → Q (.int (tiltOf hs xs)) H'
def sp_side (K : PySem.W.Frag) (t : Adr) : Sp := fun vs H Q _ => ∃ (b a : Addr) (n r lim : Int) (hs xs : List Int), vs = [.ref b, .ref a] ∧ BeamAt t H b n r hs lim ∧ Valid n r hs.length xs ∧
  (SqL K H a (xs.map V.int) ∨ H a = some (.tup (xs.map V.int))) ∧ ∀ H', Same H H' → Q (.str (sideOf (tiltOf hs xs))) H'
def sp_keeps (K : PySem.W.Frag) (t : Adr) : Sp := fun vs H Q _ => ∃ (b a : Addr) (n r lim : Int) (hs xs : List Int), vs = [.ref b, .ref a] ∧ BeamAt t H b n r hs lim ∧ Valid n r hs.length xs ∧
  (SqL K H a (xs.map V.int) ∨ H a = some (.tup (xs.map V.int))) ∧ ∀ H', Same H H' → Q (.bl (decide (absI (tiltOf hs xs) ≤ lim))) H'
theorem ok_tilt (T : Txt K mg t) : FnOk P w K mg base CX0 3 t.a_tilt t.d_tilt ["beam", "standing"] (sp_tilt K t) := by
  have G_as_standing : FnOk P w K mg base CX0 2 t.a_as_standing t.d_as_standing ["beam", "standing"] (sp_as_standing K t) := ok_as_standing T
  refine T.F_tilt.ok sc_tilt (fun vs H Q E h => ?_) (fun cdv A outer s H vs Q E hr h => ?_)
  · obtain ⟨b, a, n, r, lim, hs, xs, rfl, B, V0, hS, q⟩ := h
    rfl
  · obtain ⟨b, a, n, r, lim, hs, xs, rfl, B, V0, hS, q⟩ := h
    have hr_as_standing : Room 2 _ := hr.mono (by decide)
    refine ⟨_, (pss_cons (ps_set (i := 2) sc_tilt.nd rfl (Or.inl rfl) (pe_call G_as_standing hr_as_standing rfl T.m_as_standing T.k_as_standing T.b_as_standing .nil pass0 (pa_cons (pv 0) (pa_cons (pv 1) pa_nil))))
      (pss_one (ps_ret (pe_callB (call_sum rfl) rfl T.n_sum PyProof.Rows.boot_sum (pa_cons (pe_comp rfl cs_tilt_0 (pi_zip rfl T.n_zip (pa_cons (pe_fld (pv 0) rfl) (pa_cons (pv 2) pa_nil))) (fun _ _ _ _ _ => (pg_tupK (n := 2) K rfl rfl (pgs_cons (pg_name (i := 0) cs_tilt_0.nd rfl (Or.inl rfl)) (pgs_cons (pg_name (i := 1) cs_tilt_0.nd rfl (Or.inl rfl)) pgs_nil)))) (fun _ _ _ _ _ => pifs_nil) (fun _ _ _ _ _ => (pe_op op_mul (pv 0) (pv 1)))) pa_nil))))), ?_⟩
    refine ⟨_, rfl, _, rfl, b, a, n, r, lim, hs, xs, rfl, B, V0, hS, fun l H1 s1 hl => ?_⟩
    have ok := B.1
    obtain ⟨_, dx, h, hb, hh⟩ := B.same s1
    refine ⟨_, rfl, b, _, dx, _, _, rfl, hb, T.cl_Beam, T.na_Beam_hefts, b_hefts _ _ _ _, _, rfl, h, l, _, _, rfl, hh, hl, fun D hD => ?_⟩
    refine comp_zip (f := mulV) (rest := []) hh hl (by rw [List.length_map, List.length_map, V0.len]) hD (Nat.le_of_lt (small1000 (by rw [List.length_map]; have := ok.w; omega))) (fun i x y H' R hx hy s2 h => ?_) (fun H' s2 hd => ?_)
    · obtain ⟨u, rfl, hu⟩ := int_at hx
      obtain ⟨v, rfl, hv⟩ := int_at hy
      have := ok.h u (List.mem_of_getElem? hu)
      exact ⟨_, rfl, _, rfl, _, _, rfl, rfl, .inl ⟨by omega, by omega⟩, h⟩
    · rw [zip_mulV] at hd
      exact ⟨D, _, rfl, SqL.of hd, tilt_fits ok V0, q H' (s1.trans s2)⟩

theorem not_past (a lim : Int) : (!decide (lim < a)) = decide (a ≤ lim) := by
  by_cases h : lim < a
  · rw [decide_eq_true h, decide_eq_false (by omega)]; rfl
  · rw [decide_eq_false h, decide_eq_true (by omega)]; rfl
def sp_past (K : PySem.W.Frag) (t : Adr) : Sp := fun vs H Q _ => ∃ (b : Addr) (n r lim : Int) (hs : List Int) (z : Int), vs = [.ref b, .int z] ∧ BeamAt t H b n r hs lim ∧ Q (.bl (decide (lim < absI z))) H
theorem ok_past (T : Txt K mg t) : FnOk P w K mg base CX0 1 t.a_past t.d_past ["beam", "tipped"] (sp_past K t) := by
  refine T.F_past.ok sc_past (fun vs H Q E h => ?_) (fun cdv A outer s H vs Q E hr h => ?_)
  · obtain ⟨b, n, r, lim, hs, z, rfl, B, q⟩ := h
    rfl
  · obtain ⟨b, n, r, lim, hs, z, rfl, B, q⟩ := h
    refine ⟨_, (pss_one (ps_ret (pe_cmpR op_gt (pe_callB call_abs rfl T.n_abs PyProof.Rows.boot_abs (pa_cons (pv 1) pa_nil)) (pe_fld (pv 0) rfl) (nomark _)))), ?_⟩
    obtain ⟨_, dx, h, hb, hh⟩ := B
    exact ⟨_, rfl, _, rfl, _, rfl, b, _, dx, _, _, rfl, hb, T.cl_Beam, T.na_Beam_limit, b_limit _ _ _ _, _, _, rfl, rfl, q⟩

/-! ### the mathematics of one move -/
def heldOf (hs xs : List Int) (i : Nat) : Int := tiltOf hs xs - hs.getD i 0 * xs.getD i 0
theorem tilt_set : ∀ (hs xs : List Int) (i : Nat) (p : Int), hs.length = xs.length → i < xs.length → tiltOf hs (xs.set i p) = heldOf hs xs i + hs.getD i 0 * p
  | [], xs, i, p, hl, hi => by rw [← hl] at hi; cases hi
  | _ :: _, [], i, p, hl, hi => by cases hi
  | h :: hs, x :: xs, 0, p, _, _ => by
    show h * p + tiltOf hs xs = (h * x + tiltOf hs xs) - h * x + h * p
    omega
  | h :: hs, x :: xs, i + 1, p, hl, hi => by
    have ih := tilt_set hs xs i p (by simpa using hl) (by simpa using hi)
    unfold heldOf at ih ⊢
    show h * x + tiltOf hs (xs.set i p) = (h * x + tiltOf hs xs) - hs.getD i 0 * xs.getD i 0 + hs.getD i 0 * p
    omega
theorem getD_set_self {xs : List Int} {i : Nat} {p : Int} (hi : i < xs.length) : (xs.set i p).getD i 0 = p := by
  rw [List.getD_eq_getElem?_getD, List.getElem?_set_self hi]; rfl
theorem held_set {hs xs : List Int} {i : Nat} {p : Int} (hl : hs.length = xs.length) (hi : i < xs.length) : heldOf hs (xs.set i p) i = heldOf hs xs i := by
  have := tilt_set hs xs i p hl hi
  unfold heldOf at this ⊢
  rw [this, getD_set_self hi]
  omega
theorem set_back {xs : List Int} {i : Nat} (p : Int) (hi : i < xs.length) : (xs.set i p).set i (xs.getD i 0) = xs := by
  rw [List.set_set, List.getD_eq_getElem?_getD, List.getElem?_eq_getElem hi]
  exact List.set_getElem_self hi
theorem count_set' {xs : List Int} {i : Nat} {p y : Int} (hi : i < xs.length) : ((xs.set i p).count y : Int) = (xs.count y : Int) - (if xs.getD i 0 = y then 1 else 0) + (if p = y then 1 else 0) := by
  have e : xs.getD i 0 = xs[i] := by rw [List.getD_eq_getElem?_getD, List.getElem?_eq_getElem hi]; rfl
  rw [e, List.count_set hi]
  have : xs[i] = y → 1 ≤ xs.count y := fun h => List.count_pos_iff.mpr (h ▸ List.getElem_mem hi)
  by_cases h1 : xs[i] = y <;> by_cases h2 : p = y <;> simp [h1, h2] <;> have := this h1 <;> omega
/-- the move of weight i + 1 to p is let by -/
structure Lets (n r : Int) (hs : List Int) (lim : Int) (xs : List Int) (i : Nat) (p : Int) : Prop where
  lt : i < xs.length
  on : -n ≤ p ∧ p ≤ n
  ne : p ≠ xs.getD i 0
  room : p ≠ 0 → (xs.count p : Int) < r
  held : absI (heldOf hs xs i) ≤ lim
  behind : absI (heldOf hs xs i + hs.getD i 0 * p) ≤ lim
instance (n r : Int) (hs : List Int) (lim : Int) (xs : List Int) (i : Nat) (p : Int) : Decidable (Lets n r hs lim xs i p) :=
  decidable_of_iff (i < xs.length ∧ (-n ≤ p ∧ p ≤ n) ∧ p ≠ xs.getD i 0 ∧ (p ≠ 0 → (xs.count p : Int) < r) ∧ absI (heldOf hs xs i) ≤ lim ∧ absI (heldOf hs xs i + hs.getD i 0 * p) ≤ lim)
    ⟨fun ⟨a, b, c, d, e, f⟩ => ⟨a, b, c, d, e, f⟩, fun ⟨a, b, c, d, e, f⟩ => ⟨a, b, c, d, e, f⟩⟩
theorem getD_mem {xs : List Int} {i : Nat} (hi : i < xs.length) : xs.getD i 0 ∈ xs := by
  rw [List.getD_eq_getElem?_getD, List.getElem?_eq_getElem hi]; exact List.getElem_mem hi
theorem Lets.valid {n r lim : Int} {w : Nat} {hs xs : List Int} {i : Nat} {p : Int} (L : Lets n r hs lim xs i p) (V0 : Valid n r w xs) : Valid n r w (xs.set i p) := by
  refine ⟨by rw [List.length_set]; exact V0.len, fun y hy => ?_, fun y hy h0 => ?_⟩
  · rcases List.mem_or_eq_of_mem_set hy with h | rfl
    · exact V0.on y h
    · exact L.on
  · rw [count_set' L.lt]
    by_cases e : p = y
    · subst e
      have := L.room h0
      rw [if_pos rfl, if_neg (fun z => L.ne z.symm)]
      omega
    · have hm : y ∈ xs := (List.mem_or_eq_of_mem_set hy).resolve_right (fun z => e z.symm)
      have := V0.room y hm h0
      rw [if_neg e]
      split <;> omega
/-- the turned move is let by behind it, where the standing keeps the limit -/
theorem Lets.turned {n r lim : Int} {hs xs : List Int} {i : Nat} {p : Int} (L : Lets n r hs lim xs i p) (V0 : Valid n r hs.length xs) (h0 : absI (tiltOf hs xs) ≤ lim) : Lets n r hs lim (xs.set i p) i (xs.getD i 0) := by
  have hl := V0.len.symm
  refine ⟨by rw [List.length_set]; exact L.lt, V0.on _ (getD_mem L.lt), by rw [getD_set_self L.lt]; exact L.ne.symm, fun hz => ?_, by rw [held_set hl L.lt]; exact L.held, ?_⟩
  · rw [count_set' L.lt, if_pos rfl, if_neg L.ne]
    have := V0.room _ (getD_mem L.lt) hz
    omega
  · rw [held_set hl L.lt]
    have e : heldOf hs xs i + hs.getD i 0 * xs.getD i 0 = tiltOf hs xs := by unfold heldOf; omega
    rw [e]
    exact h0
theorem sum_zip : ∀ (hs xs : List Int), hs.length = xs.length → ((List.range hs.length).map fun i => hs.getD i 0 * xs.getD i 0).sum = (List.zipWith (fun h x => h * x) hs xs).sum := by
  intro hs xs hl
  congr 1
  apply List.ext_getElem
  · simp; omega
  · intro i h1 h2
    have hi : i < hs.length := by simpa using h1
    have hi2 : i < xs.length := by omega
    simp [hi, hi2]
def sumTo (hs xs : List Int) : Nat → Int
  | 0 => 0
  | j + 1 => sumTo hs xs j + hs.getD j 0 * xs.getD j 0
theorem sumTo_eq (hs xs : List Int) : ∀ w, sumTo hs xs w = ((List.range w).map fun i => hs.getD i 0 * xs.getD i 0).sum
  | 0 => rfl
  | w + 1 => by
    unfold sumTo
    rw [sumTo_eq hs xs w, List.range_succ, List.map_append, List.sum_append]
    simp
theorem sumTo_tilt {hs xs : List Int} (hl : hs.length = xs.length) : sumTo hs xs hs.length = tiltOf hs xs := by
  rw [sumTo_eq, sum_zip hs xs hl]; rfl
theorem sum_bound : ∀ {zs : List Int} {B : Int}, (∀ z ∈ zs, -B ≤ z ∧ z ≤ B) → -(B * zs.length) ≤ zs.sum ∧ zs.sum ≤ B * zs.length
  | [], B, _ => by simp
  | z :: zs, B, h => by
    have h1 := h z List.mem_cons_self
    have h2 := sum_bound (zs := zs) (B := B) fun y hy => h y (List.mem_cons_of_mem _ hy)
    rw [List.sum_cons, List.length_cons, Int.natCast_add, Int.mul_add]
    omega
theorem tilt_le {n r lim : Int} {hs xs : List Int} (ok : BeamOk n r hs lim) (V0 : Valid n r hs.length xs) : absI (tiltOf hs xs) ≤ 240 ∧ 0 ≤ absI (tiltOf hs xs) := by
  have h1 := sum_bound (zip_bound (B := n) ok.h V0.on (by have := ok.n1; omega))
  rw [List.length_zipWith, V0.len, Nat.min_self] at h1
  have hw := ok.w
  have hm := ok.most
  have n1 := ok.n1
  have n2 := ok.n2
  have key : 20 * n * (hs.length : Int) ≤ 240 := by
    have : n = 1 ∨ n = 2 ∨ n = 3 ∨ n = 4 := by omega
    have h5 : hs.length = 0 ∨ hs.length = 1 ∨ hs.length = 2 ∨ hs.length = 3 ∨ hs.length = 4 ∨ hs.length = 5 := by omega
    rcases this with rfl | rfl | rfl | rfl <;> rcases h5 with e | e | e | e | e | e <;> rw [e] at hm ⊢ <;> first | decide | (exfalso; revert hm; decide)
  unfold tiltOf
  unfold absI
  split <;> omega

def sp_in_hand (K : PySem.W.Frag) (t : Adr) : Sp := fun vs H Q E => ∃ (b a : Addr) (n r lim k : Int) (i : Nat) (hs xs : List Int), vs = [.ref b, .ref a, .int k] ∧ BeamAt t H b n r hs lim ∧ Valid n r hs.length xs ∧
  (SqL K H a (xs.map V.int) ∨ H a = some (.tup (xs.map V.int))) ∧ (k = (i : Int) + 1 ∧ i < xs.length) ∧ ∀ H', Same H H' → Q (.int (heldOf hs xs i)) H'
theorem ok_in_hand (T : Txt K mg t) : FnOk P w K mg base CX0 4 t.a_in_hand t.d_in_hand ["beam", "standing", "weight"] (sp_in_hand K t) := by
  have G_as_standing : FnOk P w K mg base CX0 2 t.a_as_standing t.d_as_standing ["beam", "standing"] (sp_as_standing K t) := ok_as_standing T
  have G_outside : FnOk P w K mg base CX0 1 t.a_outside t.d_outside ["number", "low", "high"] (sp_outside K t) := ok_outside T
  have G_tilt : FnOk P w K mg base CX0 3 t.a_tilt t.d_tilt ["beam", "standing"] (sp_tilt K t) := ok_tilt T
  refine T.F_in_hand.ok sc_in_hand (fun vs H Q E h => ?_) (fun cdv A outer s H vs Q E hr h => ?_)
  · obtain ⟨b, a, n, r, lim, k, i, hs, xs, rfl, B, V0, hS, ⟨rfl, hi⟩, q⟩ := h
    rfl
  · obtain ⟨b, a, n, r, lim, k, i, hs, xs, rfl, B, V0, hS, ⟨rfl, hi⟩, q⟩ := h
    have hr_as_standing : Room 2 _ := hr.mono (by decide)
    have hr_outside : Room 1 _ := hr.mono (by decide)
    have hr_tilt : Room 3 _ := hr.mono (by decide)
    refine ⟨_, (pss_cons (ps_set (i := 3) sc_in_hand.nd rfl (Or.inl rfl) (pe_call G_as_standing hr_as_standing rfl T.m_as_standing T.k_as_standing T.b_as_standing .nil pass0 (pa_cons (pv 0) (pa_cons (pv 1) pa_nil))))
      (pss_cons (ps_if (pt_val (pe_call G_outside hr_outside rfl T.m_outside T.k_outside T.b_outside .nil pass0 (pa_cons (pv 2) (pa_cons pe_int (pa_cons (pe_callB call_len_seq rfl T.n_len PySem.boot_len (pa_cons (pv 3) pa_nil)) pa_nil))))) (pss_one ps_never) pss_nil)
      (pss_one (ps_ret (pe_op op_sub (pe_call G_tilt hr_tilt rfl T.m_tilt T.k_tilt T.b_tilt .nil pass0 (pa_cons (pv 0) (pa_cons (pv 3) pa_nil))) (pe_op op_mul (pe_ix ix_tup (pe_fld (pv 0) rfl) (pe_op op_sub (pv 2) pe_int) (fun _ _ => rfl)) (pe_ix ix_tup (pv 3) (pe_op op_sub (pv 2) pe_int) (fun _ _ => rfl)))))))), ?_⟩
    refine ⟨_, rfl, _, rfl, b, a, n, r, lim, hs, xs, rfl, B, V0, hS, fun l H1 s1 hl => ?_⟩
    refine ⟨_, rfl, _, rfl, l, _, rfl, .inr (SqT.of hl), _, 1, _, rfl, _, rfl, ?_⟩
    rw [List.length_map]
    refine iteB (out_no (by omega) (by omega)) ?_
    refine ⟨_, rfl, _, rfl, b, l, n, r, lim, hs, xs, rfl, B.same s1, V0, .inr hl, fun H2 s2 => ?_⟩
    obtain ⟨_, dx, h, hb, hh⟩ := B.same (s1.trans s2)
    have hlen := V0.len
    have e1 : ((i : Int) + 1 - 1).toNat = i := by omega
    have a1 : atI (hs.map V.int) ((i : Int) + 1 - 1) = some (.int (hs.getD i 0)) := by have := atI_intD (xs := hs) (i := (i : Int) + 1 - 1) (by omega) (by omega); rw [e1] at this; exact this
    have a2 : atI (xs.map V.int) ((i : Int) + 1 - 1) = some (.int (xs.getD i 0)) := by have := atI_intD (xs := xs) (i := (i : Int) + 1 - 1) (by omega) (by omega); rw [e1] at this; exact this
    have hm := B.1.h (hs.getD i 0) (getD_mem (by omega))
    refine ⟨_, rfl, b, _, dx, _, _, rfl, hb, T.cl_Beam, T.na_Beam_hefts, b_hefts _ _ _ _, _, rfl, _, _, rfl, rfl, h, _, _, _, rfl, rfl, SqT.of hh, a1, ?_⟩
    exact ⟨_, rfl, _, rfl, _, _, rfl, rfl, l, _, _, _, rfl, rfl, SqT.of (s2 _ _ hl), a2, _, _, rfl, rfl, .inl ⟨by omega, by omega⟩, _, _, rfl, rfl, q _ (s1.trans s2)⟩

def fullB (r : Int) (xs : List Int) (p : Int) : Bool := decide (p ≠ 0 ∧ r ≤ (xs.count p : Int))
def sp_full (K : PySem.W.Frag) (t : Adr) : Sp := fun vs H Q _ => ∃ (b a : Addr) (n r lim p : Int) (hs xs : List Int), vs = [.ref b, .ref a, .int p] ∧ BeamAt t H b n r hs lim ∧ H a = some (.tup (xs.map V.int)) ∧ Q (.bl (fullB r xs p)) H
theorem ok_full (T : Txt K mg t) : FnOk P w K mg base CX0 1 t.a_full t.d_full ["beam", "places", "place"] (sp_full K t) := by
  refine T.F_full.ok sc_full (fun vs H Q E h => ?_) (fun cdv A outer s H vs Q E hr h => ?_)
  · obtain ⟨b, a, n, r, lim, p, hs, xs, rfl, B, hT, q⟩ := h
    rfl
  · obtain ⟨b, a, n, r, lim, p, hs, xs, rfl, B, hT, q⟩ := h
    refine ⟨_, (pss_one (ps_ret (pe_and (pe_cmpR op_ne (pv 2) pe_int (nomark _)) (pe_one (pe_cmpR op_ge (pe_tm PySem.F.slot_tuple_count PySem.F.type_tuple_count mt_countT (pv 1) (pa_cons (pv 2) pa_nil)) (pe_fld (pv 0) rfl) (nomark _)))))), ?_⟩
    obtain ⟨_, dx, h, hb, hh⟩ := B
    unfold fullB at q
    refine ⟨_, rfl, rfl, _, rfl, ?_⟩
    rw [dec_vint]
    refine ite2 (fun h1 => ?_) (fun h1 => ?_)
    · have h1' : p ≠ 0 := by simpa using h1
      refine ⟨_, rfl, ⟨_, _, rfl, hT⟩, _, rfl, _, xs, p, rfl, rfl, SqT.of hT, _, rfl, b, _, dx, _, _, rfl, hb, T.cl_Beam, T.na_Beam_room, b_room _ _ _ _, _, _, rfl, rfl, ?_⟩
      have e : decide (p ≠ 0 ∧ r ≤ (xs.count p : Int)) = decide (r ≤ (xs.count p : Int)) := by simp [h1']
      rw [e] at q
      exact q
    · have h1' : p = 0 := by simpa using h1
      have e : decide (p ≠ 0 ∧ r ≤ (xs.count p : Int)) = false := by simp [h1']
      rw [e] at q
      exact q

theorem cut_set (xs : List Int) (i : Nat) (p : Int) (hi : i < xs.length) : cutV (xs.map V.int) none (some (i : Int)) ++ [V.int p] ++ cutV (xs.map V.int) (some ((i : Int) + 1)) none = (xs.set i p).map V.int := by
  unfold cutV
  rw [HT.sIx_none, HT.sIx_nat, HT.sIx_none, show ((i : Int) + 1) = ((i + 1 : Nat) : Int) by omega, HT.sIx_nat, List.length_map, Nat.min_eq_left (by omega), Nat.min_eq_left (by omega), List.drop_zero, Nat.sub_zero,
    List.set_eq_take_append_cons_drop, if_pos hi, List.map_append, List.map_cons, List.append_assoc, List.map_take, List.map_drop]
  congr 1
  show V.int p :: _ = _
  congr 1
  exact List.take_of_length_le (by simp)
def Mv (K : PySem.W.Frag) (H : Hp) (m : Addr) (k s p : Int) : Prop := SqL K H m [.int k, .int s, .int p] ∨ SqT K H m [.int k, .int s, .int p]
theorem Mv.ix {K : PySem.W.Frag} {H : Hp} {m : Addr} {k s p : Int} (h : Mv K H m k s p) : (∀ Q : VK, Q (.int k) H → rIx K (.ref m) (.int 0) H Q) ∧ (∀ Q : VK, Q (.int s) H → rIx K (.ref m) (.int 1) H Q) ∧ (∀ Q : VK, Q (.int p) H → rIx K (.ref m) (.int 2) H Q) := by
  rcases h with h | h
  · exact ⟨fun Q q => .inl ⟨m, _, _, _, rfl, rfl, h, rfl, q⟩, fun Q q => .inl ⟨m, _, _, _, rfl, rfl, h, rfl, q⟩, fun Q q => .inl ⟨m, _, _, _, rfl, rfl, h, rfl, q⟩⟩
  · exact ⟨fun Q q => .inr (.inl ⟨m, _, _, _, rfl, rfl, h, rfl, q⟩), fun Q q => .inr (.inl ⟨m, _, _, _, rfl, rfl, h, rfl, q⟩), fun Q q => .inr (.inl ⟨m, _, _, _, rfl, rfl, h, rfl, q⟩)⟩
theorem Same.seqT {K : PySem.W.Frag} {H H' : Hp} {a : Addr} {xs : List V} (e : Same H H') (h : SqT K H a xs) : SqT K H' a xs := by
  rcases h with (h | ⟨o, h⟩) | h
  · exact .inl (.inl (e _ _ h))
  · exact .inl (.inr ⟨o, e _ _ h⟩)
  · exact .inr h
theorem Mv.same {K : PySem.W.Frag} {H H' : Hp} {m : Addr} {k s p : Int} (h : Mv K H m k s p) (e : Same H H') : Mv K H' m k s p := h.imp e.seq (fun z => Same.seqT e z)
def sp_behind (K : PySem.W.Frag) (t : Adr) : Sp := fun vs H Q _ => ∃ (a m : Addr) (k s p : Int) (i : Nat) (xs : List Int), vs = [.ref a, .ref m] ∧ H a = some (.tup (xs.map V.int)) ∧ Mv K H m k s p ∧ (k = (i : Int) + 1 ∧ i < xs.length ∧ xs.length ≤ 900) ∧
  ∀ l H', Same H H' → H' l = some (.tup ((xs.set i p).map V.int)) → Q (.ref l) H'
theorem ok_behind (T : Txt K mg t) : FnOk P w K mg base CX0 1 t.a_behind t.d_behind ["places", "move"] (sp_behind K t) := by
  refine T.F_behind.ok sc_behind (fun vs H Q E h => ?_) (fun cdv A outer s H vs Q E hr h => ?_)
  · obtain ⟨a, m, k, s, p, i, xs, rfl, hT, hM, ⟨rfl, hi, hx⟩, q⟩ := h
    rfl
  · obtain ⟨a, m, k, s, p, i, xs, rfl, hT, hM, ⟨rfl, hi, hx⟩, q⟩ := h
    refine ⟨_, (pss_one (ps_ret (pe_op op_catU (pe_op op_catU (pe_slice sl_tup (pv 0) po_none (po_some (pe_op op_sub (pe_ix ix_seq (pv 1) pe_int (fun _ _ => rfl)) pe_int))) (pe_tup (pa_cons (pe_ix ix_seq (pv 1) pe_int (fun _ _ => rfl)) pa_nil))) (pe_slice sl_tup (pv 0) (po_some (pe_ix ix_seq (pv 1) pe_int (fun _ _ => rfl))) po_none)))), ?_⟩
    refine ⟨_, rfl, _, rfl, hM.ix.1 _ ⟨_, _, rfl, rfl, _, rfl, a, _, rfl, SqT.of hT, ?_, fun l1 f1 => ?_⟩⟩
    · have e : (i : Int) + 1 - 1 = (i : Int) := by omega
      rw [e, HT.sIx_none, HT.sIx_nat, List.length_map, Nat.min_eq_left (by omega)]
      omega
    have s1 : Same H (upd H l1 (.tup (cutV (xs.map V.int) none (some ((i : Int) + 1 - 1))))) := Same.upd f1
    have h1 : (upd H l1 (.tup (cutV (xs.map V.int) none (some ((i : Int) + 1 - 1))))) l1 = some (.tup (cutV (xs.map V.int) none (some ((i : Int) + 1 - 1)))) := upd_same
    revert s1 h1
    generalize upd H l1 (.tup (cutV (xs.map V.int) none (some ((i : Int) + 1 - 1)))) = H1
    intro s1 h1
    refine ⟨_, rfl, (hM.same s1).ix.2.2 _ ⟨(by show 1 ≤ sizeLine; decide), fun l2 f2 => ?_⟩⟩
    have s2 : Same H1 (upd H1 l2 (.tup [.int p])) := Same.upd f2
    have h2 : (upd H1 l2 (.tup [.int p])) l2 = some (.tup [.int p]) := upd_same
    revert s2 h2
    generalize upd H1 l2 (.tup [.int p]) = H2
    intro s2 h2
    have len1 := cutV_length (xs.map V.int) none (some ((i : Int) + 1 - 1))
    rw [List.length_map] at len1
    refine ⟨l1, l2, _, _, rfl, rfl, s2 _ _ h1, h2, Nat.le_of_lt (small1000 (by show _ + 1 ≤ _; omega)), fun l3 H3 s3 h3 => ?_⟩
    have s03 := s1.trans (s2.trans s3)
    refine ⟨_, rfl, _, rfl, (hM.same s03).ix.1 _ ⟨_, rfl, a, _, rfl, SqT.of (s03 _ _ hT), ?_, fun l4 f4 => ?_⟩⟩
    · rw [show ((i : Int) + 1) = ((i + 1 : Nat) : Int) by omega, HT.sIx_nat, List.length_map]
      omega
    have s4 : Same H3 (upd H3 l4 (.tup (cutV (xs.map V.int) (some ((i : Int) + 1)) none))) := Same.upd f4
    have h4 : (upd H3 l4 (.tup (cutV (xs.map V.int) (some ((i : Int) + 1)) none))) l4 = some (.tup (cutV (xs.map V.int) (some ((i : Int) + 1)) none)) := upd_same
    revert s4 h4
    generalize upd H3 l4 (.tup (cutV (xs.map V.int) (some ((i : Int) + 1)) none)) = H4
    intro s4 h4
    have e5 := cut_set xs i p hi
    rw [show (i : Int) = (i : Int) + 1 - 1 by omega, show (i : Int) + 1 - 1 + 1 = (i : Int) + 1 by omega] at e5
    refine ⟨l3, l4, _, _, rfl, rfl, s4 _ _ h3, h4, ?_, fun l5 H5 s5 h5 => q l5 H5 (s03.trans (s4.trans s5)) ?_⟩
    · rw [← List.length_append, e5, List.length_map, List.length_set]
      exact Nat.le_of_lt (small1000 (by omega))
    · rw [h5, e5]

/-! ### refusals -/
def sp_BeamError_init (K : PySem.W.Frag) (t : Adr) : Sp := fun vs H Q _ => ∃ (x C : Addr) (u v : V), vs = [.ref x, u, v] ∧ H x = some (ExcO C x none) ∧ XCls K C ∧ NoAttr K C "reason" ∧ NoAttr K C "word" ∧
  ∀ H' dx, H' x = some (ExcO C x (some dx)) → H' dx = some (.xd (putF "word" v (putF "reason" u []))) → SameX x H H' → Q .non H'
theorem ok_BeamError_init (T : Txt K mg t) : FnOk P w K mg base CX0 1 t.a_BeamError_init t.d_BeamError_init ["self", "reason", "word"] (sp_BeamError_init K t) := by
  refine T.F_BeamError_init.ok sc_BeamError_init (fun vs H Q E h => ?_) (fun cdv A outer s H vs Q E hr h => ?_)
  · obtain ⟨x, C, u, v, rfl, hx, hc, n1, n2, q⟩ := h
    rfl
  · obtain ⟨x, C, u, v, rfl, hx, hc, n1, n2, q⟩ := h
    refine ⟨_, (pss_cons (ps_xfld (pv 0) (pv 1) rfl)
      (pss_one (ps_xfld (pv 0) (pv 2) rfl))), ?_⟩
    refine ⟨_, rfl, _, rfl, x, C, none, rfl, hx, hc, n1, fun dx fdx ndx => ?_⟩
    refine ⟨_, rfl, _, rfl, x, C, some dx, rfl, upd_same, hc, n2, putF "reason" u [], by rw [upd_ne ndx]; exact upd_same, by show (1 : Nat) < 1000; decide, ?_⟩
    refine q _ dx (by rw [upd_ne ndx.symm]; exact upd_same) upd_same fun b o e hb => ?_
    rw [upd_ne (ne_of_none e fdx), upd_ne hb, upd_ne (ne_of_none e fdx)]
    exact e
def sp_NoWeight_init (K : PySem.W.Frag) (t : Adr) : Sp := fun vs H Q _ => ∃ (x : Addr) (u : V), vs = [.ref x, u] ∧ H x = some (ExcO t.c_NoWeight x none) ∧
  ∀ H' dx, H' x = some (ExcO t.c_NoWeight x (some dx)) → H' dx = some (.xd (putF "word" (.str "no weight") (putF "reason" u []))) → SameX x H H' → Q .non H'
theorem ok_NoWeight_init (T : Txt K mg t) : FnOk P w K mg base CX0 2 t.a_NoWeight_init t.d_NoWeight_init ["self", "reason"] (sp_NoWeight_init K t) := by
  have G_BeamError_init : FnOk P w K mg base CX0 1 t.a_BeamError_init t.d_BeamError_init ["self", "reason", "word"] (sp_BeamError_init K t) := ok_BeamError_init T
  refine T.F_NoWeight_init.ok sc_NoWeight_init (fun vs H Q E h => ?_) (fun cdv A outer s H vs Q E hr h => ?_)
  · obtain ⟨x, u, rfl, hx, q⟩ := h
    rfl
  · obtain ⟨x, u, rfl, hx, q⟩ := h
    have hr_BeamError_init : Room 1 _ := hr.mono (by decide)
    refine ⟨_, (pss_one (ps_expr (pe_cmeth T.cm_BeamError rfl T.m_BeamError G_BeamError_init hr_BeamError_init T.b_BeamError_init .nil pass0 (pa_cons (pv 0) (pa_cons (pv 1) (pa_cons pe_str pa_nil)))))), ?_⟩
    exact ⟨_, rfl, _, rfl, x, t.c_NoWeight, u, _, rfl, hx, T.x_NoWeight, T.na_NoWeight_reason, T.na_NoWeight_word, fun H' dx h1 h2 h3 => q H' dx h1 h2 h3⟩
def sp_NoPlace_init (K : PySem.W.Frag) (t : Adr) : Sp := fun vs H Q _ => ∃ (x : Addr) (u : V), vs = [.ref x, u] ∧ H x = some (ExcO t.c_NoPlace x none) ∧
  ∀ H' dx, H' x = some (ExcO t.c_NoPlace x (some dx)) → H' dx = some (.xd (putF "word" (.str "no place") (putF "reason" u []))) → SameX x H H' → Q .non H'
theorem ok_NoPlace_init (T : Txt K mg t) : FnOk P w K mg base CX0 2 t.a_NoPlace_init t.d_NoPlace_init ["self", "reason"] (sp_NoPlace_init K t) := by
  have G_BeamError_init : FnOk P w K mg base CX0 1 t.a_BeamError_init t.d_BeamError_init ["self", "reason", "word"] (sp_BeamError_init K t) := ok_BeamError_init T
  refine T.F_NoPlace_init.ok sc_NoPlace_init (fun vs H Q E h => ?_) (fun cdv A outer s H vs Q E hr h => ?_)
  · obtain ⟨x, u, rfl, hx, q⟩ := h
    rfl
  · obtain ⟨x, u, rfl, hx, q⟩ := h
    have hr_BeamError_init : Room 1 _ := hr.mono (by decide)
    refine ⟨_, (pss_one (ps_expr (pe_cmeth T.cm_BeamError rfl T.m_BeamError G_BeamError_init hr_BeamError_init T.b_BeamError_init .nil pass0 (pa_cons (pv 0) (pa_cons (pv 1) (pa_cons pe_str pa_nil)))))), ?_⟩
    exact ⟨_, rfl, _, rfl, x, t.c_NoPlace, u, _, rfl, hx, T.x_NoPlace, T.na_NoPlace_reason, T.na_NoPlace_word, fun H' dx h1 h2 h3 => q H' dx h1 h2 h3⟩
def sp_SamePlace_init (K : PySem.W.Frag) (t : Adr) : Sp := fun vs H Q _ => ∃ (x : Addr) (u : V), vs = [.ref x, u] ∧ H x = some (ExcO t.c_SamePlace x none) ∧
  ∀ H' dx, H' x = some (ExcO t.c_SamePlace x (some dx)) → H' dx = some (.xd (putF "word" (.str "same place") (putF "reason" u []))) → SameX x H H' → Q .non H'
theorem ok_SamePlace_init (T : Txt K mg t) : FnOk P w K mg base CX0 2 t.a_SamePlace_init t.d_SamePlace_init ["self", "reason"] (sp_SamePlace_init K t) := by
  have G_BeamError_init : FnOk P w K mg base CX0 1 t.a_BeamError_init t.d_BeamError_init ["self", "reason", "word"] (sp_BeamError_init K t) := ok_BeamError_init T
  refine T.F_SamePlace_init.ok sc_SamePlace_init (fun vs H Q E h => ?_) (fun cdv A outer s H vs Q E hr h => ?_)
  · obtain ⟨x, u, rfl, hx, q⟩ := h
    rfl
  · obtain ⟨x, u, rfl, hx, q⟩ := h
    have hr_BeamError_init : Room 1 _ := hr.mono (by decide)
    refine ⟨_, (pss_one (ps_expr (pe_cmeth T.cm_BeamError rfl T.m_BeamError G_BeamError_init hr_BeamError_init T.b_BeamError_init .nil pass0 (pa_cons (pv 0) (pa_cons (pv 1) (pa_cons pe_str pa_nil)))))), ?_⟩
    exact ⟨_, rfl, _, rfl, x, t.c_SamePlace, u, _, rfl, hx, T.x_SamePlace, T.na_SamePlace_reason, T.na_SamePlace_word, fun H' dx h1 h2 h3 => q H' dx h1 h2 h3⟩
def sp_NoRoom_init (K : PySem.W.Frag) (t : Adr) : Sp := fun vs H Q _ => ∃ (x : Addr) (u : V), vs = [.ref x, u] ∧ H x = some (ExcO t.c_NoRoom x none) ∧
  ∀ H' dx, H' x = some (ExcO t.c_NoRoom x (some dx)) → H' dx = some (.xd (putF "word" (.str "no room") (putF "reason" u []))) → SameX x H H' → Q .non H'
theorem ok_NoRoom_init (T : Txt K mg t) : FnOk P w K mg base CX0 2 t.a_NoRoom_init t.d_NoRoom_init ["self", "reason"] (sp_NoRoom_init K t) := by
  have G_BeamError_init : FnOk P w K mg base CX0 1 t.a_BeamError_init t.d_BeamError_init ["self", "reason", "word"] (sp_BeamError_init K t) := ok_BeamError_init T
  refine T.F_NoRoom_init.ok sc_NoRoom_init (fun vs H Q E h => ?_) (fun cdv A outer s H vs Q E hr h => ?_)
  · obtain ⟨x, u, rfl, hx, q⟩ := h
    rfl
  · obtain ⟨x, u, rfl, hx, q⟩ := h
    have hr_BeamError_init : Room 1 _ := hr.mono (by decide)
    refine ⟨_, (pss_one (ps_expr (pe_cmeth T.cm_BeamError rfl T.m_BeamError G_BeamError_init hr_BeamError_init T.b_BeamError_init .nil pass0 (pa_cons (pv 0) (pa_cons (pv 1) (pa_cons pe_str pa_nil)))))), ?_⟩
    exact ⟨_, rfl, _, rfl, x, t.c_NoRoom, u, _, rfl, hx, T.x_NoRoom, T.na_NoRoom_reason, T.na_NoRoom_word, fun H' dx h1 h2 h3 => q H' dx h1 h2 h3⟩
def sp_TipsInHand_init (K : PySem.W.Frag) (t : Adr) : Sp := fun vs H Q _ => ∃ (x : Addr) (u : V), vs = [.ref x, u] ∧ H x = some (ExcO t.c_TipsInHand x none) ∧
  ∀ H' dx, H' x = some (ExcO t.c_TipsInHand x (some dx)) → H' dx = some (.xd (putF "word" (.str "tips in hand") (putF "reason" u []))) → SameX x H H' → Q .non H'
theorem ok_TipsInHand_init (T : Txt K mg t) : FnOk P w K mg base CX0 2 t.a_TipsInHand_init t.d_TipsInHand_init ["self", "reason"] (sp_TipsInHand_init K t) := by
  have G_BeamError_init : FnOk P w K mg base CX0 1 t.a_BeamError_init t.d_BeamError_init ["self", "reason", "word"] (sp_BeamError_init K t) := ok_BeamError_init T
  refine T.F_TipsInHand_init.ok sc_TipsInHand_init (fun vs H Q E h => ?_) (fun cdv A outer s H vs Q E hr h => ?_)
  · obtain ⟨x, u, rfl, hx, q⟩ := h
    rfl
  · obtain ⟨x, u, rfl, hx, q⟩ := h
    have hr_BeamError_init : Room 1 _ := hr.mono (by decide)
    refine ⟨_, (pss_one (ps_expr (pe_cmeth T.cm_BeamError rfl T.m_BeamError G_BeamError_init hr_BeamError_init T.b_BeamError_init .nil pass0 (pa_cons (pv 0) (pa_cons (pv 1) (pa_cons pe_str pa_nil)))))), ?_⟩
    exact ⟨_, rfl, _, rfl, x, t.c_TipsInHand, u, _, rfl, hx, T.x_TipsInHand, T.na_TipsInHand_reason, T.na_TipsInHand_word, fun H' dx h1 h2 h3 => q H' dx h1 h2 h3⟩
def sp_TipsBehind_init (K : PySem.W.Frag) (t : Adr) : Sp := fun vs H Q _ => ∃ (x : Addr) (u : V), vs = [.ref x, u] ∧ H x = some (ExcO t.c_TipsBehind x none) ∧
  ∀ H' dx, H' x = some (ExcO t.c_TipsBehind x (some dx)) → H' dx = some (.xd (putF "word" (.str "tips behind") (putF "reason" u []))) → SameX x H H' → Q .non H'
theorem ok_TipsBehind_init (T : Txt K mg t) : FnOk P w K mg base CX0 2 t.a_TipsBehind_init t.d_TipsBehind_init ["self", "reason"] (sp_TipsBehind_init K t) := by
  have G_BeamError_init : FnOk P w K mg base CX0 1 t.a_BeamError_init t.d_BeamError_init ["self", "reason", "word"] (sp_BeamError_init K t) := ok_BeamError_init T
  refine T.F_TipsBehind_init.ok sc_TipsBehind_init (fun vs H Q E h => ?_) (fun cdv A outer s H vs Q E hr h => ?_)
  · obtain ⟨x, u, rfl, hx, q⟩ := h
    rfl
  · obtain ⟨x, u, rfl, hx, q⟩ := h
    have hr_BeamError_init : Room 1 _ := hr.mono (by decide)
    refine ⟨_, (pss_one (ps_expr (pe_cmeth T.cm_BeamError rfl T.m_BeamError G_BeamError_init hr_BeamError_init T.b_BeamError_init .nil pass0 (pa_cons (pv 0) (pa_cons (pv 1) (pa_cons pe_str pa_nil)))))), ?_⟩
    exact ⟨_, rfl, _, rfl, x, t.c_TipsBehind, u, _, rfl, hx, T.x_TipsBehind, T.na_TipsBehind_reason, T.na_TipsBehind_word, fun H' dx h1 h2 h3 => q H' dx h1 h2 h3⟩

/-- an exception was raised: what was there stays, and its word is told -/
def Told (H H' : Hp) (od : Option Addr) (w : Str) : Prop := Same H H' ∧ ∃ dx fs, od = some dx ∧ H' dx = some (.xd fs) ∧ fs.lookup ("word" : Str) = some (V.str w)
theorem Told.from {H H1 H' : Hp} {od : Option Addr} {w : Str} (h : Told H1 H' od w) (s : Same H H1) : Told H H' od w := ⟨s.trans h.1, h.2⟩
theorem told_of {H H1 H' : Hp} {x dx C : Addr} {o : HO} {u : V} {w : Str} (s : Same H H1) (fx : H1 x = none) (hx : H' x = some (ExcO C x (some dx))) (hd : H' dx = some (.xd (putF "word" (.str w) (putF "reason" u [])))) (sx : SameX x (upd H1 x o) H') : Told H (del H' x) (some dx) w := by
  refine ⟨fun b v e => ?_, dx, putF "word" (.str w) (putF "reason" u []), rfl, ?_, ?_⟩
  · have e1 := s b v e
    have hb : b ≠ x := ne_of_none e1 fx
    rw [del_ne hb]
    exact sx b v (by rw [upd_ne hb]; exact e1) hb
  · rw [del_ne (fun z => by rw [z, hx] at hd; cases hd)]; exact hd
  · rw [lookup_putF, if_pos rfl]
def goodW (xs : List Int) (k s : Int) : Prop := (1 ≤ k ∧ k ≤ xs.length) ∧ xs.getD (k - 1).toNat 0 = s
instance (xs : List Int) (k s : Int) : Decidable (goodW xs k s) := by unfold goodW; exact inferInstance
def refN (n r lim : Int) (hs xs : List Int) (k s p : Int) : Nat :=
  if ¬ goodW xs k s then 1 else if p < -n ∨ n < p then 2 else if p = s then 3 else if fullB r xs p = true then 4
  else if lim < absI (heldOf hs xs (k - 1).toNat) then 5 else if lim < absI (heldOf hs xs (k - 1).toNat + hs.getD (k - 1).toNat 0 * p) then 6 else 0
theorem refN_le (n r lim : Int) (hs xs : List Int) (k s p : Int) : refN n r lim hs xs k s p ≤ 6 := by
  unfold refN
  repeat (first | decide | split)
def wordN : Nat → Str
  | 1 => "no weight" | 2 => "no place" | 3 => "same place" | 4 => "no room" | 5 => "tips in hand" | 6 => "tips behind" | _ => ""
def clsN (t : Adr) : Nat → Addr
  | 1 => t.c_NoWeight | 2 => t.c_NoPlace | 3 => t.c_SamePlace | 4 => t.c_NoRoom | 5 => t.c_TipsInHand | _ => t.c_TipsBehind
theorem xfacts (T : Txt K mg t) {j : Nat} (hj : j < 6) : XAsk K (clsN t (j + 1)) ∧ NoAttr K (clsN t (j + 1)) "word" ∧ PySem.W.exmOne K (.ref (clsN t (j + 1))) (.ref t.c_BeamError) = some true := by
  match j, hj with
  | 0, _ => exact ⟨T.xa_NoWeight, T.na_NoWeight_word, T.xm_NoWeight_BeamError⟩
  | 1, _ => exact ⟨T.xa_NoPlace, T.na_NoPlace_word, T.xm_NoPlace_BeamError⟩
  | 2, _ => exact ⟨T.xa_SamePlace, T.na_SamePlace_word, T.xm_SamePlace_BeamError⟩
  | 3, _ => exact ⟨T.xa_NoRoom, T.na_NoRoom_word, T.xm_NoRoom_BeamError⟩
  | 4, _ => exact ⟨T.xa_TipsInHand, T.na_TipsInHand_word, T.xm_TipsInHand_BeamError⟩
  | 5, _ => exact ⟨T.xa_TipsBehind, T.na_TipsBehind_word, T.xm_TipsBehind_BeamError⟩
  | j + 6, h => exact absurd h (by omega)
def sp_check_weight (K : PySem.W.Frag) (t : Adr) : Sp := fun vs H Q E => ∃ (a : Addr) (k s : Int) (xs : List Int), vs = [.ref a, .int k, .int s] ∧ H a = some (.tup (xs.map V.int)) ∧ (goodW xs k s → Q .non H) ∧ (¬ goodW xs k s → ∀ od H', Told H H' od "no weight" → E (.ref t.c_NoWeight) od H')
theorem ok_check_weight (T : Txt K mg t) : FnOk P w K mg base (CXD P w) 4 t.a_check_weight t.d_check_weight ["places", "weight", "taken"] (sp_check_weight K t) := by
  have G_outside : FnOk P w K mg base CX0 1 t.a_outside t.d_outside ["number", "low", "high"] (sp_outside K t) := ok_outside T
  have G_NoWeight_init : FnOk P w K mg base CX0 2 t.a_NoWeight_init t.d_NoWeight_init ["self", "reason"] (sp_NoWeight_init K t) := ok_NoWeight_init T
  refine T.F_check_weight.d.okD (CX := CX0) sc_check_weight (fun vs H Q E h => ?_) (fun cdv A outer s H vs Q E hr h => ?_)
  · obtain ⟨a, k, s, xs, rfl, hT, q, qe⟩ := h
    rfl
  · obtain ⟨a, k, s, xs, rfl, hT, q, qe⟩ := h
    have hr_outside : Room 1 _ := hr.mono (by decide)
    have hr_NoWeight : Room 3 _ := hr.mono (by decide)
    refine ⟨_, (pss_cons (ps_if (pt_val (pe_call G_outside hr_outside rfl T.m_outside T.k_outside T.b_outside .nil pass0 (pa_cons (pv 1) (pa_cons pe_int (pa_cons (pe_callB call_len_seq rfl T.n_len PySem.boot_len (pa_cons (pv 0) pa_nil)) pa_nil))))) (pss_one (ps_raiseD raises_fnD rfl T.x_NoWeight T.i_NoWeight T.if_NoWeight G_NoWeight_init hr_NoWeight rfl T.m_NoWeight T.b_NoWeight_init .nil pass0 (pa_cons pe_str pa_nil))) pss_nil)
      (pss_one (ps_if (pt_cmpR op_ne (pe_ix ix_tup (pv 0) (pe_op op_sub (pv 1) pe_int) (fun _ _ => rfl)) (pv 2) (nomark _)) (pss_one (ps_raiseD raises_fnD rfl T.x_NoWeight T.i_NoWeight T.if_NoWeight G_NoWeight_init hr_NoWeight rfl T.m_NoWeight T.b_NoWeight_init .nil pass0 (pa_cons pe_str pa_nil))) pss_nil))), ?_⟩
    refine ⟨_, rfl, _, rfl, a, _, rfl, .inr (SqT.of hT), k, 1, _, rfl, _, rfl, ?_⟩
    rw [List.length_map]
    refine ite2 (fun h1 => ?_) (fun h1 => ?_)
    · have hb : ¬ goodW xs k s := fun z => by have := z.1; simp at h1; omega
      exact ⟨(by show 1 ≤ sizeLine; decide), fun x fx => ⟨x, _, rfl, upd_same, fun H' dx hx hd sx => ⟨rfl, some dx, hx, qe hb _ _ (told_of (Same.refl _) fx hx hd sx)⟩⟩⟩
    have hk : 1 ≤ k ∧ k ≤ xs.length := by simp at h1; omega
    refine ⟨_, rfl, _, rfl, _, _, rfl, rfl, a, _, _, _, rfl, rfl, SqT.of hT, atI_intD (by omega) (by omega), _, rfl, rfl, _, rfl, ?_⟩
    rw [dec_vint]
    refine ite2 (fun h2 => ?_) (fun h2 => ?_)
    · have hb : ¬ goodW xs k s := fun z => by simp at h2; exact h2 (by simpa using z.2)
      exact ⟨(by show 1 ≤ sizeLine; decide), fun x fx => ⟨x, _, rfl, upd_same, fun H' dx hx hd sx => ⟨rfl, some dx, hx, qe hb _ _ (told_of (Same.refl _) fx hx hd sx)⟩⟩⟩
    · exact q ⟨hk, by simpa using h2⟩
def sp_check_put (K : PySem.W.Frag) (t : Adr) : Sp := fun vs H Q E => ∃ (b a : Addr) (n r lim s p : Int) (hs xs : List Int), vs = [.ref b, .ref a, .int s, .int p] ∧ BeamAt t H b n r hs lim ∧ H a = some (.tup (xs.map V.int)) ∧
  (¬ (p < -n ∨ n < p) → p ≠ s → ¬ fullB r xs p = true → Q .non H) ∧ ((p < -n ∨ n < p) → ∀ od H', Told H H' od "no place" → E (.ref t.c_NoPlace) od H') ∧ (¬ (p < -n ∨ n < p) → p = s → ∀ od H', Told H H' od "same place" → E (.ref t.c_SamePlace) od H') ∧
  (¬ (p < -n ∨ n < p) → p ≠ s → fullB r xs p = true → ∀ od H', Told H H' od "no room" → E (.ref t.c_NoRoom) od H')
theorem ok_check_put (T : Txt K mg t) : FnOk P w K mg base (CXD P w) 4 t.a_check_put t.d_check_put ["beam", "places", "taken", "put"] (sp_check_put K t) := by
  have G_outside : FnOk P w K mg base CX0 1 t.a_outside t.d_outside ["number", "low", "high"] (sp_outside K t) := ok_outside T
  have G_full : FnOk P w K mg base CX0 1 t.a_full t.d_full ["beam", "places", "place"] (sp_full K t) := ok_full T
  have G_NoPlace_init : FnOk P w K mg base CX0 2 t.a_NoPlace_init t.d_NoPlace_init ["self", "reason"] (sp_NoPlace_init K t) := ok_NoPlace_init T
  have G_SamePlace_init : FnOk P w K mg base CX0 2 t.a_SamePlace_init t.d_SamePlace_init ["self", "reason"] (sp_SamePlace_init K t) := ok_SamePlace_init T
  have G_NoRoom_init : FnOk P w K mg base CX0 2 t.a_NoRoom_init t.d_NoRoom_init ["self", "reason"] (sp_NoRoom_init K t) := ok_NoRoom_init T
  refine T.F_check_put.d.okD (CX := CX0) sc_check_put (fun vs H Q E h => ?_) (fun cdv A outer s H vs Q E hr h => ?_)
  · obtain ⟨b, a, n, r, lim, s, p, hs, xs, rfl, B, hT, q, q1, q2, q3⟩ := h
    rfl
  · obtain ⟨b, a, n, r, lim, s, p, hs, xs, rfl, B, hT, q, q1, q2, q3⟩ := h
    have hr_outside : Room 1 _ := hr.mono (by decide)
    have hr_full : Room 1 _ := hr.mono (by decide)
    have hr_NoPlace : Room 3 _ := hr.mono (by decide)
    have hr_SamePlace : Room 3 _ := hr.mono (by decide)
    have hr_NoRoom : Room 3 _ := hr.mono (by decide)
    refine ⟨_, (pss_cons (ps_if (pt_val (pe_call G_outside hr_outside rfl T.m_outside T.k_outside T.b_outside .nil pass0 (pa_cons (pv 3) (pa_cons (pe_un un_neg (pe_fld (pv 0) rfl)) (pa_cons (pe_fld (pv 0) rfl) pa_nil))))) (pss_one (ps_raiseD raises_fnD rfl T.x_NoPlace T.i_NoPlace T.if_NoPlace G_NoPlace_init hr_NoPlace rfl T.m_NoPlace T.b_NoPlace_init .nil pass0 (pa_cons pe_str pa_nil))) pss_nil)
      (pss_cons (ps_if (pt_cmpR op_eq (pv 3) (pv 2) (nomark _)) (pss_one (ps_raiseD raises_fnD rfl T.x_SamePlace T.i_SamePlace T.if_SamePlace G_SamePlace_init hr_SamePlace rfl T.m_SamePlace T.b_SamePlace_init .nil pass0 (pa_cons pe_str pa_nil))) pss_nil)
      (pss_one (ps_if (pt_val (pe_call G_full hr_full rfl T.m_full T.k_full T.b_full .nil pass0 (pa_cons (pv 0) (pa_cons (pv 1) (pa_cons (pv 3) pa_nil))))) (pss_one (ps_raiseD raises_fnD rfl T.x_NoRoom T.i_NoRoom T.if_NoRoom G_NoRoom_init hr_NoRoom rfl T.m_NoRoom T.b_NoRoom_init .nil pass0 (pa_cons pe_str pa_nil))) pss_nil)))), ?_⟩
    have B0 := B
    obtain ⟨_, dx, h, hb, hh⟩ := B
    refine ⟨_, rfl, _, rfl, b, _, dx, _, _, rfl, hb, T.cl_Beam, T.na_Beam_notches, b_notches _ _ _ _, _, rfl, _, rfl, b, _, dx, _, _, rfl, hb, T.cl_Beam, T.na_Beam_notches, b_notches _ _ _ _, p, -n, n, rfl, _, rfl, ?_⟩
    refine ite2 (fun h1 => ?_) (fun h1 => ?_)
    · have h1' : p < -n ∨ n < p := by simpa using h1
      exact ⟨(by show 1 ≤ sizeLine; decide), fun x fx => ⟨x, _, rfl, upd_same, fun H' dx hx hd sx => ⟨rfl, some dx, hx, q1 h1' _ _ (told_of (Same.refl _) fx hx hd sx)⟩⟩⟩
    have h1' : ¬ (p < -n ∨ n < p) := fun z => h1 (by simpa using z)
    refine ⟨_, rfl, _, rfl, rfl, _, rfl, ?_⟩
    rw [dec_vint]
    refine ite2 (fun h2 => ?_) (fun h2 => ?_)
    · have h2' : p = s := of_decide_eq_true h2
      exact ⟨(by show 1 ≤ sizeLine; decide), fun x fx => ⟨x, _, rfl, upd_same, fun H' dx hx hd sx => ⟨rfl, some dx, hx, q2 h1' h2' _ _ (told_of (Same.refl _) fx hx hd sx)⟩⟩⟩
    have h2' : p ≠ s := fun z => h2 (decide_eq_true z)
    refine ⟨_, rfl, _, rfl, _, rfl, b, a, n, r, lim, p, hs, xs, rfl, B0, hT, _, rfl, ?_⟩
    refine ite2 (fun h3 => ?_) (fun h3 => ?_)
    · exact ⟨(by show 1 ≤ sizeLine; decide), fun x fx => ⟨x, _, rfl, upd_same, fun H' dx hx hd sx => ⟨rfl, some dx, hx, q3 h1' h2' h3 _ _ (told_of (Same.refl _) fx hx hd sx)⟩⟩⟩
    · exact q h1' h2' h3
def sp_check_tilts (K : PySem.W.Frag) (t : Adr) : Sp := fun vs H Q E => ∃ (b : Addr) (n r lim u v : Int) (hs : List Int), vs = [.ref b, .int u, .int v] ∧ BeamAt t H b n r hs lim ∧ (¬ lim < absI u → ¬ lim < absI (u + v) → Q .non H) ∧ (lim < absI u → ∀ od H', Told H H' od "tips in hand" → E (.ref t.c_TipsInHand) od H') ∧
  (¬ lim < absI u → lim < absI (u + v) → ∀ od H', Told H H' od "tips behind" → E (.ref t.c_TipsBehind) od H')
theorem ok_check_tilts (T : Txt K mg t) : FnOk P w K mg base (CXD P w) 4 t.a_check_tilts t.d_check_tilts ["beam", "held", "added"] (sp_check_tilts K t) := by
  have G_past : FnOk P w K mg base CX0 1 t.a_past t.d_past ["beam", "tipped"] (sp_past K t) := ok_past T
  have G_TipsInHand_init : FnOk P w K mg base CX0 2 t.a_TipsInHand_init t.d_TipsInHand_init ["self", "reason"] (sp_TipsInHand_init K t) := ok_TipsInHand_init T
  have G_TipsBehind_init : FnOk P w K mg base CX0 2 t.a_TipsBehind_init t.d_TipsBehind_init ["self", "reason"] (sp_TipsBehind_init K t) := ok_TipsBehind_init T
  refine T.F_check_tilts.d.okD (CX := CX0) sc_check_tilts (fun vs H Q E h => ?_) (fun cdv A outer s H vs Q E hr h => ?_)
  · obtain ⟨b, n, r, lim, u, v, hs, rfl, B, q, q1, q2⟩ := h
    rfl
  · obtain ⟨b, n, r, lim, u, v, hs, rfl, B, q, q1, q2⟩ := h
    have hr_past : Room 1 _ := hr.mono (by decide)
    have hr_TipsInHand : Room 3 _ := hr.mono (by decide)
    have hr_TipsBehind : Room 3 _ := hr.mono (by decide)
    refine ⟨_, (pss_cons (ps_if (pt_val (pe_call G_past hr_past rfl T.m_past T.k_past T.b_past .nil pass0 (pa_cons (pv 0) (pa_cons (pv 1) pa_nil)))) (pss_one (ps_raiseD raises_fnD rfl T.x_TipsInHand T.i_TipsInHand T.if_TipsInHand G_TipsInHand_init hr_TipsInHand rfl T.m_TipsInHand T.b_TipsInHand_init .nil pass0 (pa_cons pe_str pa_nil))) pss_nil)
      (pss_one (ps_if (pt_val (pe_call G_past hr_past rfl T.m_past T.k_past T.b_past .nil pass0 (pa_cons (pv 0) (pa_cons (pe_op op_add (pv 1) (pv 2)) pa_nil)))) (pss_one (ps_raiseD raises_fnD rfl T.x_TipsBehind T.i_TipsBehind T.if_TipsBehind G_TipsBehind_init hr_TipsBehind rfl T.m_TipsBehind T.b_TipsBehind_init .nil pass0 (pa_cons pe_str pa_nil))) pss_nil))), ?_⟩
    refine ⟨_, rfl, _, rfl, b, n, r, lim, hs, u, rfl, B, _, rfl, ?_⟩
    refine ite2 (fun h1 => ?_) (fun h1 => ?_)
    · exact ⟨(by show 1 ≤ sizeLine; decide), fun x fx => ⟨x, _, rfl, upd_same, fun H' dx hx hd sx => ⟨rfl, some dx, hx, q1 (of_decide_eq_true h1) _ _ (told_of (Same.refl _) fx hx hd sx)⟩⟩⟩
    have h1' : ¬ lim < absI u := fun z => h1 (decide_eq_true z)
    refine ⟨_, rfl, _, rfl, _, rfl, _, _, rfl, rfl, b, n, r, lim, hs, u + v, rfl, B, _, rfl, ?_⟩
    refine ite2 (fun h2 => ?_) (fun h2 => ?_)
    · exact ⟨(by show 1 ≤ sizeLine; decide), fun x fx => ⟨x, _, rfl, upd_same, fun H' dx hx hd sx => ⟨rfl, some dx, hx, q2 h1' (of_decide_eq_true h2) _ _ (told_of (Same.refl _) fx hx hd sx)⟩⟩⟩
    · exact q h1' fun z => h2 (decide_eq_true z)
def sp_check_move (K : PySem.W.Frag) (t : Adr) : Sp := fun vs H Q E => ∃ (b a : Addr) (n r lim k s p : Int) (hs xs : List Int), vs = [.ref b, .ref a, .int k, .int s, .int p] ∧ BeamAt t H b n r hs lim ∧ Valid n r hs.length xs ∧ H a = some (.tup (xs.map V.int)) ∧
  (refN n r lim hs xs k s p = 0 → ∀ H', Same H H' → Q .non H') ∧ (∀ j od H', refN n r lim hs xs k s p = j + 1 → Told H H' od (wordN (j + 1)) → E (.ref (clsN t (j + 1))) od H')
theorem ok_check_move (T : Txt K mg t) : FnOk P w K mg base (CXD P w) 5 t.a_check_move t.d_check_move ["beam", "places", "weight", "taken", "put"] (sp_check_move K t) := by
  have G_check_weight : FnOk P w K mg base (CXD P w) 4 t.a_check_weight t.d_check_weight ["places", "weight", "taken"] (sp_check_weight K t) := ok_check_weight T
  have G_check_put : FnOk P w K mg base (CXD P w) 4 t.a_check_put t.d_check_put ["beam", "places", "taken", "put"] (sp_check_put K t) := ok_check_put T
  have G_check_tilts : FnOk P w K mg base (CXD P w) 4 t.a_check_tilts t.d_check_tilts ["beam", "held", "added"] (sp_check_tilts K t) := ok_check_tilts T
  have G_in_hand : FnOk P w K mg base CX0 4 t.a_in_hand t.d_in_hand ["beam", "standing", "weight"] (sp_in_hand K t) := ok_in_hand T
  refine T.F_check_move.d.okD (CX := CX0) sc_check_move (fun vs H Q E h => ?_) (fun cdv A outer s H vs Q E hr h => ?_)
  · obtain ⟨b, a, n, r, lim, k, s, p, hs, xs, rfl, B, V0, hT, q, qe⟩ := h
    rfl
  · obtain ⟨b, a, n, r, lim, k, s, p, hs, xs, rfl, B, V0, hT, q, qe⟩ := h
    have hr_check_weight : Room 4 _ := hr.mono (by decide)
    have hr_check_put : Room 4 _ := hr.mono (by decide)
    have hr_check_tilts : Room 4 _ := hr.mono (by decide)
    have hr_in_hand : Room 4 _ := hr.mono (by decide)
    refine ⟨_, (pss_cons (ps_expr (pe_call G_check_weight hr_check_weight rfl T.m_check_weight T.k_check_weight T.b_check_weight .nil passes_fnD (pa_cons (pv 1) (pa_cons (pv 2) (pa_cons (pv 3) pa_nil)))))
      (pss_cons (ps_expr (pe_call G_check_put hr_check_put rfl T.m_check_put T.k_check_put T.b_check_put .nil passes_fnD (pa_cons (pv 0) (pa_cons (pv 1) (pa_cons (pv 3) (pa_cons (pv 4) pa_nil))))))
      (pss_one (ps_expr (pe_call G_check_tilts hr_check_tilts rfl T.m_check_tilts T.k_check_tilts T.b_check_tilts .nil passes_fnD (pa_cons (pv 0) (pa_cons (pe_call G_in_hand hr_in_hand rfl T.m_in_hand T.k_in_hand T.b_in_hand .nil pass0 (pa_cons (pv 0) (pa_cons (pv 1) (pa_cons (pv 2) pa_nil)))) (pa_cons (pe_op op_mul (pe_ix ix_tup (pe_fld (pv 0) rfl) (pe_op op_sub (pv 2) pe_int) (fun _ _ => rfl)) (pv 4)) pa_nil)))))))), ?_⟩
    unfold refN at q qe
    refine ⟨_, rfl, _, rfl, _, rfl, a, k, s, xs, rfl, hT, fun g1 => ?_, fun g1 od H' tl => qe 0 od H' (by rw [if_pos g1]) tl⟩
    rw [if_neg (fun z => z g1)] at q
    simp only [if_neg (fun z : ¬ goodW xs k s => z g1)] at qe
    refine ⟨_, rfl, _, rfl, _, rfl, _, rfl, b, a, n, r, lim, s, p, hs, xs, rfl, B, hT, fun g2 g3 g4 => ?_, fun g2 od H' tl => qe 1 od H' (by rw [if_pos g2]) tl, fun g2 g3 od H' tl => qe 2 od H' (by rw [if_neg g2, if_pos g3]) tl, fun g2 g3 g4 od H' tl => qe 3 od H' (by rw [if_neg g2, if_neg g3, if_pos g4]) tl⟩
    rw [if_neg g2, if_neg g3, if_neg g4] at q
    simp only [if_neg g2, if_neg g3, if_neg g4] at qe
    obtain ⟨⟨k1, k2⟩, g1⟩ := g1
    have hlen := V0.len
    have ek : k = (((k - 1).toNat : Nat) : Int) + 1 := by omega
    have hi : (k - 1).toNat < xs.length := by omega
    refine ⟨_, rfl, _, rfl, _, rfl, _, rfl, b, a, n, r, lim, k, (k - 1).toNat, hs, xs, rfl, B, V0, .inr hT, ⟨ek, hi⟩, fun H1 s1 => ?_⟩
    obtain ⟨_, dx, h, hb, hh⟩ := B.same s1
    have hm := B.1.h (hs.getD (k - 1).toNat 0) (getD_mem (by omega))
    refine ⟨_, rfl, b, _, dx, _, _, rfl, hb, T.cl_Beam, T.na_Beam_hefts, b_hefts _ _ _ _, _, rfl, _, _, rfl, rfl, h, _, _, _, rfl, rfl, SqT.of hh, atI_intD (by omega) (by omega), _, rfl, _, _, rfl, rfl, .inl ⟨by omega, by omega⟩, b, n, r, lim, _, _, hs, rfl, B.same s1, fun g5 g6 => ?_, fun g5 od H' tl => qe 4 od H' (by rw [if_pos g5]) (tl.from s1), fun g5 g6 od H' tl => qe 5 od H' (by rw [if_neg g5, if_pos g6]) (tl.from s1)⟩
    rw [if_neg g5, if_neg g6] at q
    exact q rfl H1 s1
def sp_moved (K : PySem.W.Frag) (t : Adr) : Sp := fun vs H Q E => ∃ (b a m : Addr) (n r lim k s p : Int) (hs xs : List Int), vs = [.ref b, .ref a, .ref m] ∧ BeamAt t H b n r hs lim ∧ Valid n r hs.length xs ∧ (SqL K H a (xs.map V.int) ∨ H a = some (.tup (xs.map V.int))) ∧ Mv K H m k s p ∧
  (refN n r lim hs xs k s p = 0 → ∀ l H', Same H H' → H' l = some (.tup ((xs.set (k - 1).toNat p).map V.int)) → Q (.ref l) H') ∧ (∀ j od H', refN n r lim hs xs k s p = j + 1 → Told H H' od (wordN (j + 1)) → E (.ref (clsN t (j + 1))) od H')
theorem ok_moved (T : Txt K mg t) : FnOk P w K mg base (CXD P w) 6 t.a_moved t.d_moved ["beam", "standing", "move"] (sp_moved K t) := by
  have G_as_standing : FnOk P w K mg base CX0 2 t.a_as_standing t.d_as_standing ["beam", "standing"] (sp_as_standing K t) := ok_as_standing T
  have G_check_move : FnOk P w K mg base (CXD P w) 5 t.a_check_move t.d_check_move ["beam", "places", "weight", "taken", "put"] (sp_check_move K t) := ok_check_move T
  have G_behind : FnOk P w K mg base CX0 1 t.a_behind t.d_behind ["places", "move"] (sp_behind K t) := ok_behind T
  refine T.F_moved.d.okD (CX := CX0) sc_moved (fun vs H Q E h => ?_) (fun cdv A outer s H vs Q E hr h => ?_)
  · obtain ⟨b, a, m, n, r, lim, k, s, p, hs, xs, rfl, B, V0, hS, hM, q, qe⟩ := h
    rfl
  · obtain ⟨b, a, m, n, r, lim, k, s, p, hs, xs, rfl, B, V0, hS, hM, q, qe⟩ := h
    have hr_as_standing : Room 2 _ := hr.mono (by decide)
    have hr_check_move : Room 5 _ := hr.mono (by decide)
    have hr_behind : Room 1 _ := hr.mono (by decide)
    refine ⟨_, (pss_cons (ps_set (i := 3) sc_moved.nd rfl (Or.inl rfl) (pe_call G_as_standing hr_as_standing rfl T.m_as_standing T.k_as_standing T.b_as_standing .nil pass0 (pa_cons (pv 0) (pa_cons (pv 1) pa_nil))))
      (pss_cons (ps_expr (pe_call G_check_move hr_check_move rfl T.m_check_move T.k_check_move T.b_check_move .nil passes_fnD (pa_cons (pv 0) (pa_cons (pv 3) (pa_cons (pe_ix ix_seq (pv 2) pe_int (fun _ _ => rfl)) (pa_cons (pe_ix ix_seq (pv 2) pe_int (fun _ _ => rfl)) (pa_cons (pe_ix ix_seq (pv 2) pe_int (fun _ _ => rfl)) pa_nil)))))))
      (pss_one (ps_ret (pe_call G_behind hr_behind rfl T.m_behind T.k_behind T.b_behind .nil pass0 (pa_cons (pv 3) (pa_cons (pv 2) pa_nil))))))), ?_⟩
    refine ⟨_, rfl, _, rfl, b, a, n, r, lim, hs, xs, rfl, B, V0, hS, fun l H1 s1 hl => ?_⟩
    have M1 := (hM.same s1).ix
    refine ⟨_, rfl, _, rfl, _, rfl, M1.1 _ ⟨_, rfl, M1.2.1 _ ⟨_, rfl, M1.2.2 _ ?_⟩⟩⟩
    refine ⟨b, l, n, r, lim, k, s, p, hs, xs, rfl, B.same s1, V0, hl, fun hz H2 s2 => ?_, fun j od H' hj tl => qe j od H' hj (tl.from s1)⟩
    have hg : goodW xs k s := Decidable.byContradiction fun z => by unfold refN at hz; rw [if_pos z] at hz; cases hz
    obtain ⟨⟨k1, k2⟩, _⟩ := hg
    have := B.1.w
    have := V0.len
    exact ⟨_, rfl, _, rfl, l, m, k, s, p, (k - 1).toNat, xs, rfl, s2 _ _ hl, hM.same (s1.trans s2), ⟨by omega, by omega, by omega⟩, fun l3 H3 s3 h3 => q hz l3 H3 (s1.trans (s2.trans s3)) h3⟩
def sp_refusal (K : PySem.W.Frag) (t : Adr) : Sp := fun vs H Q _ => ∃ (b a m : Addr) (n r lim k s p : Int) (hs xs : List Int), vs = [.ref b, .ref a, .ref m] ∧ BeamAt t H b n r hs lim ∧ Valid n r hs.length xs ∧ (SqL K H a (xs.map V.int) ∨ H a = some (.tup (xs.map V.int))) ∧ Mv K H m k s p ∧
  (refN n r lim hs xs k s p = 0 → ∀ H', Same H H' → Q .non H') ∧ (∀ j H', refN n r lim hs xs k s p = j + 1 → Same H H' → Q (.str (wordN (j + 1))) H')
theorem ok_refusal (T : Txt K mg t) : FnOk P w K mg base CX0 6 t.a_refusal t.d_refusal ["beam", "standing", "move"] (sp_refusal K t) := by
  have G_as_standing : FnOk P w K mg base CX0 2 t.a_as_standing t.d_as_standing ["beam", "standing"] (sp_as_standing K t) := ok_as_standing T
  have G_check_move : FnOk P w K mg base (CXD P w) 5 t.a_check_move t.d_check_move ["beam", "places", "weight", "taken", "put"] (sp_check_move K t) := ok_check_move T
  refine T.F_refusal.ok sc_refusal (fun vs H Q E h => ?_) (fun cdv A outer s H vs Q E hr h => ?_)
  · obtain ⟨b, a, m, n, r, lim, k, s, p, hs, xs, rfl, B, V0, hS, hM, q, qe⟩ := h
    rfl
  · obtain ⟨b, a, m, n, r, lim, k, s, p, hs, xs, rfl, B, V0, hS, hM, q, qe⟩ := h
    have hr_as_standing : Room 2 _ := hr.mono (by decide)
    have hr_check_move : Room 5 _ := hr.mono (by decide)
    refine ⟨_, (pss_cons (ps_set (i := 3) sc_refusal.nd rfl (Or.inl rfl) (pe_call G_as_standing hr_as_standing rfl T.m_as_standing T.k_as_standing T.b_as_standing .nil pass0 (pa_cons (pv 0) (pa_cons (pv 1) pa_nil))))
      (pss_cons (ps_tryD (Ex := fun σ9 cls od H9 => (∃ l, σ9 = [some (.ref b), some (.ref a), some (.ref m), some (.ref l), none]) ∧ ∃ j, refN n r lim hs xs k s p = j + 1 ∧ cls = .ref (clsN t (j + 1)) ∧ Told H H9 od (wordN (j + 1))) (i := 4) ⟨rfl, rfl⟩ rfl T.m_BeamError sc_refusal.nd rfl rfl (fun _ => (pss_one (ps_expr (pe_callS G_check_move hr_check_move rfl T.m_check_move T.k_check_move T.b_check_move .nil passes_tryD (pa_cons (pv 0) (pa_cons (pv 3) (pa_cons (pe_ix (ix_seqK K rfl) (pv 2) pe_int (fun _ _ => rfl)) (pa_cons (pe_ix (ix_seqK K rfl) (pv 2) pe_int (fun _ _ => rfl)) (pa_cons (pe_ix (ix_seqK K rfl) (pv 2) pe_int (fun _ _ => rfl)) pa_nil))))))))) (fun _ => (pss_one (ps_ret (pe_xgetK K rfl (pv 4) rfl)))))
      (pss_one (ps_ret pe_non)))), ?_⟩
    refine ⟨_, rfl, _, rfl, b, a, n, r, lim, hs, xs, rfl, B, V0, hS, fun l H1 s1 hl => ?_⟩
    have M1 := (hM.same s1).ix
    refine ⟨?_, fun σ' cls od H' a' hE fa => ?_⟩
    · refine ⟨_, rfl, _, rfl, _, rfl, M1.1 _ ⟨_, rfl, M1.2.1 _ ⟨_, rfl, M1.2.2 _ ?_⟩⟩⟩
      refine ⟨b, l, n, r, lim, k, s, p, hs, xs, rfl, B.same s1, V0, hl, fun hz H2 s2 => q hz H2 (s1.trans s2), fun j od H' hj tl => ⟨⟨l, rfl⟩, j, hj, rfl, tl.from s1⟩⟩
    · obtain ⟨⟨l9, rfl⟩, j, hj, rfl, tl⟩ := hE
      have hj6 : j < 6 := by have := refN_le n r lim hs xs k s p; omega
      obtain ⟨sH, dx, fs, rfl, hd, hw⟩ := tl
      have ne : dx ≠ a' := fun z => by rw [z, fa] at hd; cases hd
      have X1 := xfacts T hj6
      refine ⟨X1.2.2, ?_⟩
      refine ⟨_, rfl, a', clsN t (j + 1), dx, fs, _, rfl, upd_same, by rw [upd_ne ne]; exact hd, X1.1, X1.2.1, hw, qe j _ hj (sH.updT fa)⟩

end
end Bt

namespace Bt
open PySem L2
section
variable {P : Program} {w : World} {K : PySem.W.Frag} {mg : Str → Option Value} {base : Heap} {t : Adr}

theorem ok_w_at (T : Txt K mg t) : FnOk P w K mg base CX0 1 t.a_w_at t.d_w_at ["_law_script", "_law_k"] (sp_w_at K t) := by
  refine T.F_w_at.ok sc_w_at (fun vs H Q E h => ?_) (fun cdv A outer s H vs Q E hr h => ?_)
  · obtain ⟨a, ns, k, rfl, hS, q⟩ := h
    rfl
  · obtain ⟨a, ns, k, rfl, hS, q⟩ := h
    refine ⟨_, (pss_cons (ps_if (pt_cmpR op_lt (pv 1) (pe_callB call_len_seq rfl T.n_len PySem.boot_len (pa_cons (pv 0) pa_nil)) (nomark _)) (pss_one (ps_ret (pe_ix ix_list (pv 0) (pv 1) (fun _ _ => rfl)))) pss_nil)
      (pss_one (ps_ret pe_int))), ?_⟩
    refine ⟨_, rfl, _, rfl, a, _, rfl, .inl hS, _, _, rfl, rfl, _, rfl, ?_⟩
    rw [List.length_map]
    refine ite2 (fun h1 => ?_) (fun h1 => ?_)
    · have hk : k < ns.length := by have := of_decide_eq_true h1; omega
      have e : ns.getD k 0 = ns[k] := by simp [hk]
      rw [e] at q
      exact ⟨_, rfl, _, rfl, a, _, _, _, rfl, rfl, hS, atI_int (by simp [hk]), q⟩
    · have hk : ¬ k < ns.length := fun z => h1 (decide_eq_true (by omega))
      have e : ns.getD k 0 = 0 := by simp [hk]
      rw [e] at q
      exact q
theorem ok_w_whole (T : Txt K mg t) : FnOk P w K mg base CX0 1 t.a_w_whole t.d_w_whole ["_law_found"] (sp_w_whole K t) := by
  refine T.F_w_whole.ok sc_w_whole (fun vs H Q E h => ?_) (fun cdv A outer s H vs Q E hr h => ?_)
  · obtain ⟨i, rfl, q⟩ := h
    rfl
  · obtain ⟨i, rfl, q⟩ := h
    refine ⟨_, (pss_one (ps_ret (pe_and (pe_callB call_isi rfl T.n_isinstance PyProof.Rows.boot_isinstance (pa_cons (pv 0) (pa_cons (pe_bltn (v := .ty "int") rfl T.n_int PyProof.Rows.boot_int rfl) pa_nil))) (pe_one (pe_not (pe_callB call_isi rfl T.n_isinstance PyProof.Rows.boot_isinstance (pa_cons (pv 0) (pa_cons (pe_bltn (v := .ty "bool") rfl T.n_bool PyProof.Rows.boot_bool rfl) pa_nil)))))))), ?_⟩
    refine ⟨_, rfl, _, _, _, _, _, rfl, .ty _, .int _, rfl, _, rfl, iteT ?_⟩
    exact ⟨_, rfl, _, _, _, _, _, rfl, .ty _, .int _, rfl, _, rfl, q⟩

theorem ok_w_figs (T : Txt K mg t) : FnOk P w K mg base CX0 1 t.a_w_figs t.d_w_figs ["_law_cell", "_law_count", "_law_base", "_law_mix"] (sp_w_figs K t) := by
  refine T.F_w_figs.ok sc_w_figs (fun vs H Q E h => ?_) (fun cdv A outer s H vs Q E hr h => ?_)
  · obtain ⟨cell, base0, n, mix, rfl, ⟨hn, hb, hb2⟩, q⟩ := h
    rfl
  · obtain ⟨cell, base0, n, mix, rfl, ⟨hn, hb, hb2⟩, q⟩ := h
    refine ⟨_, (pss_cons (ps_set (i := 4) sc_w_figs.nd rfl (Or.inl rfl) (pe_lst pa_nil))
      (pss_cons (ps_set (i := 5) sc_w_figs.nd rfl (Or.inl rfl) (pv 0))
      (pss_cons (ps_if (pt_val (pv 3)) (pss_one (ps_set (i := 5) sc_w_figs.nd rfl (Or.inl rfl) (pe_op op_mod (pe_op op_mul (pv 0) pe_int) pe_int))) pss_nil)
      (pss_cons (ps_for PassesOwn.never rfl (pi_range1 rfl T.n_range (pa_cons (pv 1) pa_nil)) (pg_name (i := 6) sc_w_figs.nd rfl (Or.inl rfl)) (pss_one (ps_if (pt_val (pv 3)) (pss_cons (ps_set (i := 5) sc_w_figs.nd rfl (Or.inl rfl) (pe_op op_mod (pe_op op_mul (pe_op op_add (pe_op op_add (pv 5) (pv 6)) pe_int) pe_int) pe_int))
      (pss_one (ps_expr (pe_bm PySem.F.plainAttrs_list PySem.F.slot_list_append PySem.F.type_list_append mt_append (pv 4) (pa_cons (pe_op op_mod (pe_op op_fdiv (pv 5) pe_int) (pv 2)) pa_nil))))) (pss_cons (ps_expr (pe_bm PySem.F.plainAttrs_list PySem.F.slot_list_append PySem.F.type_list_append mt_append (pv 4) (pa_cons (pe_op op_mod (pv 5) (pv 2)) pa_nil)))
      (pss_one (ps_set (i := 5) sc_w_figs.nd rfl (Or.inl rfl) (pe_op op_fdivL (pv 5) (pv 2))))))))
      (pss_one (ps_ret (pv 4))))))), ?_⟩
    refine ⟨Nat.zero_le _, fun l hl => ?_⟩
    refine ⟨_, rfl, _, rfl, _, rfl, ?_⟩
    have e0 : (figSt cell base0 mix 0).2 = [] := rfl
    cases mix
    · refine iteF ?_
      refine ⟨_, rfl, _, rfl, by omega, by omega, for_range (n := (n : Int).toNat) (fun i σ H' => ∃ v, σ = [some (.int cell), some (.int n), some (.int base0), some (.bl false), some (.ref l), some (.int (figSt cell base0 false i).1), v] ∧ H' = upd H l (.lst ((figSt cell base0 false i).2.map V.int)) ∧ (figSt cell base0 false i).2.length = i) ⟨none, rfl, rfl, rfl⟩ ?_ ?_⟩
      · rintro i σ H' hi ⟨v, rfl, rfl, hlen⟩
        refine ⟨_, rfl, _, rfl, iteF ?_⟩
        refine ⟨_, rfl, .inl ⟨rfl, _, SqL.of upd_same⟩, _, rfl, _, rfl, _, _, rfl, rfl, hb, l, _, _, rfl, rfl, upd_same, small1000 (by rw [List.length_map]; omega), ?_⟩
        refine ⟨_, rfl, _, rfl, _, _, rfl, rfl, ⟨hb, by omega⟩, _, rfl, ?_, ?_⟩
        · rw [upd_upd]
          show upd H l (.lst (_ ++ [V.int _])) = upd H l (.lst ((_ ++ [_]).map V.int))
          rw [List.map_append]
          rfl
        · show (_ ++ [_]).length = i + 1
          rw [List.length_append, hlen]
          rfl
      · rintro σ H' ⟨v, rfl, rfl, hlen⟩
        exact ⟨_, rfl, q l hl⟩
    · refine iteT ?_
      refine ⟨_, rfl, _, _, rfl, rfl, .inr ⟨by decide, by decide⟩, _, _, rfl, rfl, (by show (0 : Int) < 2147483647; decide), ?_⟩
      refine ⟨_, rfl, _, rfl, by omega, by omega, for_range (n := (n : Int).toNat) (fun i σ H' => ∃ v, σ = [some (.int cell), some (.int n), some (.int base0), some (.bl true), some (.ref l), some (.int (figSt cell base0 true i).1), v] ∧ H' = upd H l (.lst ((figSt cell base0 true i).2.map V.int)) ∧ (figSt cell base0 true i).2.length = i) ⟨none, rfl, rfl, rfl⟩ ?_ ?_⟩
      · rintro i σ H' hi ⟨v, rfl, rfl, hlen⟩
        refine ⟨_, rfl, _, rfl, iteT ?_⟩
        refine ⟨_, rfl, _, rfl, _, _, rfl, rfl, _, _, rfl, rfl, _, _, rfl, rfl, .inr ⟨by decide, by decide⟩, _, _, rfl, rfl, (by show (0 : Int) < 2147483647; decide), ?_⟩
        refine ⟨_, rfl, .inl ⟨rfl, _, SqL.of upd_same⟩, _, rfl, _, _, rfl, rfl, ⟨by decide, by decide⟩, _, rfl, _, _, rfl, rfl, hb, l, _, _, rfl, rfl, upd_same, small1000 (by rw [List.length_map]; omega), ?_⟩
        refine ⟨_, rfl, ?_, ?_⟩
        · rw [upd_upd]
          show upd H l (.lst (_ ++ [V.int _])) = upd H l (.lst ((_ ++ [_]).map V.int))
          rw [List.map_append]
          rfl
        · show (_ ++ [_]).length = i + 1
          rw [List.length_append, hlen]
          rfl
      · rintro σ H' ⟨v, rfl, rfl, hlen⟩
        exact ⟨_, rfl, q l hl⟩
theorem ok_w_same (T : Txt K mg t) : FnOk P w K mg base CX0 2 t.a_w_same t.d_w_same ["_law_found", "_law_due"] (sp_w_same K t) := by
  have G_w_whole : FnOk P w K mg base CX0 1 t.a_w_whole t.d_w_whole ["_law_found"] (sp_w_whole K t) := ok_w_whole T
  refine T.F_w_same.ok sc_w_same (fun vs H Q E h => ?_) (fun cdv A outer s H vs Q E hr h => ?_)
  · obtain ⟨a, b, xs, ys, rfl, hA, hB, hl, q⟩ := h
    rfl
  · obtain ⟨a, b, xs, ys, rfl, hA, hB, hl, q⟩ := h
    have hr_w_whole : Room 1 _ := hr.mono (by decide)
    refine ⟨_, (pss_cons (ps_if (pt_cmpR op_ne (pe_callB call_len_seq rfl T.n_len PySem.boot_len (pa_cons (pv 0) pa_nil)) (pe_callB call_len_seq rfl T.n_len PySem.boot_len (pa_cons (pv 1) pa_nil)) (nomark _)) (pss_one (ps_ret pe_bl)) pss_nil)
      (pss_cons (ps_for PassesOwn.never rfl (pi_range1 rfl T.n_range (pa_cons (pe_callB call_len_seq rfl T.n_len PySem.boot_len (pa_cons (pv 1) pa_nil)) pa_nil)) (pg_name (i := 2) sc_w_same.nd rfl (Or.inl rfl)) (pss_one (ps_if (PW.pt (pw_or (pt_not (pt_val (pe_call G_w_whole hr_w_whole rfl T.m_w_whole T.k_w_whole T.b_w_whole .nil pass0 (pa_cons (pe_ix ix_seq (pv 0) (pv 2) (fun _ _ => rfl)) pa_nil)))) (pw_or1 (pt_cmpR op_ne (pe_ix ix_seq (pv 0) (pv 2) (fun _ _ => rfl)) (pe_ix ix_seq (pv 1) (pv 2) (fun _ _ => rfl)) (nomark _))))) (pss_one (ps_ret pe_bl)) pss_nil)))
      (pss_one (ps_ret pe_bl)))), ?_⟩
    refine ⟨_, rfl, a, _, rfl, hA, _, rfl, b, _, rfl, hB, rfl, _, rfl, ?_⟩
    rw [List.length_map, List.length_map]
    refine ite2 (fun h1 => ?_) (fun h1 => ?_)
    · have ne : xs ≠ ys := by
        intro e
        subst e
        simp at h1
      rw [decide_eq_false ne] at q
      exact q
    · have hlen : xs.length = ys.length := by
        simp at h1
        omega
      refine ⟨_, rfl, b, _, rfl, hB, _, rfl, by omega, by rw [List.length_map]; omega, for_range (n := ((ys.map V.int).length : Int).toNat) (fun i σ H' => ∃ v, σ = [some (.ref a), some (.ref b), v] ∧ H' = H ∧ xs.take i = ys.take i) ⟨none, rfl, rfl, rfl⟩ ?_ ?_⟩
      · rintro i σ H' hi ⟨v, rfl, rfl, ht⟩
        have hiy : i < ys.length := by simpa using hi
        have hix : i < xs.length := by omega
        have ex : xs[i]? = some xs[i] := by simp [hix]
        have ey : ys[i]? = some ys[i] := by simp [hiy]
        have e0 : (0 : Int) + (i : Int) = (i : Int) := by omega
        have ax : atI (xs.map V.int) (0 + (i : Int)) = some (.int xs[i]) := by rw [e0]; exact atI_int ex
        have ay : atI (ys.map V.int) (0 + (i : Int)) = some (.int ys[i]) := by rw [e0]; exact atI_int ey
        have ixA : ∀ (Q' : VK), Q' (.int xs[i]) H' → rIx K (.ref a) (.int (0 + (i : Int))) H' Q' := fun Q' h => by
          rcases hA with hA | hA
          · exact .inl ⟨a, _, _, _, rfl, rfl, hA, ax, h⟩
          · exact .inr (.inl ⟨a, _, _, _, rfl, rfl, hA, ax, h⟩)
        have ixB : ∀ (Q' : VK), Q' (.int ys[i]) H' → rIx K (.ref b) (.int (0 + (i : Int))) H' Q' := fun Q' h => by
          rcases hB with hB | hB
          · exact .inl ⟨b, _, _, _, rfl, rfl, hB, ay, h⟩
          · exact .inr (.inl ⟨b, _, _, _, rfl, rfl, hB, ay, h⟩)
        refine ⟨_, rfl, _, rfl, ixA _ ⟨_, rfl, _, rfl, iteF ?_⟩⟩
        refine ⟨_, rfl, _, rfl, ixA _ ⟨_, rfl, _, rfl, ixB _ ⟨rfl, _, rfl, ?_⟩⟩⟩
        refine ite2 (fun h2 => ?_) (fun h2 => ?_)
        · have ne : xs ≠ ys := by
            intro e
            subst e
            simp at h2
          rw [decide_eq_false ne] at q
          exact q
        · refine ⟨_, rfl, rfl, ?_⟩
          have e2 : xs[i] = ys[i] := by
            simp at h2
            exact h2
          rw [List.take_succ, List.take_succ, ht, ex, ey, e2]
      · rintro σ H' ⟨v, rfl, rfl, ht⟩
        have e : xs = ys := by
          have e1 : ((ys.map V.int).length : Int).toNat = ys.length := by simp
          rw [e1] at ht
          rw [← List.take_length (l := ys), ← ht, ← hlen, List.take_length]
        rw [decide_eq_true e] at q
        exact q

theorem ok_w_shape (T : Txt K mg t) : FnOk P w K mg base CX0 2 t.a_w_shape t.d_w_shape ["_law_script"] (sp_w_shape K t) := by
  have G_w_at : FnOk P w K mg base CX0 1 t.a_w_at t.d_w_at ["_law_script", "_law_k"] (sp_w_at K t) := ok_w_at T
  have G_w_figs : FnOk P w K mg base CX0 1 t.a_w_figs t.d_w_figs ["_law_cell", "_law_count", "_law_base", "_law_mix"] (sp_w_figs K t) := ok_w_figs T
  refine T.F_w_shape.ok sc_w_shape (fun vs H Q E h => ?_) (fun cdv A outer s H vs Q E hr h => ?_)
  · obtain ⟨a, ns, rfl, hS, q⟩ := h
    rfl
  · obtain ⟨a, ns, rfl, hS, q⟩ := h
    have hr_w_at : Room 1 _ := hr.mono (by decide)
    have hr_w_figs : Room 1 _ := hr.mono (by decide)
    refine ⟨_, (pss_cons (ps_set (i := 1) sc_w_shape.nd rfl (Or.inl rfl) (pe_call G_w_at hr_w_at rfl T.m_w_at T.k_w_at T.b_w_at .nil pass0 (pa_cons (pv 0) (pa_cons pe_int pa_nil))))
      (pss_cons (ps_set (i := 2) sc_w_shape.nd rfl (Or.inl rfl) (pe_ix ix_list (pe_lst (pa_cons pe_int (pa_cons pe_int (pa_cons pe_int (pa_cons pe_int pa_nil))))) (pe_op op_mod (pv 1) pe_int) (fun _ _ => rfl)))
      (pss_cons (ps_set (i := 3) sc_w_shape.nd rfl (Or.inl rfl) (pe_callB (call_min2 rfl) rfl T.n_min PyProof.Rows.boot_min (pa_cons (pe_ix ix_list (pe_lst (pa_cons pe_int (pa_cons pe_int (pa_cons pe_int (pa_cons pe_int pa_nil))))) (pe_op op_sub (pv 2) pe_int) (fun _ _ => rfl)) (pa_cons (pe_ix ix_list (pe_lst (pa_cons pe_int (pa_cons pe_int (pa_cons pe_int (pa_cons pe_int (pa_cons pe_int (pa_cons pe_int pa_nil))))))) (pe_op op_mod (pe_op op_fdiv (pv 1) pe_int) pe_int) (fun _ _ => rfl)) pa_nil))))
      (pss_cons (ps_set (i := 4) sc_w_shape.nd rfl (Or.inl rfl) (pe_op op_add pe_int (pe_op op_mod (pe_op op_fdiv (pv 1) pe_int) pe_int)))
      (pss_cons (ps_set (i := 5) sc_w_shape.nd rfl (Or.inl rfl) (pe_call G_w_at hr_w_at rfl T.m_w_at T.k_w_at T.b_w_at .nil pass0 (pa_cons (pv 0) (pa_cons pe_int pa_nil))))
      (pss_cons (ps_comp (i := 6) rfl cs_w_shape_0 (pi_list (pe_call G_w_figs hr_w_figs rfl T.m_w_figs T.k_w_figs T.b_w_figs .nil pass0 (pa_cons (pe_call G_w_at hr_w_at rfl T.m_w_at T.k_w_at T.b_w_at .nil pass0 (pa_cons (pv 0) (pa_cons pe_int pa_nil))) (pa_cons (pv 3) (pa_cons pe_int (pa_cons (pe_cmpR op_eq (pe_op op_mod (pv 5) pe_int) pe_int (nomark _)) pa_nil)))))) (fun _ _ _ _ _ => (pg_name (i := 0) cs_w_shape_0.nd rfl (Or.inl rfl))) (fun _ _ _ _ _ => pifs_nil) (fun _ _ _ _ _ => (pe_op op_add pe_int (pv 0))) sc_w_shape.nd rfl rfl)
      (pss_cons (ps_if (pt_cmpR op_eq (pe_op op_mod (pe_op op_fdiv (pv 5) pe_int) pe_int) pe_int (nomark _)) (pss_one (ps_set (i := 6) sc_w_shape.nd rfl (Or.inl rfl) (pe_op op_rep (pe_slice sl_list (pv 6) po_none (po_some pe_int)) (pv 3)))) pss_nil)
      (pss_cons (ps_if (pt_cmpR op_eq (pe_op op_mod (pe_op op_fdiv (pv 5) pe_int) pe_int) pe_int (nomark _)) (pss_one (ps_set (i := 6) sc_w_shape.nd rfl (Or.inl rfl) (pe_op op_rep (pe_lst (pa_cons pe_int pa_nil)) (pv 3)))) pss_nil)
      (pss_one (ps_ret (pe_lst (pa_cons (pv 2) (pa_cons (pv 4) (pa_cons (pv 6) pa_nil)))))))))))))), ?_⟩
    have hm1 : 0 ≤ at0 ns 1 % 4 := Int.emod_nonneg _ (by decide)
    have hm2 : at0 ns 1 % 4 < 4 := Int.emod_lt_of_pos _ (by decide)
    have hm3 : 0 ≤ at0 ns 1 / 4 % 6 := Int.emod_nonneg _ (by decide)
    have hm4 : at0 ns 1 / 4 % 6 < 6 := Int.emod_lt_of_pos _ (by decide)
    have hN := shN_cases ns
    obtain ⟨hW0, hW5⟩ := shW_le ns
    have h5 : (if shN ns = 1 then (5 : Int) else if shN ns = 2 then 4 else 3) ≤ 5 := by repeat (first | decide | split)
    -- cell
    refine ⟨_, rfl, a, ns, 1, rfl, hS, ?_⟩
    -- notches
    refine ⟨by decide, fun l1 f1 => ⟨_, rfl, _, _, rfl, rfl, (by show (0 : Int) < 4; decide), l1, _, _, _, rfl, rfl, SqL.of upd_same, atI_intD (xs := [2, 3, 1, 4]) hm1 hm2, ?_⟩⟩
    have s1 : Same H (upd H l1 (.lst [.int 2, .int 3, .int 1, .int 4])) := Same.upd f1
    generalize upd H l1 (.lst [.int 2, .int 3, .int 1, .int 4]) = H1 at s1 ⊢
    -- count
    refine ⟨by decide, fun l2 f2 => ⟨_, rfl, _, _, rfl, rfl, l2, _, _, _, rfl, rfl, SqL.of upd_same, atI_intD (xs := [5, 4, 3, 3]) (by show 0 ≤ shN ns - 1; omega) (by show shN ns - 1 < 4; omega), ?_⟩⟩
    have s2 : Same H (upd H1 l2 (.lst [.int 5, .int 4, .int 3, .int 3])) := s1.updT f2
    generalize upd H1 l2 (.lst [.int 5, .int 4, .int 3, .int 3]) = H2 at s2 ⊢
    refine ⟨by decide, fun l3 f3 => ⟨_, rfl, _, _, rfl, rfl, ⟨by decide, by decide⟩, _, _, rfl, rfl, (by show (0 : Int) < 6; decide), l3, _, _, _, rfl, rfl, SqL.of upd_same, atI_intD (xs := [3, 2, 4, 1, 5, 0]) hm3 hm4, _, _, rfl, ?_⟩⟩
    have s3 : Same H (upd H2 l3 (.lst [.int 3, .int 2, .int 4, .int 1, .int 5, .int 0])) := s2.updT f3
    generalize upd H2 l3 (.lst [.int 3, .int 2, .int 4, .int 1, .int 5, .int 0]) = H3 at s3 ⊢
    -- room, mode
    refine ⟨_, rfl, _, _, rfl, rfl, ⟨by decide, by decide⟩, _, _, rfl, rfl, (by show (0 : Int) < 3; decide), _, _, rfl, rfl, ?_⟩
    refine ⟨_, rfl, a, ns, 0, rfl, s3.seq hS, ?_⟩
    -- hefts
    have eW : (((shW ns).toNat : Nat) : Int) = shW ns := by omega
    refine ⟨_, rfl, a, ns, 2, rfl, s3.seq hS, _, rfl, _, rfl, _, _, rfl, rfl, (by show (0 : Int) < 2; decide), rfl, at0 ns 2, 20, (shW ns).toNat, mixOf ns, ?_, ⟨by omega, by decide, by decide⟩, fun l4 f4 => ⟨l4, rfl, ⟨_, SqL.of upd_same⟩, fun D hD => ?_⟩⟩
    · rw [eW]; rfl
    have s4 : Same H (upd H3 l4 (.lst ((figs (at0 ns 2) (shW ns).toNat 20 (mixOf ns)).map V.int))) := s3.updT f4
    refine comp_list (f := fun v => match v with | .int z => V.int (1 + z) | v => v) (SqL.of upd_same) hD (Nat.le_of_lt (small1000 (by rw [List.length_map, figs_len]; omega))) (fun x acc R hx h => ?_) ?_
    · obtain ⟨z, hz, rfl⟩ := List.mem_map.mp hx
      exact ⟨_, rfl, _, _, rfl, rfl, h⟩
    have em : ((figs (at0 ns 2) (shW ns).toNat 20 (mixOf ns)).map V.int).map (fun v => match v with | .int z => V.int (1 + z) | v => v) = (shH0 ns).map V.int := by
      unfold shH0
      rw [List.map_map, List.map_map]; rfl
    rw [em]
    have s5 := s4.updT (o := .lst ((shH0 ns).map V.int)) hD
    have fD : H D = none := s4.free hD
    have hHD : (upd (upd H3 l4 (.lst ((figs (at0 ns 2) (shW ns).toNat 20 (mixOf ns)).map V.int))) D (.lst ((shH0 ns).map V.int))) D = some (.lst ((shH0 ns).map V.int)) := upd_same
    clear em
    revert s5 hHD
    generalize upd (upd H3 l4 (.lst ((figs (at0 ns 2) (shW ns).toNat 20 (mixOf ns)).map V.int))) D (.lst ((shH0 ns).map V.int)) = H5
    intro s5 hHD
    have hl0 := shH0_len ns
    -- the two ifs
    refine ⟨_, rfl, _, _, rfl, rfl, ⟨by decide, by decide⟩, _, _, rfl, rfl, (by show (0 : Int) < 5; decide), rfl, _, rfl, ?_⟩
    show (if decide (V.int (at0 ns 0 / 2 % 5) = V.int 1) = true then _ else _)
    rw [dec_vint]
    by_cases m1 : at0 ns 0 / 2 % 5 = 1
    · rw [decide_eq_true m1]
      refine iteT ?_
      refine ⟨_, rfl, 1, rfl, D, _, rfl, SqL.of hHD, fun l6 f6 => ⟨_, rfl, l6, _, _, rfl, rfl, upd_same, (by show -(2 ^ 63) ≤ shW ns; omega), (by show shW ns < 2 ^ 63; omega), ?_, fun l7 f7 => ?_⟩⟩
      · refine Nat.le_of_lt (small1000 ?_)
        have h1 : (cutV ((shH0 ns).map V.int) none (some 1)).length ≤ (shW ns).toNat := by rw [← hl0, ← List.length_map (f := V.int)]; exact cutV_length _ _ _
        have h2 : (shW ns).toNat ≤ 5 := by omega
        exact Nat.le_trans (Nat.mul_le_mul (Nat.le_trans h1 h2) h2) (by decide)
      have s6 := (s5.updT (o := .lst (cutV ((shH0 ns).map V.int) none (some 1))) f6).updT (o := .lst (List.replicate (shW ns).toNat (cutV ((shH0 ns).map V.int) none (some 1))).flatten) f7
      have f7' : H l7 = none := (s5.updT (o := .lst (cutV ((shH0 ns).map V.int) none (some 1))) f6).free f7
      refine ⟨_, rfl, _, _, rfl, rfl, ⟨by decide, by decide⟩, _, _, rfl, rfl, (by show (0 : Int) < 5; decide), rfl, _, rfl, ?_⟩
      show (if decide (V.int (at0 ns 0 / 2 % 5) = V.int 2) = true then _ else _)
      rw [dec_vint, decide_eq_false (by omega)]
      refine iteF ?_
      refine ⟨_, rfl, _, rfl, _, rfl, (by show 3 ≤ sizeLine; decide), fun l8 f8 => ?_⟩
      refine q l8 l7 _ (s6.updT f8) (s6.free f8) f7' ?_ upd_same
      rw [upd_ne (fun e => by rw [← e] at f8; rw [upd_same] at f8; cases f8), upd_same]
      have ec : cutV ((shH0 ns).map V.int) none (some 1) = ((shH0 ns).take 1).map V.int := by
        unfold cutV
        rw [HT.sIx_none, show (some (1 : Int)) = some ((1 : Nat) : Int) from rfl, HT.sIx_nat, List.drop_zero, Nat.sub_zero, List.map_take, List.length_map]
        by_cases h : 1 ≤ (shH0 ns).length
        · rw [Nat.min_eq_left h]
        · have : shH0 ns = [] := List.eq_nil_of_length_eq_zero (by omega)
          rw [this]; rfl
      have ef : (List.replicate (shW ns).toNat (((shH0 ns).take 1).map V.int)).flatten = (shH ns).map V.int := by
        unfold shH
        rw [if_pos m1, List.map_flatten, List.map_replicate]
      show some (HO.lst (List.replicate (shW ns).toNat (cutV ((shH0 ns).map V.int) none (some 1))).flatten) = _
      rw [ec, ef]
    · rw [decide_eq_false m1]
      refine iteF ?_
      refine ⟨_, rfl, _, _, rfl, rfl, ⟨by decide, by decide⟩, _, _, rfl, rfl, (by show (0 : Int) < 5; decide), rfl, _, rfl, ?_⟩
      show (if decide (V.int (at0 ns 0 / 2 % 5) = V.int 2) = true then _ else _)
      rw [dec_vint]
      by_cases m2 : at0 ns 0 / 2 % 5 = 2
      · rw [decide_eq_true m2]
        refine iteT ?_
        refine ⟨by decide, fun l6 f6 => ⟨_, rfl, l6, _, _, rfl, rfl, upd_same, (by show -(2 ^ 63) ≤ shW ns; omega), (by show shW ns < 2 ^ 63; omega), ?_, fun l7 f7 => ?_⟩⟩
        · refine Nat.le_of_lt (small1000 ?_)
          show 1 * (shW ns).toNat ≤ 1000
          omega
        have s6 := (s5.updT (o := .lst [.int 20]) f6).updT (o := .lst (List.replicate (shW ns).toNat [V.int 20]).flatten) f7
        have f7' : H l7 = none := (s5.updT (o := .lst [.int 20]) f6).free f7
        refine ⟨_, rfl, _, rfl, _, rfl, (by show 3 ≤ sizeLine; decide), fun l8 f8 => ?_⟩
        refine q l8 l7 _ (s6.updT f8) (s6.free f8) f7' ?_ upd_same
        rw [upd_ne (fun e => by rw [← e] at f8; rw [upd_same] at f8; cases f8), upd_same]
        have ef : (List.replicate (shW ns).toNat [V.int 20]).flatten = (shH ns).map V.int := by
          unfold shH
          rw [if_neg m1, if_pos m2, List.map_flatten, List.map_replicate]
          rfl
        show some (HO.lst (List.replicate (shW ns).toNat [V.int 20]).flatten) = _
        rw [ef]
      · rw [decide_eq_false m2]
        refine iteF ?_
        refine ⟨_, rfl, _, rfl, _, rfl, (by show 3 ≤ sizeLine; decide), fun l8 f8 => ?_⟩
        refine q l8 D _ (s5.updT f8) (s5.free f8) fD ?_ upd_same
        rw [upd_ne (fun e => by rw [← e] at f8; rw [hHD] at f8; cases f8), hHD]
        have ef : shH ns = shH0 ns := by
          unfold shH
          rw [if_neg m1, if_neg m2]
        rw [ef]

theorem ok_w_put (T : Txt K mg t) : FnOk P w K mg base CX0 2 t.a_w_put t.d_w_put ["_law_script", "_law_k", "_law_more", "_law_shape_here"] (sp_w_put K t) := by
  have G_w_figs : FnOk P w K mg base CX0 1 t.a_w_figs t.d_w_figs ["_law_cell", "_law_count", "_law_base", "_law_mix"] (sp_w_figs K t) := ok_w_figs T
  have G_w_at : FnOk P w K mg base CX0 1 t.a_w_at t.d_w_at ["_law_script", "_law_k"] (sp_w_at K t) := ok_w_at T
  refine T.F_w_put.ok sc_w_put (fun vs H Q E h => ?_) (fun cdv A outer s H vs Q E hr h => ?_)
  · obtain ⟨a, sh, h, ns, k, more, n, r, hs, rfl, hS, hsh, hh, ⟨n1, n2, r1, hw⟩, q⟩ := h
    rfl
  · obtain ⟨a, sh, h, ns, k, more, n, r, hs, rfl, hS, hsh, hh, ⟨n1, n2, r1, hw⟩, q⟩ := h
    have hr_w_figs : Room 1 _ := hr.mono (by decide)
    have hr_w_at : Room 1 _ := hr.mono (by decide)
    refine ⟨_, (pss_cons (ps_asg (pv 3) (pg_lst rfl (pgs_cons (pg_name (i := 4) sc_w_put.nd rfl (Or.inl rfl)) (pgs_cons (pg_name (i := 5) sc_w_put.nd rfl (Or.inl rfl)) (pgs_cons (pg_name (i := 6) sc_w_put.nd rfl (Or.inl rfl)) pgs_nil)))))
      (pss_cons (ps_set (i := 7) sc_w_put.nd rfl (Or.inl rfl) (pe_cmpR op_eq (pe_op op_mod (pe_call G_w_at hr_w_at rfl T.m_w_at T.k_w_at T.b_w_at .nil pass0 (pa_cons (pv 0) (pa_cons pe_int pa_nil))) pe_int) pe_int (nomark _)))
      (pss_cons (ps_set (i := 8) sc_w_put.nd rfl (Or.inl rfl) (pe_op op_add (pe_call G_w_at hr_w_at rfl T.m_w_at T.k_w_at T.b_w_at .nil pass0 (pa_cons (pv 0) (pa_cons (pv 1) pa_nil))) (pv 2)))
      (pss_cons (ps_set (i := 9) sc_w_put.nd rfl (Or.inl rfl) (pe_lst pa_nil))
      (pss_cons (ps_for PassesOwn.never rfl (pi_list (pe_call G_w_figs hr_w_figs rfl T.m_w_figs T.k_w_figs T.b_w_figs .nil pass0 (pa_cons (pv 8) (pa_cons (pe_callB call_len_seq rfl T.n_len PySem.boot_len (pa_cons (pv 6) pa_nil)) (pa_cons (pe_op op_add (pe_op op_mul pe_int (pv 4)) pe_int) (pa_cons (pv 7) pa_nil)))))) (pg_name (i := 10) sc_w_put.nd rfl (Or.inl rfl)) (pss_cons (ps_set (i := 11) sc_w_put.nd rfl (Or.inl rfl) (pe_op op_sub (pv 10) (pv 4)))
      (pss_cons (ps_if (pt_cmpR op_eq (pe_op op_mod (pv 8) pe_int) pe_int (nomark _)) (pss_one (ps_set (i := 11) sc_w_put.nd rfl (Or.inl rfl) (pv 4))) pss_nil)
      (pss_cons (ps_if (PW.pt (pw_and (pt_cmpR op_ne (pv 11) pe_int (nomark _)) (pw_and1 (pt_cmpR op_ge (pe_bm PySem.F.plainAttrs_list PySem.F.slot_list_count PySem.F.type_list_count mt_countL (pv 9) (pa_cons (pv 11) pa_nil)) (pv 5) (nomark _))))) (pss_one (ps_set (i := 11) sc_w_put.nd rfl (Or.inl rfl) pe_int)) pss_nil)
      (pss_one (ps_expr (pe_bm PySem.F.plainAttrs_list PySem.F.slot_list_append PySem.F.type_list_append mt_append (pv 9) (pa_cons (pv 11) pa_nil))))))))
      (pss_one (ps_ret (pv 9)))))))), ?_⟩
    refine ⟨_, rfl, sh, _, rfl, SqL.of hsh, rfl, _, _, rfl, _, _, rfl, _, _, rfl, rfl, ?_⟩
    refine ⟨_, rfl, a, ns, 0, rfl, hS, _, _, rfl, rfl, (by show (0 : Int) < 2; decide), rfl, ?_⟩
    refine ⟨_, rfl, _, rfl, a, ns, k, rfl, hS, _, rfl, _, _, rfl, rfl, ?_⟩
    refine ⟨Nat.zero_le _, fun m fm => ?_⟩
    have s1 : Same H (upd H m (.lst [])) := Same.upd fm
    -- the figures
    refine ⟨_, rfl, _, rfl, h, _, rfl, .inl (s1.seq hh), _, rfl, _, _, rfl, rfl, .inl ⟨by decide, by decide⟩, _, _, rfl, rfl, _, rfl, at0 ns k + more, 2 * n + 1, hs.length, mixOf ns, ?_, ⟨by omega, by omega, by omega⟩, fun f ff => ⟨f, rfl, ⟨_, SqL.of upd_same⟩, ?_⟩⟩
    · rw [List.length_map]; rfl
    have hfm : f ≠ m := fun e => by rw [e, upd_same] at ff; cases ff
    have ff0 : H f = none := s1.free ff
    have hlen : (figs (at0 ns k + more) hs.length (2 * n + 1) (mixOf ns)).length = hs.length := figs_len _ _ _ _
    have hin := figs_in (cell := at0 ns k + more) (mix := mixOf ns) (show (0 : Int) < 2 * n + 1 by omega) hs.length
    have hq : ∀ H', Same H H' → H' m = some (.lst ((putL n r (decide (V.int ((at0 ns k + more) % 13) = V.int 12)) (figs (at0 ns k + more) hs.length (2 * n + 1) (mixOf ns))).map V.int)) → Q (.ref m) H' := fun H' s' e => q m H' s' fm e
    generalize figs (at0 ns k + more) hs.length (2 * n + 1) (mixOf ns) = fs at hlen hin hq ⊢
    have hput : ∀ i, (putL n r (decide (V.int ((at0 ns k + more) % 13) = V.int 12)) (fs.take i)).length ≤ 5 := fun i => by
      rw [(putL_ok _ (by omega) r1 (fs.take i) fun x hx => hin x (List.mem_of_mem_take hx)).1, List.length_take]; omega
    refine for_list (K := K) (a := f) (xs := fs.map V.int) (fun i σ H' => ∃ v10 v11, σ = [some (.ref a), some (.int k), some (.int more), some (.ref sh), some (.int n), some (.int r), some (.ref h), some (.bl (mixOf ns)), some (.int (at0 ns k + more)), some (.ref m), v10, v11] ∧
      H' = upd (upd (upd H m (.lst [])) f (.lst (fs.map V.int))) m (.lst ((putL n r (decide (V.int ((at0 ns k + more) % 13) = V.int 12)) (fs.take i)).map V.int))) ⟨none, none, rfl, ?_⟩ ?_ ?_ ?_
    · exact (upd_id (by rw [upd_ne (Ne.symm hfm), upd_same]; rfl)).symm
    · rintro i σ H' _ ⟨_, _, _, rfl⟩
      exact SqL.of (by rw [upd_ne hfm, upd_same])
    · rintro i x σ H' hi ⟨v10, v11, rfl, rfl⟩
      obtain ⟨z, rfl, hz⟩ := int_at hi
      have etk : fs.take (i + 1) = fs.take i ++ [z] := by rw [List.take_succ, hz]; rfl
      have hpi := hput i
      generalize hlast : decide (V.int ((at0 ns k + more) % 13) = V.int 12) = last at hput hpi hq ⊢
      generalize hmade : putL n r last (fs.take i) = made at hpi
      have enext : putL n r last (fs.take (i + 1)) = putStep n r last made z := by rw [etk, putL_snoc, hmade]
      -- behind the choice of the place: the test of the room, then the append
      have tail : ∀ (p : Int), p = (if last = true then n else z - n) → True := fun _ _ => trivial
      refine ⟨_, rfl, _, rfl, _, _, rfl, rfl, ?_⟩
      refine ⟨_, rfl, _, _, rfl, rfl, (by show (0 : Int) < 13; decide), rfl, _, rfl, ?_⟩
      show (if decide (V.int ((at0 ns k + more) % 13) = V.int 12) = true then _ else _)
      rw [hlast]
      cases last
      · refine iteF ?_
        refine ⟨_, rfl, rfl, _, rfl, ?_⟩
        refine ite2 (fun h1 => ?_) (fun h1 => ?_)
        · have hp0 : z - n ≠ 0 := fun e => by
            have h1' : (!decide (V.int (z - n) = V.int 0)) = true := h1
            rw [e] at h1'; simp at h1'
          refine ⟨_, rfl, .inl ⟨rfl, _, SqL.of upd_same⟩, _, rfl, m, made, z - n, rfl, rfl, SqL.of upd_same, _, rfl, _, _, rfl, rfl, _, rfl, ?_⟩
          refine ite2 (fun h2 => ?_) (fun h2 => ?_)
          · have h2' : r ≤ (made.count (z - n) : Int) := of_decide_eq_true h2
            refine ⟨_, rfl, .inl ⟨rfl, _, SqL.of upd_same⟩, _, rfl, m, _, _, rfl, rfl, upd_same, small1000 (by rw [List.length_map]; omega), _, _, rfl, ?_⟩
            rw [upd_upd, enext]
            unfold putStep
            rw [if_neg (show ¬ (false = true) by decide), if_pos ⟨hp0, h2'⟩, List.map_append]
            rfl
          · have h2' : ¬ r ≤ (made.count (z - n) : Int) := fun e => h2 (decide_eq_true e)
            refine ⟨_, rfl, .inl ⟨rfl, _, SqL.of upd_same⟩, _, rfl, m, _, _, rfl, rfl, upd_same, small1000 (by rw [List.length_map]; omega), _, _, rfl, ?_⟩
            rw [upd_upd, enext]
            unfold putStep
            rw [if_neg (show ¬ (false = true) by decide), if_neg (fun e => h2' e.2), List.map_append]
            rfl
        · have hp0 : z - n = 0 := by
            have h1' : ¬ (!decide (V.int (z - n) = V.int 0)) = true := h1
            rw [dec_vint] at h1'
            simpa using h1'
          refine iteF ?_
          refine ⟨_, rfl, .inl ⟨rfl, _, SqL.of upd_same⟩, _, rfl, m, _, _, rfl, rfl, upd_same, small1000 (by rw [List.length_map]; omega), _, _, rfl, ?_⟩
          rw [upd_upd, enext]
          unfold putStep
          rw [if_neg (show ¬ (false = true) by decide), if_neg (fun e => e.1 hp0), List.map_append]
          rfl
      · refine iteT ?_
        refine ⟨_, rfl, ?_⟩
        refine ⟨_, rfl, rfl, _, rfl, ?_⟩
        have hn0 : n ≠ 0 := by omega
        refine iteA (by show (!decide (V.int n = V.int 0)) = true; rw [dec_vint]; simpa using hn0) ?_
        refine ⟨_, rfl, .inl ⟨rfl, _, SqL.of upd_same⟩, _, rfl, m, made, n, rfl, rfl, SqL.of upd_same, _, rfl, _, _, rfl, rfl, _, rfl, ?_⟩
        refine ite2 (fun h2 => ?_) (fun h2 => ?_)
        · have h2' : r ≤ (made.count n : Int) := of_decide_eq_true h2
          refine ⟨_, rfl, .inl ⟨rfl, _, SqL.of upd_same⟩, _, rfl, m, _, _, rfl, rfl, upd_same, small1000 (by rw [List.length_map]; omega), _, _, rfl, ?_⟩
          rw [upd_upd, enext]
          unfold putStep
          rw [if_pos rfl, if_pos ⟨hn0, h2'⟩, List.map_append]
          rfl
        · have h2' : ¬ r ≤ (made.count n : Int) := fun e => h2 (decide_eq_true e)
          refine ⟨_, rfl, .inl ⟨rfl, _, SqL.of upd_same⟩, _, rfl, m, _, _, rfl, rfl, upd_same, small1000 (by rw [List.length_map]; omega), _, _, rfl, ?_⟩
          rw [upd_upd, enext]
          unfold putStep
          rw [if_pos rfl, if_neg (fun e => h2' e.2), List.map_append]
          rfl
    · rintro σ H' ⟨v10, v11, rfl, rfl⟩
      rw [List.length_map, List.take_length]
      refine ⟨_, rfl, hq _ ?_ upd_same⟩
      exact ((s1.updT ff).put fm)

def sp_w_tilt (K : PySem.W.Frag) (t : Adr) : Sp := fun vs H Q _ => ∃ (h a : Addr) (hs xs : List Int), vs = [.ref h, .ref a] ∧ SqL K H h (hs.map V.int) ∧ (SqL K H a (xs.map V.int) ∨ SqT K H a (xs.map V.int)) ∧ (hs.length = xs.length ∧ xs.length ≤ 5 ∧ ∀ x ∈ hs, 1 ≤ x ∧ x ≤ 20) ∧ Q (.int (tiltOf hs xs)) H
theorem ok_w_tilt (T : Txt K mg t) : FnOk P w K mg base CX0 1 t.a_w_tilt t.d_w_tilt ["_law_hefts", "_law_spots"] (sp_w_tilt K t) := by
  refine T.F_w_tilt.ok sc_w_tilt (fun vs H Q E h => ?_) (fun cdv A outer s H vs Q E hr h => ?_)
  · obtain ⟨h, a, hs, xs, rfl, hh, hS, ⟨hl, h5, hhs⟩, q⟩ := h
    rfl
  · obtain ⟨h, a, hs, xs, rfl, hh, hS, ⟨hl, h5, hhs⟩, q⟩ := h
    refine ⟨_, (pss_cons (ps_set (i := 2) sc_w_tilt.nd rfl (Or.inl rfl) pe_int)
      (pss_cons (ps_for PassesOwn.never rfl (pi_range1 rfl T.n_range (pa_cons (pe_callB call_len_seq rfl T.n_len PySem.boot_len (pa_cons (pv 0) pa_nil)) pa_nil)) (pg_name (i := 3) sc_w_tilt.nd rfl (Or.inl rfl)) (pss_one (ps_set (i := 2) sc_w_tilt.nd rfl (Or.inl rfl) (pe_op op_add (pv 2) (pe_op op_mul (pe_ix ix_list (pv 0) (pv 3) (fun _ _ => rfl)) (pe_ix ix_seq (pv 1) (pv 3) (fun _ _ => rfl)))))))
      (pss_one (ps_ret (pv 2))))), ?_⟩
    refine ⟨_, rfl, h, _, rfl, .inl hh, ?_⟩
    rw [List.length_map]
    refine ⟨_, rfl, by omega, by omega, for_range (n := ((hs.length : Nat) : Int).toNat) (fun i σ H' => ∃ v, σ = [some (.ref h), some (.ref a), some (.int (sumTo hs xs i)), v] ∧ H' = H) ⟨none, rfl, rfl⟩ ?_ ?_⟩
    · rintro j σ H' hj ⟨v, rfl, rfl⟩
      have hjh : j < hs.length := by simpa using hj
      have e0 : (0 : Int) + (j : Int) = (j : Int) := by omega
      have ax : atI (xs.map V.int) (0 + (j : Int)) = some (.int (xs.getD j 0)) := by rw [e0]; exact atI_intD (by omega) (by omega)
      have ah : atI (hs.map V.int) (0 + (j : Int)) = some (.int (hs.getD j 0)) := by rw [e0]; exact atI_intD (by omega) (by omega)
      have hm := hhs (hs.getD j 0) (getD_mem hjh)
      have ixA : ∀ (Q' : VK), Q' (.int (xs.getD j 0)) H' → rIx K (.ref a) (.int (0 + (j : Int))) H' Q' := fun Q' h => by
        rcases hS with hS | hS
        · exact .inl ⟨a, _, _, _, rfl, rfl, hS, ax, h⟩
        · exact .inr (.inl ⟨a, _, _, _, rfl, rfl, hS, ax, h⟩)
      exact ⟨_, rfl, _, rfl, _, rfl, h, _, _, _, rfl, rfl, hh, ah, _, rfl, _, rfl, ixA _ ⟨_, _, rfl, rfl, .inl ⟨by omega, by omega⟩, _, _, rfl, rfl, _, rfl, rfl⟩⟩
    · rintro σ H' ⟨v, rfl, rfl⟩
      rw [Int.toNat_natCast, sumTo_tilt hl]
      exact ⟨_, rfl, q⟩

end
end Bt

namespace Bt
open PySem L2
section
variable {P : Program} {w : World} {K : PySem.W.Frag} {mg : Str → Option Value} {base : Heap} {t : Adr}

def sp_w_word (K : PySem.W.Frag) (t : Adr) : Sp := fun vs H Q _ => ∃ (sc h a m : Addr) (n r lim k s p : Int) (hs xs : List Int), vs = [.ref sc, .ref a, .ref m] ∧ H sc = some (.lst [.int n, .int r, .ref h, .int lim]) ∧ SqL K H h (hs.map V.int) ∧ H a = some (.tup (xs.map V.int)) ∧
  H m = some (.lst [.int k, .int s, .int p]) ∧ (hs.length = xs.length ∧ xs.length ≤ 5 ∧ (∀ x ∈ hs, 1 ≤ x ∧ x ≤ 20)) ∧ Q (.str (wordN (refN n r lim hs xs k s p))) H
theorem ok_w_word (T : Txt K mg t) : FnOk P w K mg base CX0 2 t.a_w_word t.d_w_word ["_law_scale", "_law_spots", "_law_move_here"] (sp_w_word K t) := by
  have G_w_tilt : FnOk P w K mg base CX0 1 t.a_w_tilt t.d_w_tilt ["_law_hefts", "_law_spots"] (sp_w_tilt K t) := ok_w_tilt T
  refine T.F_w_word.ok sc_w_word (fun vs H Q E h => ?_) (fun cdv A outer s H vs Q E hr h => ?_)
  · obtain ⟨sc, h, a, m, n, r, lim, k, s, p, hs, xs, rfl, hsc, hh, hT, hm, ⟨hl, h5_1, hhs⟩, q⟩ := h
    rfl
  · obtain ⟨sc, h, a, m, n, r, lim, k, s, p, hs, xs, rfl, hsc, hh, hT, hm, ⟨hl, h5_1, hhs⟩, q⟩ := h
    have hr_w_tilt : Room 1 _ := hr.mono (by decide)
    refine ⟨_, (pss_cons (ps_asg (pv 0) (pg_lst rfl (pgs_cons (pg_name (i := 3) sc_w_word.nd rfl (Or.inl rfl)) (pgs_cons (pg_name (i := 4) sc_w_word.nd rfl (Or.inl rfl)) (pgs_cons (pg_name (i := 5) sc_w_word.nd rfl (Or.inl rfl)) (pgs_cons (pg_name (i := 6) sc_w_word.nd rfl (Or.inl rfl)) pgs_nil))))))
      (pss_cons (ps_asg (pv 2) (pg_lst rfl (pgs_cons (pg_name (i := 7) sc_w_word.nd rfl (Or.inl rfl)) (pgs_cons (pg_name (i := 8) sc_w_word.nd rfl (Or.inl rfl)) (pgs_cons (pg_name (i := 9) sc_w_word.nd rfl (Or.inl rfl)) pgs_nil)))))
      (pss_cons (ps_if (PW.pt (pw_or (pt_cmpR op_lt (pv 7) pe_int (nomark _)) (pw_or (pt_cmpR op_gt (pv 7) (pe_callB call_len_seq rfl T.n_len PySem.boot_len (pa_cons (pv 5) pa_nil)) (nomark _)) (pw_or1 (pt_cmpR op_ne (pe_ix ix_tup (pv 1) (pe_op op_sub (pv 7) pe_int) (fun _ _ => rfl)) (pv 8) (nomark _)))))) (pss_one (ps_ret pe_str)) pss_nil)
      (pss_cons (ps_if (PW.pt (pw_or (pt_cmpR op_lt (pv 9) (pe_un un_neg (pv 3)) (nomark _)) (pw_or1 (pt_cmpR op_gt (pv 9) (pv 3) (nomark _))))) (pss_one (ps_ret pe_str)) pss_nil)
      (pss_cons (ps_if (pt_cmpR op_eq (pv 9) (pv 8) (nomark _)) (pss_one (ps_ret pe_str)) pss_nil)
      (pss_cons (ps_if (PW.pt (pw_and (pt_cmpR op_ne (pv 9) pe_int (nomark _)) (pw_and1 (pt_cmpR op_ge (pe_tm PySem.F.slot_tuple_count PySem.F.type_tuple_count mt_countT (pv 1) (pa_cons (pv 9) pa_nil)) (pv 4) (nomark _))))) (pss_one (ps_ret pe_str)) pss_nil)
      (pss_cons (ps_set (i := 10) sc_w_word.nd rfl (Or.inl rfl) (pe_op op_sub (pe_call G_w_tilt hr_w_tilt rfl T.m_w_tilt T.k_w_tilt T.b_w_tilt .nil pass0 (pa_cons (pv 5) (pa_cons (pv 1) pa_nil))) (pe_op op_mul (pe_ix ix_list (pv 5) (pe_op op_sub (pv 7) pe_int) (fun _ _ => rfl)) (pv 8))))
      (pss_cons (ps_if (pt_cmpR op_gt (pe_callB call_abs rfl T.n_abs PyProof.Rows.boot_abs (pa_cons (pv 10) pa_nil)) (pv 6) (nomark _)) (pss_one (ps_ret pe_str)) pss_nil)
      (pss_cons (ps_if (pt_cmpR op_gt (pe_callB call_abs rfl T.n_abs PyProof.Rows.boot_abs (pa_cons (pe_op op_add (pv 10) (pe_op op_mul (pe_ix ix_list (pv 5) (pe_op op_sub (pv 7) pe_int) (fun _ _ => rfl)) (pv 9))) pa_nil)) (pv 6) (nomark _)) (pss_one (ps_ret pe_str)) pss_nil)
      (pss_one (ps_ret pe_str))))))))))), ?_⟩
    unfold refN at q
    have hS : SqL K H a (xs.map V.int) ∨ SqT K H a (xs.map V.int) := .inr (SqT.of hT)
    refine ⟨_, rfl, sc, _, rfl, SqL.of hsc, rfl, _, _, rfl, _, _, rfl, _, _, rfl, _, _, rfl, rfl, ?_⟩
    refine ⟨_, rfl, m, _, rfl, SqL.of hm, rfl, _, _, rfl, _, _, rfl, _, _, rfl, rfl, ?_⟩
    refine ⟨_, rfl, _, _, rfl, rfl, _, rfl, ite2 (fun h1 => ?_) (fun h1 => ?_)⟩
    · have hb : ¬ goodW xs k s := fun z => by have := z.1; have := of_decide_eq_true h1; omega
      rw [if_pos hb] at q
      refine iteT ?_
      exact q
    have h1' : 1 ≤ k := Int.not_lt.mp fun z => h1 (decide_eq_true z)
    refine ⟨_, rfl, _, rfl, h, _, rfl, .inl hh, _, _, rfl, rfl, _, rfl, ?_⟩
    rw [List.length_map]
    refine ite2 (fun h2 => ?_) (fun h2 => ?_)
    · have hb : ¬ goodW xs k s := fun z => by have := z.1; have := of_decide_eq_true h2; omega
      rw [if_pos hb] at q
      refine iteT ?_
      exact q
    have h2' : k ≤ hs.length := Int.not_lt.mp fun z => h2 (decide_eq_true z)
    have ax : atI (xs.map V.int) (k - 1) = some (.int (xs.getD (k - 1).toNat 0)) := atI_intD (by omega) (by omega)
    have ah : atI (hs.map V.int) (k - 1) = some (.int (hs.getD (k - 1).toNat 0)) := atI_intD (by omega) (by omega)
    have hm1 := hhs (hs.getD (k - 1).toNat 0) (getD_mem (by omega))
    refine ⟨_, rfl, _, rfl, _, _, rfl, rfl, a, _, _, _, rfl, rfl, SqT.of hT, ax, _, rfl, rfl, _, rfl, ?_⟩
    rw [dec_vint]
    refine ite2 (fun h3 => ?_) (fun h3 => ?_)
    · have hb : ¬ goodW xs k s := fun z => by simp at h3; exact h3 (by simpa using z.2)
      rw [if_pos hb] at q
      exact q
    have h3' : xs.getD (k - 1).toNat 0 = s := by simpa using h3
    have hg : goodW xs k s := ⟨⟨h1', by omega⟩, h3'⟩
    rw [if_neg (fun z => z hg)] at q
    refine ⟨_, rfl, _, rfl, _, rfl, _, _, rfl, rfl, _, rfl, ite2 (fun h4 => ?_) (fun h4 => ?_)⟩
    · rw [if_pos (.inl (of_decide_eq_true h4))] at q
      refine iteT ?_
      exact q
    have h4' : ¬ p < -n := fun z => h4 (decide_eq_true z)
    refine ⟨_, rfl, _, rfl, _, _, rfl, rfl, _, rfl, ite2 (fun h5 => ?_) (fun h5 => ?_)⟩
    · rw [if_pos (.inr (of_decide_eq_true h5))] at q
      exact q
    have h5' : ¬ n < p := fun z => h5 (decide_eq_true z)
    rw [if_neg (fun z => z.elim h4' h5')] at q
    refine ⟨_, rfl, _, rfl, rfl, _, rfl, ?_⟩
    rw [dec_vint]
    refine ite2 (fun h6 => ?_) (fun h6 => ?_)
    · rw [if_pos (of_decide_eq_true h6)] at q
      exact q
    have h6' : p ≠ s := fun z => h6 (decide_eq_true z)
    rw [if_neg h6'] at q
    have fin : (if lim < absI (heldOf hs xs (k - 1).toNat) then (5 : Nat) else if lim < absI (heldOf hs xs (k - 1).toNat + hs.getD (k - 1).toNat 0 * p) then 6 else 0) = (if lim < absI (tiltOf hs xs - hs.getD (k - 1).toNat 0 * s) then (5 : Nat) else if lim < absI (tiltOf hs xs - hs.getD (k - 1).toNat 0 * s + hs.getD (k - 1).toNat 0 * p) then 6 else 0) := by unfold heldOf; rw [h3']
    rw [fin] at q
    refine ⟨_, rfl, rfl, _, rfl, ?_⟩
    rw [dec_vint]
    refine ite2 (fun h7 => ?_) (fun h7 => ?_)
    · have h7' : p ≠ 0 := by simpa using h7
      refine ⟨_, rfl, ⟨_, _, rfl, hT⟩, _, rfl, a, xs, p, rfl, rfl, SqT.of hT, _, rfl, _, _, rfl, rfl, _, rfl, ?_⟩
      refine ite2 (fun h8 => ?_) (fun h8 => ?_)
      · have h8' : r ≤ (xs.count p : Int) := of_decide_eq_true h8
        rw [if_pos (show fullB r xs p = true from decide_eq_true ⟨h7', h8'⟩)] at q
        exact q
      have h8' : ¬ r ≤ (xs.count p : Int) := fun z => h8 (decide_eq_true z)
      rw [if_neg (fun z : fullB r xs p = true => h8' (of_decide_eq_true z).2)] at q
      refine ⟨_, rfl, _, rfl, h, a, hs, xs, rfl, hh, hS, ⟨hl, h5_1, hhs⟩, _, rfl, _, rfl, _, _, rfl, rfl, h, _, _, _, rfl, rfl, hh, ah, _, rfl, _, _, rfl, rfl, .inl ⟨by omega, by omega⟩, _, _, rfl, rfl, ?_⟩
      refine ⟨_, rfl, _, rfl, _, rfl, _, _, rfl, rfl, _, rfl, ite2 (fun h9 => ?_) (fun h9 => ?_)⟩
      · rw [if_pos (show lim < absI (tiltOf hs xs - hs.getD (k - 1).toNat 0 * s) from of_decide_eq_true h9)] at q
        exact q
      rw [if_neg (fun z : lim < absI (tiltOf hs xs - hs.getD (k - 1).toNat 0 * s) => h9 (decide_eq_true z))] at q
      refine ⟨_, rfl, _, rfl, _, rfl, _, _, rfl, rfl, h, _, _, _, rfl, rfl, hh, ah, _, rfl, _, _, rfl, rfl, .inl ⟨by omega, by omega⟩, _, _, rfl, rfl, _, rfl, _, rfl, _, _, rfl, rfl, _, rfl, ite2 (fun h9 => ?_) (fun h9 => ?_)⟩
      · rw [if_pos (show lim < absI (tiltOf hs xs - hs.getD (k - 1).toNat 0 * s + hs.getD (k - 1).toNat 0 * p) from of_decide_eq_true h9)] at q
        exact q
      rw [if_neg (fun z : lim < absI (tiltOf hs xs - hs.getD (k - 1).toNat 0 * s + hs.getD (k - 1).toNat 0 * p) => h9 (decide_eq_true z))] at q
      exact q
    · have h7' : p = 0 := by simpa using h7
      rw [if_neg (fun z : fullB r xs p = true => (of_decide_eq_true z).1 h7')] at q
      refine iteF ?_
      refine ⟨_, rfl, _, rfl, h, a, hs, xs, rfl, hh, hS, ⟨hl, h5_1, hhs⟩, _, rfl, _, rfl, _, _, rfl, rfl, h, _, _, _, rfl, rfl, hh, ah, _, rfl, _, _, rfl, rfl, .inl ⟨by omega, by omega⟩, _, _, rfl, rfl, ?_⟩
      refine ⟨_, rfl, _, rfl, _, rfl, _, _, rfl, rfl, _, rfl, ite2 (fun h9 => ?_) (fun h9 => ?_)⟩
      · rw [if_pos (show lim < absI (tiltOf hs xs - hs.getD (k - 1).toNat 0 * s) from of_decide_eq_true h9)] at q
        exact q
      rw [if_neg (fun z : lim < absI (tiltOf hs xs - hs.getD (k - 1).toNat 0 * s) => h9 (decide_eq_true z))] at q
      refine ⟨_, rfl, _, rfl, _, rfl, _, _, rfl, rfl, h, _, _, _, rfl, rfl, hh, ah, _, rfl, _, _, rfl, rfl, .inl ⟨by omega, by omega⟩, _, _, rfl, rfl, _, rfl, _, rfl, _, _, rfl, rfl, _, rfl, ite2 (fun h9 => ?_) (fun h9 => ?_)⟩
      · rw [if_pos (show lim < absI (tiltOf hs xs - hs.getD (k - 1).toNat 0 * s + hs.getD (k - 1).toNat 0 * p) from of_decide_eq_true h9)] at q
        exact q
      rw [if_neg (fun z : lim < absI (tiltOf hs xs - hs.getD (k - 1).toNat 0 * s + hs.getD (k - 1).toNat 0 * p) => h9 (decide_eq_true z))] at q
      exact q

end
end Bt

namespace Bt
open PySem L2
section
variable {P : Program} {w : World} {K : PySem.W.Frag} {mg : Str → Option Value} {base : Heap} {t : Adr}

theorem use_finI {R : Int → Hp → Prop} {S : Hp → Prop} {G : Prop} (main : (∀ o H', S H' → R o H') → G) (fin : ∀ o H', S H' → R o H') : G := main fin
theorem use_finJ {R : Int → Prop} {G : Prop} (main : (∀ o, R o) → G) (fin : ∀ o, R o) : G := main fin
theorem three {l : List Int} (h : l.length = 3) : ∃ a b c, l = [a, b, c] := by
  match l, h with
  | [a, b, c], _ => exact ⟨a, b, c, rfl⟩
def sp_w_move (K : PySem.W.Frag) (t : Adr) : Sp := fun vs H Q _ => ∃ (h a : Addr) (cell n : Int) (hs xs : List Int), vs = [.int cell, .ref h, .int n, .ref a] ∧ SqL K H h (hs.map V.int) ∧ SqL K H a (xs.map V.int) ∧ (hs.length = xs.length ∧ xs.length ≤ 5 ∧ 1 ≤ n ∧ n ≤ 4) ∧
  (∀ k s p l H', Same H H' → H l = none → H' l = some (.lst [.int k, .int s, .int p]) → Q (.ref l) H')
theorem ok_w_move (T : Txt K mg t) : FnOk P w K mg base CX0 2 t.a_w_move t.d_w_move ["_law_cell", "_law_hefts", "_law_notches", "_law_spots"] (sp_w_move K t) := by
  have G_w_figs : FnOk P w K mg base CX0 1 t.a_w_figs t.d_w_figs ["_law_cell", "_law_count", "_law_base", "_law_mix"] (sp_w_figs K t) := ok_w_figs T
  refine T.F_w_move.ok sc_w_move (fun vs H Q E h => ?_) (fun cdv A outer s H vs Q E hr h => ?_)
  · obtain ⟨h, a, cell, n, hs, xs, rfl, hh, hS, ⟨hl, h5, n1, n4⟩, q⟩ := h
    rfl
  · obtain ⟨h, a, cell, n, hs, xs, rfl, hh, hS, ⟨hl, h5, n1, n4⟩, q⟩ := h
    have hr_w_figs : Room 1 _ := hr.mono (by decide)
    refine ⟨_, (pss_cons (ps_if (pt_cmpR op_eq (pe_op op_mod (pv 0) pe_int) pe_int (nomark _)) (pss_one (ps_ret (pe_comp rfl cs_w_move_0 (pi_list (pe_call G_w_figs hr_w_figs rfl T.m_w_figs T.k_w_figs T.b_w_figs .nil pass0 (pa_cons (pe_op op_fdiv (pv 0) pe_int) (pa_cons pe_int (pa_cons (pe_op op_add (pe_op op_mul pe_int (pe_op op_pow pe_int pe_int)) pe_int) (pa_cons pe_bl pa_nil)))))) (fun _ _ _ _ _ => (pg_name (i := 0) cs_w_move_0.nd rfl (Or.inl rfl))) (fun _ _ _ _ _ => pifs_nil) (fun _ _ _ _ _ => (pe_op op_sub (pv 0) (pe_op op_pow pe_int pe_int)))))) pss_nil)
      (pss_cons (ps_set (i := 4) sc_w_move.nd rfl (Or.inl rfl) (pe_op op_mod (pv 0) (pe_op op_add (pe_callB call_len_seq rfl T.n_len PySem.boot_len (pa_cons (pv 1) pa_nil)) pe_int)))
      (pss_cons (ps_if (pt_cmpR op_gt (pv 4) (pe_op op_add (pe_callB call_len_seq rfl T.n_len PySem.boot_len (pa_cons (pv 1) pa_nil)) pe_int) (nomark _)) (pss_one (ps_set (i := 4) sc_w_move.nd rfl (Or.inl rfl) (pe_ix ix_list (pe_lst (pa_cons (pe_un un_neg pe_int) (pa_cons (pe_op op_pow pe_int pe_int) pa_nil))) (pe_op op_sub (pe_op op_sub (pv 4) (pe_callB call_len_seq rfl T.n_len PySem.boot_len (pa_cons (pv 1) pa_nil))) pe_int) (fun _ _ => rfl)))) pss_nil)
      (pss_cons (ps_set (i := 5) sc_w_move.nd rfl (Or.inl rfl) (pe_op op_fdiv (pv 0) (pe_op op_add (pe_callB call_len_seq rfl T.n_len PySem.boot_len (pa_cons (pv 1) pa_nil)) pe_int)))
      (pss_cons (ps_set (i := 6) sc_w_move.nd rfl (Or.inl rfl) (pe_op op_sub (pe_op op_sub (pe_op op_mod (pe_op op_fdiv (pv 5) pe_int) (pe_op op_add (pe_op op_mul pe_int (pv 2)) pe_int)) (pv 2)) pe_int))
      (pss_cons (ps_if (PW.pt (pw_and (pt_cmpR op_gt (pe_op op_mod (pv 5) pe_int) pe_int (nomark _)) (pw_and (pt_cmpR op_ge (pv 4) pe_int (nomark _)) (pw_and1 (pt_cmpR op_le (pv 4) (pe_callB call_len_seq rfl T.n_len PySem.boot_len (pa_cons (pv 1) pa_nil)) (nomark _)))))) (pss_one (ps_set (i := 6) sc_w_move.nd rfl (Or.inl rfl) (pe_ix ix_list (pv 3) (pe_op op_sub (pv 4) pe_int) (fun _ _ => rfl)))) pss_nil)
      (pss_cons (ps_set (i := 5) sc_w_move.nd rfl (Or.inl rfl) (pe_op op_fdiv (pe_op op_fdiv (pv 5) pe_int) (pe_op op_add (pe_op op_mul pe_int (pv 2)) pe_int)))
      (pss_cons (ps_set (i := 7) sc_w_move.nd rfl (Or.inl rfl) (pe_op op_sub (pe_op op_sub (pe_op op_mod (pv 5) (pe_op op_add (pe_op op_mul pe_int (pv 2)) pe_int)) (pv 2)) pe_int))
      (pss_cons (ps_if (PW.pt (pw_or (pt_cmpR op_eq (pv 7) (pe_op op_sub (pe_un un_neg (pv 2)) pe_int) (nomark _)) (pw_or1 (pt_cmpR op_eq (pv 7) (pe_op op_add (pv 2) pe_int) (nomark _))))) (pss_one (ps_set (i := 7) sc_w_move.nd rfl (Or.inl rfl) (pe_op op_mul (pe_op op_fdiv (pv 7) (pe_op op_add (pv 2) pe_int)) (pe_op op_pow pe_int pe_int)))) pss_nil)
      (pss_one (ps_ret (pe_lst (pa_cons (pv 4) (pa_cons (pv 6) (pa_cons (pv 7) pa_nil))))))))))))))), ?_⟩
    refine ⟨_, rfl, _, _, rfl, rfl, (by show (0 : Int) < 11; decide), rfl, _, rfl, ?_⟩
    rw [dec_vint]
    refine ite2 (fun h1 => ?_) (fun h1 => ?_)
    · refine ⟨_, rfl, _, _, rfl, rfl, ⟨by decide, by decide⟩, _, _, rfl, rfl, ⟨by decide, by decide, by decide⟩, _, _, rfl, rfl, .inl ⟨by decide, by decide⟩, _, _, rfl, rfl, cell / 11, _, 3, false, rfl, ⟨by decide, by decide, by decide⟩, fun l4 f4 => ⟨l4, rfl, ⟨_, SqL.of upd_same⟩, fun D hD => ?_⟩⟩
      refine comp_list (f := fun v => match v with | .int z => V.int (z - 10 ^ 30) | v => v) (SqL.of upd_same) hD (Nat.le_of_lt (small1000 (by rw [List.length_map, figs_len]; decide))) (fun x acc R hx h => ?_) ?_
      · obtain ⟨z, hz, rfl⟩ := List.mem_map.mp hx
        exact ⟨_, rfl, _, _, rfl, rfl, ⟨by decide, by decide, by decide⟩, _, _, rfl, rfl, h⟩
      obtain ⟨x0, x1, x2, e3⟩ := three (figs_len (cell / 11) (2 * 10 ^ (30 : Int).toNat + 1) false 3)
      refine q (x0 - 10 ^ 30) (x1 - 10 ^ 30) (x2 - 10 ^ 30) D _ ((Same.upd f4).updT hD) ((Same.upd f4).free hD) ?_
      refine upd_same.trans ?_
      show some (HO.lst (((figs (cell / 11) 3 (2 * 10 ^ (30 : Int).toNat + 1) false).map V.int).map _)) = _
      rw [e3]
      rfl
    refine ⟨_, rfl, _, rfl, h, _, rfl, .inl hh, _, _, rfl, rfl, ?_⟩
    rw [List.length_map]
    refine ⟨_, _, rfl, rfl, (by show (0 : Int) < _; omega), ?_⟩
    dsimp only
    have w1 : 0 ≤ cell % ((hs.length : Int) + 4) := Int.emod_nonneg _ (by omega)
    have w2 : cell % ((hs.length : Int) + 4) < (hs.length : Int) + 4 := Int.emod_lt_of_pos _ (by omega)
    revert w1 w2
    generalize cell % ((hs.length : Int) + 4) = w0
    intro w1 w2
    refine ⟨_, rfl, _, rfl, h, _, rfl, .inl hh, _, _, rfl, rfl, ?_⟩
    rw [List.length_map]
    refine ⟨_, _, rfl, rfl, _, rfl, ?_⟩
    refine use_finI (R := ?R) (S := Same H) (fun fin => ?main) ?fin
    case main =>
      refine ite2 (fun h2 => ?_) (fun h2 => ?_)
      · have h2' : (hs.length : Int) + 1 < w0 := of_decide_eq_true h2
        have hy : ∃ o : Int, atI [V.int (-1), V.int (10 ^ 30)] (w0 - (hs.length : Int) - 2) = some (.int o) := by
          have : w0 - (hs.length : Int) - 2 = 0 ∨ w0 - (hs.length : Int) - 2 = 1 := by omega
          rcases this with e | e <;> rw [e]
          · exact ⟨_, rfl⟩
          · exact ⟨_, rfl⟩
        obtain ⟨o, ho⟩ := hy
        refine ⟨_, rfl, _, _, rfl, rfl, ⟨by decide, by decide, by decide⟩, (by show 2 ≤ sizeLine; decide), fun l3 f3 => ?_⟩
        have s3 : Same H (upd H l3 (.lst [V.int (-1), V.int (10 ^ Int.toNat 30)])) := Same.upd f3
        refine ⟨_, rfl, _, rfl, h, _, rfl, .inl (s3.seq hh), ?_⟩
        rw [List.length_map]
        refine ⟨_, _, rfl, rfl, _, _, rfl, rfl, l3, _, _, _, rfl, rfl, SqL.of upd_same, ho, ?_⟩
        dsimp only
        clear ho
        revert s3
        generalize upd H l3 (.lst [V.int (-1), V.int (10 ^ Int.toNat 30)]) = H'
        intro s3
        exact fin o H' s3
      · dsimp only [List.set]
        exact fin w0 H (Same.refl _)
    case fin =>
    intro w3 H1 s1
    have hh1 := s1.seq hh
    have hS1 := s1.seq hS
    refine ⟨_, rfl, _, rfl, h, _, rfl, .inl hh1, _, _, rfl, rfl, ?_⟩
    rw [List.length_map]
    refine ⟨_, _, rfl, rfl, ⟨by omega, by omega⟩, ?_⟩
    dsimp only
    generalize cell / ((hs.length : Int) + 4) = rest
    refine ⟨_, rfl, _, _, rfl, rfl, ⟨by decide, by decide⟩, _, rfl, _, _, rfl, rfl, .inl ⟨by decide, by decide⟩, _, _, rfl, rfl, _, _, rfl, rfl, (by show (0 : Int) < _; omega), _, rfl, _, _, rfl, rfl, _, _, rfl, rfl, ?_⟩
    dsimp only
    generalize rest / 4 % (2 * n + 3) - n - 1 = src0
    refine ⟨_, rfl, _, _, rfl, rfl, (by show (0 : Int) < 4; decide), _, _, rfl, rfl, _, rfl, ?_⟩
    refine use_finJ (R := ?R2) (fun fin => ?main2) ?fin2
    case main2 =>
      refine ite2 (fun h2 => ?_) (fun h2 => ?_)
      · refine ⟨_, rfl, _, _, rfl, rfl, _, rfl, ite2 (fun h3 => ?_) (fun h3 => ?_)⟩
        · refine ⟨_, rfl, _, rfl, h, _, rfl, .inl hh1, _, _, rfl, rfl, _, rfl, ?_⟩
          rw [List.length_map]
          refine ite2 (fun h4 => ?_) (fun h4 => ?_)
          · have h3' : 1 ≤ w3 := of_decide_eq_true h3
            have h4' : w3 ≤ (hs.length : Int) := of_decide_eq_true h4
            have ax : atI (xs.map V.int) (w3 - 1) = some (.int (xs.getD (w3 - 1).toNat 0)) := atI_intD (by omega) (by omega)
            refine ⟨_, rfl, _, rfl, _, _, rfl, rfl, a, _, _, _, rfl, rfl, hS1, ax, ?_⟩
            clear ax
            dsimp only
            generalize xs.getD (w3 - 1).toNat 0 = src
            exact fin src
          · exact fin src0
        · refine iteF ?_
          exact fin src0
      · refine iteF ?_
        exact fin src0
    case fin2 =>
    intro src
    refine ⟨_, rfl, _, _, rfl, rfl, ⟨by decide, by decide⟩, _, rfl, _, _, rfl, rfl, .inl ⟨by decide, by decide⟩, _, _, rfl, rfl, _, _, rfl, rfl, ⟨by show (0 : Int) < _; omega, by show _ < (1073741824 : Int); omega⟩, ?_⟩
    dsimp only
    generalize rest / 4 / (2 * n + 3) = rest2
    refine ⟨_, rfl, _, rfl, _, _, rfl, rfl, .inl ⟨by decide, by decide⟩, _, _, rfl, rfl, _, _, rfl, rfl, (by show (0 : Int) < _; omega), _, rfl, _, _, rfl, rfl, _, _, rfl, rfl, ?_⟩
    dsimp only
    have t1 : 0 ≤ rest2 % (2 * n + 7) := Int.emod_nonneg _ (by omega)
    have t2 : rest2 % (2 * n + 7) < 2 * n + 7 := Int.emod_lt_of_pos _ (by omega)
    have t3 : -7 ≤ rest2 % (2 * n + 7) - n - 3 ∧ rest2 % (2 * n + 7) - n - 3 ≤ 15 := by omega
    revert t3
    generalize rest2 % (2 * n + 7) - n - 3 = tg
    intro t3
    have far : -(2 ^ 64) < tg / (n + 3) ∧ tg / (n + 3) < 2 ^ 64 := by
      have e1 : (n + 3) * (tg / (n + 3)) + tg % (n + 3) = tg := Int.mul_ediv_add_emod _ _
      have e2 : 0 ≤ tg % (n + 3) := Int.emod_nonneg _ (by omega)
      have e3 : tg % (n + 3) < n + 3 := Int.emod_lt_of_pos _ (by omega)
      have : n = 1 ∨ n = 2 ∨ n = 3 ∨ n = 4 := by omega
      rcases this with rfl | rfl | rfl | rfl <;> omega
    have out : ∀ (tg : Int) (l : Addr), H1 l = none → Q (.ref l) (upd H1 l (.lst [.int w3, .int src, .int tg])) := fun tg l f => q w3 src tg l _ (s1.updT f) (s1.free f) upd_same
    refine ⟨_, rfl, _, rfl, _, rfl, _, _, rfl, rfl, rfl, _, rfl, ?_⟩
    rw [dec_vint]
    refine ite2 (fun h6 => ?_) (fun h6 => ?_)
    · refine iteT ?_
      refine ⟨_, rfl, _, rfl, _, _, rfl, rfl, _, _, rfl, rfl, ⟨by show (0 : Int) < _; omega, by show _ < (1073741824 : Int); omega⟩, _, _, rfl, rfl, ⟨by decide, by decide, by decide⟩, _, _, rfl, rfl, .inl far, ?_⟩
      exact ⟨_, rfl, _, rfl, _, rfl, (by show 3 ≤ sizeLine; decide), fun l f => out _ l f⟩
    refine ⟨_, rfl, _, rfl, _, _, rfl, rfl, rfl, _, rfl, ?_⟩
    rw [dec_vint]
    refine ite2 (fun h7 => ?_) (fun h7 => ?_)
    · refine ⟨_, rfl, _, rfl, _, _, rfl, rfl, _, _, rfl, rfl, ⟨by show (0 : Int) < _; omega, by show _ < (1073741824 : Int); omega⟩, _, _, rfl, rfl, ⟨by decide, by decide, by decide⟩, _, _, rfl, rfl, .inl far, ?_⟩
      exact ⟨_, rfl, _, rfl, _, rfl, (by show 3 ≤ sizeLine; decide), fun l f => out _ l f⟩
    · exact ⟨_, rfl, _, rfl, _, rfl, (by show 3 ≤ sizeLine; decide), fun l f => out _ l f⟩

end
end Bt

namespace Bt
open PySem L2
section
variable {P : Program} {w : World} {K : PySem.W.Frag} {mg : Str → Option Value} {base : Heap} {t : Adr}

def kindL (j : Nat) : List V := [.bl (decide (j = 0)), .bl (decide (j = 1)), .bl (decide (j = 2)), .bl (decide (j = 3)), .bl (decide (j = 4)), .bl (decide (j = 5)), .bl true]
theorem kfacts (T : Txt K mg t) {j : Nat} (hj : j < 6) : PySem.W.kitOne K (.ref (clsN t (j + 1))) (.ref t.c_NoWeight) = some (decide (j = 0)) ∧ PySem.W.kitOne K (.ref (clsN t (j + 1))) (.ref t.c_NoPlace) = some (decide (j = 1)) ∧ PySem.W.kitOne K (.ref (clsN t (j + 1))) (.ref t.c_SamePlace) = some (decide (j = 2)) ∧ PySem.W.kitOne K (.ref (clsN t (j + 1))) (.ref t.c_NoRoom) = some (decide (j = 3)) ∧ PySem.W.kitOne K (.ref (clsN t (j + 1))) (.ref t.c_TipsInHand) = some (decide (j = 4)) ∧ PySem.W.kitOne K (.ref (clsN t (j + 1))) (.ref t.c_TipsBehind) = some (decide (j = 5)) ∧ PySem.W.kitOne K (.ref (clsN t (j + 1))) (.type "ValueError") = some true := by
  match j, hj with
  | 0, _ => exact ⟨T.kt_NoWeight_NoWeight, T.kt_NoWeight_NoPlace, T.kt_NoWeight_SamePlace, T.kt_NoWeight_NoRoom, T.kt_NoWeight_TipsInHand, T.kt_NoWeight_TipsBehind, T.kt_NoWeight_ValueError⟩
  | 1, _ => exact ⟨T.kt_NoPlace_NoWeight, T.kt_NoPlace_NoPlace, T.kt_NoPlace_SamePlace, T.kt_NoPlace_NoRoom, T.kt_NoPlace_TipsInHand, T.kt_NoPlace_TipsBehind, T.kt_NoPlace_ValueError⟩
  | 2, _ => exact ⟨T.kt_SamePlace_NoWeight, T.kt_SamePlace_NoPlace, T.kt_SamePlace_SamePlace, T.kt_SamePlace_NoRoom, T.kt_SamePlace_TipsInHand, T.kt_SamePlace_TipsBehind, T.kt_SamePlace_ValueError⟩
  | 3, _ => exact ⟨T.kt_NoRoom_NoWeight, T.kt_NoRoom_NoPlace, T.kt_NoRoom_SamePlace, T.kt_NoRoom_NoRoom, T.kt_NoRoom_TipsInHand, T.kt_NoRoom_TipsBehind, T.kt_NoRoom_ValueError⟩
  | 4, _ => exact ⟨T.kt_TipsInHand_NoWeight, T.kt_TipsInHand_NoPlace, T.kt_TipsInHand_SamePlace, T.kt_TipsInHand_NoRoom, T.kt_TipsInHand_TipsInHand, T.kt_TipsInHand_TipsBehind, T.kt_TipsInHand_ValueError⟩
  | 5, _ => exact ⟨T.kt_TipsBehind_NoWeight, T.kt_TipsBehind_NoPlace, T.kt_TipsBehind_SamePlace, T.kt_TipsBehind_NoRoom, T.kt_TipsBehind_TipsInHand, T.kt_TipsBehind_TipsBehind, T.kt_TipsBehind_ValueError⟩
  | j + 6, h => exact absurd h (by omega)
def nameL : List V := [.str (Str.ofString "no weight"), .str (Str.ofString "no place"), .str (Str.ofString "same place"), .str (Str.ofString "no room"), .str (Str.ofString "tips in hand"), .str (Str.ofString "tips behind")]
def toldI (j i : Nat) : Str := if i ≤ j then Str.ofString "" else wordN (j + 1)
theorem kat {i j : Nat} (h : i < 6) : atI (kindL j) (0 + (i : Int)) = some (.bl (decide (j = i))) := by
  match i, h with
  | 0, _ => rfl
  | 1, _ => rfl
  | 2, _ => rfl
  | 3, _ => rfl
  | 4, _ => rfl
  | 5, _ => rfl
  | i + 6, h => exact absurd h (by omega)
theorem nat_ {i : Nat} (h : i < 6) : atI nameL (0 + (i : Int)) = some (.str (wordN (i + 1))) ∧ (Str.ofString "").length + (wordN (i + 1)).length ≤ sizeLine := by
  match i, h with
  | 0, _ => exact ⟨rfl, by decide⟩
  | 1, _ => exact ⟨rfl, by decide⟩
  | 2, _ => exact ⟨rfl, by decide⟩
  | 3, _ => exact ⟨rfl, by decide⟩
  | 4, _ => exact ⟨rfl, by decide⟩
  | 5, _ => exact ⟨rfl, by decide⟩
  | i + 6, h => exact absurd h (by omega)
theorem nil_str (x : PySem.Str) : PySem.Str.ofString "" ++ x = x := by
  cases x with
  | mk c =>
    show PySem.Str.mk ((PySem.Str.ofString "").cps ++ c) = _
    have e : (PySem.Str.ofString "").cps = #[] := by rfl
    rw [e]
    simp
def sp_w_told (K : PySem.W.Frag) (t : Adr) : Sp := fun vs H Q _ => ∃ (b a m : Addr) (n r lim k s p : Int) (hs xs : List Int), vs = [.ref b, .ref a, .ref m] ∧ BeamAt t H b n r hs lim ∧ Valid n r hs.length xs ∧ (SqL K H a (xs.map V.int) ∨ H a = some (.tup (xs.map V.int))) ∧ Mv K H m k s p ∧
  (refN n r lim hs xs k s p = 0 → ∀ o l kk H', Same H H' → H' o = some (.lst [.str (wordN 0), .ref l, .ref kk]) → H' l = some (.tup ((xs.set (k - 1).toNat p).map V.int)) → Q (.ref o) H') ∧
  (∀ j o kk H', refN n r lim hs xs k s p = j + 1 → Same H H' → H' o = some (.lst [.str (wordN (j + 1)), .non, .ref kk]) → H' kk = some (.lst (kindL j)) → Q (.ref o) H')
theorem ok_w_told (T : Txt K mg t) : FnOk P w K mg base CX0 7 t.a_w_told t.d_w_told ["_law_beam", "_law_handed", "_law_move_here"] (sp_w_told K t) := by
  have G_moved : FnOk P w K mg base (CXD P w) 6 t.a_moved t.d_moved ["beam", "standing", "move"] (sp_moved K t) := ok_moved T
  refine T.F_w_told.ok sc_w_told (fun vs H Q E h => ?_) (fun cdv A outer s H vs Q E hr h => ?_)
  · obtain ⟨b, a, m, n, r, lim, k, s, p, hs, xs, rfl, B, V0, hS, hM, q, qe⟩ := h
    rfl
  · obtain ⟨b, a, m, n, r, lim, k, s, p, hs, xs, rfl, B, V0, hS, hM, q, qe⟩ := h
    have hr_moved : Room 6 _ := hr.mono (by decide)
    refine ⟨_, (pss_cons (ps_set (i := 3) sc_w_told.nd rfl (Or.inl rfl) pe_str)
      (pss_cons (ps_set (i := 4) sc_w_told.nd rfl (Or.inl rfl) (pe_lst pa_nil))
      (pss_cons (ps_set (i := 5) sc_w_told.nd rfl (Or.inl rfl) pe_non)
      (pss_cons (ps_tryD (Ex := fun σ9 cls od H9 => (∃ l, σ9 = [some (.ref b), some (.ref a), some (.ref m), some (.str (Str.ofString "")), some (.ref l), some .non, none, none, none]) ∧ ∃ j, refN n r lim hs xs k s p = j + 1 ∧ cls = .ref (clsN t (j + 1)) ∧ Told H H9 od (wordN (j + 1))) (i := 6) ⟨rfl, rfl⟩ rfl T.m_BeamError sc_w_told.nd rfl rfl (fun _ => (pss_one (ps_set (i := 5) sc_w_told.nd rfl (Or.inl rfl) (pe_callS G_moved hr_moved rfl T.m_moved T.k_moved T.b_moved .nil passes_tryD (pa_cons (pv 0) (pa_cons (pv 1) (pa_cons (pv 2) pa_nil))))))) (fun _ => (pss_cons (ps_set (i := 4) sc_w_told.nd rfl (Or.inl rfl) (pe_lst (pa_cons (pe_callB (call_isXK K rfl) rfl T.n_isinstance PyProof.Rows.boot_isinstance (pa_cons (pv 6) (pa_cons (pe_glob (v := .ref t.c_NoWeight) rfl T.m_NoWeight rfl) pa_nil))) (pa_cons (pe_callB (call_isXK K rfl) rfl T.n_isinstance PyProof.Rows.boot_isinstance (pa_cons (pv 6) (pa_cons (pe_glob (v := .ref t.c_NoPlace) rfl T.m_NoPlace rfl) pa_nil))) (pa_cons (pe_callB (call_isXK K rfl) rfl T.n_isinstance PyProof.Rows.boot_isinstance (pa_cons (pv 6) (pa_cons (pe_glob (v := .ref t.c_SamePlace) rfl T.m_SamePlace rfl) pa_nil))) pa_nil)))))
      (pss_cons (ps_set (i := 4) sc_w_told.nd rfl (Or.inl rfl) (pe_op op_cat (pv 4) (pe_lst (pa_cons (pe_callB (call_isXK K rfl) rfl T.n_isinstance PyProof.Rows.boot_isinstance (pa_cons (pv 6) (pa_cons (pe_glob (v := .ref t.c_NoRoom) rfl T.m_NoRoom rfl) pa_nil))) (pa_cons (pe_callB (call_isXK K rfl) rfl T.n_isinstance PyProof.Rows.boot_isinstance (pa_cons (pv 6) (pa_cons (pe_glob (v := .ref t.c_TipsInHand) rfl T.m_TipsInHand rfl) pa_nil))) (pa_cons (pe_callB (call_isXK K rfl) rfl T.n_isinstance PyProof.Rows.boot_isinstance (pa_cons (pv 6) (pa_cons (pe_glob (v := .ref t.c_TipsBehind) rfl T.m_TipsBehind rfl) pa_nil))) pa_nil))))))
      (pss_one (ps_set (i := 4) sc_w_told.nd rfl (Or.inl rfl) (pe_op op_cat (pv 4) (pe_lst (pa_cons (pe_callB (call_isXK K rfl) rfl T.n_isinstance PyProof.Rows.boot_isinstance (pa_cons (pv 6) (pa_cons (pe_bltn (v := .ty "ValueError") rfl T.n_ValueError boot_VE rfl) pa_nil))) pa_nil)))))))))
      (pss_cons (ps_set (i := 7) sc_w_told.nd rfl (Or.inl rfl) (pe_lst (pa_cons pe_str (pa_cons pe_str (pa_cons pe_str (pa_cons pe_str (pa_cons pe_str (pa_cons pe_str pa_nil))))))))
      (pss_cons (ps_for PassesOwn.never rfl (pi_range1 rfl T.n_range (pa_cons (pe_op op_sub (pe_callB call_len_seq rfl T.n_len PySem.boot_len (pa_cons (pv 4) pa_nil)) pe_int) pa_nil)) (pg_name (i := 8) sc_w_told.nd rfl (Or.inl rfl)) (pss_one (ps_if (pt_val (pe_ix ix_list (pv 4) (pv 8) (fun _ _ => rfl))) (pss_one (ps_set (i := 3) sc_w_told.nd rfl (Or.inl rfl) (pe_op op_add_str (pv 3) (pe_ix ix_list (pv 7) (pv 8) (fun _ _ => rfl))))) pss_nil)))
      (pss_one (ps_ret (pe_lst (pa_cons (pv 3) (pa_cons (pv 5) (pa_cons (pv 4) pa_nil)))))))))))), ?_⟩
    refine ⟨Nat.zero_le _, fun kk fk => ?_⟩
    have s1 : Same H (upd H kk (.lst [])) := Same.upd fk
    have hk : (upd H kk (.lst [])) kk = some (.lst []) := upd_same
    dsimp only
    revert s1 hk
    generalize upd H kk (.lst []) = H1
    intro s1 hk
    refine ⟨?_, fun σ' cls od H' a' hE fa => ?_⟩
    · refine ⟨_, rfl, _, rfl, _, rfl, b, a, m, n, r, lim, k, s, p, hs, xs, rfl, B.same s1, V0, hS.imp s1.seq (s1 _ _), hM.same s1, fun hz l H2 s2 hl2 => ?_, fun j od H' hj tl => ?_⟩
      · refine ⟨(by show 6 ≤ sizeLine; decide), fun nm fnm => ?_⟩
        have s3 := (s1.trans s2).updT (o := .lst [.str (Str.ofString "no weight"), .str (Str.ofString "no place"), .str (Str.ofString "same place"), .str (Str.ofString "no room"), .str (Str.ofString "tips in hand"), .str (Str.ofString "tips behind")]) fnm
        have hk3 : _ = _ := (Same.upd (o := .lst [.str (Str.ofString "no weight"), .str (Str.ofString "no place"), .str (Str.ofString "same place"), .str (Str.ofString "no room"), .str (Str.ofString "tips in hand"), .str (Str.ofString "tips behind")]) fnm) _ _ (s2 _ _ hk)
        have hl3 : _ = _ := (Same.upd (o := .lst [.str (Str.ofString "no weight"), .str (Str.ofString "no place"), .str (Str.ofString "same place"), .str (Str.ofString "no room"), .str (Str.ofString "tips in hand"), .str (Str.ofString "tips behind")]) fnm) _ _ hl2
        dsimp only
        revert s3 hk3 hl3
        generalize upd H2 nm _ = H3
        intro s3 hk3 hl3
        refine ⟨_, rfl, kk, _, rfl, .inl (SqL.of hk3), _, _, rfl, rfl, _, rfl, by decide, by decide, for_range (n := (([] : List V).length - 1 : Int).toNat) (fun i σ H' => ∃ v, σ = [some (.ref b), some (.ref a), some (.ref m), some (.str (Str.ofString "")), some (.ref kk), some (.ref l), none, some (.ref nm), v] ∧ H' = H3) ⟨none, rfl, rfl⟩ ?_ ?_⟩
        · intro j σ H' hj
          exact absurd hj (by show ¬ j < 0; omega)
        · rintro σ H' ⟨v, rfl, rfl⟩
          exact ⟨_, rfl, _, rfl, _, rfl, (by show 3 ≤ sizeLine; decide), fun o fo => q hz o l kk _ (s3.updT fo) upd_same ((Same.upd fo) _ _ hl3)⟩
      · exact ⟨⟨kk, rfl⟩, j, hj, rfl, tl.from s1⟩
    · obtain ⟨⟨l9, rfl⟩, j, hj, rfl, tl⟩ := hE
      have hj6 : j < 6 := by have := refN_le n r lim hs xs k s p; omega
      obtain ⟨sH, dx, fs, rfl, hd, hw⟩ := tl
      have ne : dx ≠ a' := fun z => by rw [z, fa] at hd; cases hd
      have X1 := xfacts T hj6
      refine ⟨X1.2.2, ?_⟩
      obtain ⟨k0, k1, k2, k3, k4, k5, k6⟩ := kfacts T hj6
      have s5 := sH.updT (o := LandD (.ref (clsN t (j + 1))) a' (some dx)) fa
      have HA : (upd H' a' (LandD (.ref (clsN t (j + 1))) a' (some dx))) a' = _ := upd_same
      have HD : (upd H' a' (LandD (.ref (clsN t (j + 1))) a' (some dx))) dx = _ := (upd_ne ne).trans hd
      revert s5 HA HD
      generalize upd H' a' (LandD (.ref (clsN t (j + 1))) a' (some dx)) = H5
      intro s5 HA HD
      refine ⟨_, rfl, a', _, dx, fs, _, _, _, rfl, .own _, HA, HD, X1.1, T.xw, k0, _, rfl, a', _, dx, fs, _, _, _, rfl, .own _, HA, HD, X1.1, T.xw, k1, _, rfl, a', _, dx, fs, _, _, _, rfl, .own _, HA, HD, X1.1, T.xw, k2, (by show 3 ≤ sizeLine; decide), fun l1 f1 => ?_⟩
      have s6 := s5.updT (o := .lst [.bl (decide (j = 0)), .bl (decide (j = 1)), .bl (decide (j = 2))]) f1
      have x6 := Same.upd (o := .lst [.bl (decide (j = 0)), .bl (decide (j = 1)), .bl (decide (j = 2))]) f1
      have h6 : (upd H5 l1 (.lst [.bl (decide (j = 0)), .bl (decide (j = 1)), .bl (decide (j = 2))])) l1 = _ := upd_same
      dsimp only
      revert s6 x6 h6
      generalize upd H5 l1 (.lst [.bl (decide (j = 0)), .bl (decide (j = 1)), .bl (decide (j = 2))]) = H6
      intro s6 x6 h6
      have HA := x6 _ _ HA
      have HD := x6 _ _ HD
      refine ⟨_, rfl, _, rfl, a', _, dx, fs, _, _, _, rfl, .own _, HA, HD, X1.1, T.xw, k3, _, rfl, a', _, dx, fs, _, _, _, rfl, .own _, HA, HD, X1.1, T.xw, k4, _, rfl, a', _, dx, fs, _, _, _, rfl, .own _, HA, HD, X1.1, T.xw, k5, (by show 3 ≤ sizeLine; decide), fun l2 f2 => ?_⟩
      have x7 := Same.upd (o := .lst [.bl (decide (j = 3)), .bl (decide (j = 4)), .bl (decide (j = 5))]) f2
      refine ⟨l1, l2, _, _, rfl, rfl, x7 _ _ h6, upd_same, (by show 6 ≤ sizeLine; decide), fun l3 f3 => ?_⟩
      have s8 := (s6.trans x7).updT (o := .lst ([.bl (decide (j = 0)), .bl (decide (j = 1)), .bl (decide (j = 2))] ++ [.bl (decide (j = 3)), .bl (decide (j = 4)), .bl (decide (j = 5))])) f3
      have x8 := x7.updT (o := .lst ([.bl (decide (j = 0)), .bl (decide (j = 1)), .bl (decide (j = 2))] ++ [.bl (decide (j = 3)), .bl (decide (j = 4)), .bl (decide (j = 5))])) f3
      have h8 : (upd (upd H6 l2 (.lst [.bl (decide (j = 3)), .bl (decide (j = 4)), .bl (decide (j = 5))])) l3 (.lst ([.bl (decide (j = 0)), .bl (decide (j = 1)), .bl (decide (j = 2))] ++ [.bl (decide (j = 3)), .bl (decide (j = 4)), .bl (decide (j = 5))]))) l3 = _ := upd_same
      dsimp only
      revert s8 x8 h8
      generalize upd (upd H6 l2 (.lst [.bl (decide (j = 3)), .bl (decide (j = 4)), .bl (decide (j = 5))])) l3 (.lst ([.bl (decide (j = 0)), .bl (decide (j = 1)), .bl (decide (j = 2))] ++ [.bl (decide (j = 3)), .bl (decide (j = 4)), .bl (decide (j = 5))])) = H8
      intro s8 x8 h8
      have HA := x8 _ _ HA
      have HD := x8 _ _ HD
      refine ⟨_, rfl, _, rfl, a', _, dx, fs, _, _, _, rfl, .ty _, HA, HD, X1.1, T.xw, k6, (by show 1 ≤ sizeLine; decide), fun l4 f4 => ?_⟩
      have x9 := Same.upd (o := .lst [.bl true]) f4
      refine ⟨l3, l4, _, _, rfl, rfl, x9 _ _ h8, upd_same, (by show 7 ≤ sizeLine; decide), fun l5 f5 => ?_⟩
      have s10 : Same H (upd (upd H8 l4 (.lst [.bl true])) l5 (.lst (kindL j))) := (s8.trans x9).updT f5
      have h10 : (upd (upd H8 l4 (.lst [.bl true])) l5 (.lst (kindL j))) l5 = some (.lst (kindL j)) := upd_same
      show (fun x H1 => gName 4 x _ H1 _) (V.ref l5) (upd (upd H8 l4 (.lst [.bl true])) l5 (.lst (kindL j)))
      dsimp only
      revert s10 h10
      generalize upd (upd H8 l4 (.lst [.bl true])) l5 (.lst (kindL j)) = H10
      intro s10 h10
      refine ⟨(by show 6 ≤ sizeLine; decide), fun nm fnm => ?_⟩
      have x11 : Same H10 (upd H10 nm (.lst nameL)) := Same.upd fnm
      have h11 : (upd H10 nm (.lst nameL)) nm = some (.lst nameL) := upd_same
      show (fun x H1 => gName 7 x _ H1 _) (V.ref nm) (upd H10 nm (.lst nameL))
      dsimp only
      revert x11 h11
      generalize upd H10 nm (.lst nameL) = H11
      intro x11 h11
      have hk11 := x11 _ _ h10
      refine ⟨_, rfl, l5, _, rfl, .inl (SqL.of hk11), _, _, rfl, rfl, _, rfl, (by show -(2 ^ 62) ≤ (7 : Int) - 1; decide), (by show (7 : Int) - 1 < 2 ^ 62; decide), for_range (n := 6) (fun i σ H' => ∃ v, σ = [some (.ref b), some (.ref a), some (.ref m), some (.str (toldI j i)), some (.ref l5), some .non, none, some (.ref nm), v] ∧ H' = H11) ⟨none, rfl, rfl⟩ ?_ ?_⟩
      · rintro i σ H' hi ⟨v, rfl, rfl⟩
        refine ⟨_, rfl, _, rfl, l5, _, _, _, rfl, rfl, SqL.of hk11, kat hi, _, rfl, ite2 (fun e => ?_) (fun e => ?_)⟩
        · have e : j = i := of_decide_eq_true e
          subst e
          have e1 : toldI j j = Str.ofString "" := if_pos (Nat.le_refl _)
          have e2 : toldI j (j + 1) = wordN (j + 1) := if_neg (by omega)
          have e3 := nil_str (wordN (j + 1))
          rw [e1, e2]
          exact ⟨_, rfl, _, rfl, _, rfl, nm, _, _, _, rfl, rfl, SqL.of h11, (nat_ hi).1, _, _, rfl, rfl, (nat_ hi).2, some (.int (0 + (j : Int))), by rw [e3]; rfl, rfl⟩
        · have e : ¬ j = i := fun z => e (decide_eq_true z)
          have e1 : toldI j (i + 1) = toldI j i := by
            unfold toldI
            by_cases z : i ≤ j
            · rw [if_pos z, if_pos (by omega)]
            · rw [if_neg z, if_neg (by omega)]
          rw [e1]
          exact ⟨_, rfl, rfl⟩
      · rintro σ H' ⟨v, rfl, rfl⟩
        have e1 : toldI j 6 = wordN (j + 1) := if_neg (by omega)
        rw [e1]
        exact ⟨_, rfl, _, rfl, _, rfl, (by show 3 ≤ sizeLine; decide), fun o fo => qe j o l5 _ hj ((s10.trans x11).updT fo) upd_same ((Same.upd fo) _ _ hk11)⟩

end
end Bt

namespace Bt
open PySem L2
section
variable {P : Program} {w : World} {K : PySem.W.Frag} {mg : Str → Option Value} {base : Heap} {t : Adr}

theorem word_ne {j : Nat} (h : j < 6) : decide (V.str (wordN (j + 1)) = V.str (Str.ofString "")) = false := by
  match j, h with
  | 0, _ => decide
  | 1, _ => decide
  | 2, _ => decide
  | 3, _ => decide
  | 4, _ => decide
  | 5, _ => decide
  | i + 6, h => exact absurd h (by omega)
def sp_w_one (K : PySem.W.Frag) (t : Adr) : Sp := fun vs H Q _ => ∃ (b sc h sp m : Addr) (n r lim k s p : Int) (hs xs : List Int), vs = [.ref b, .ref sc, .ref sp, .ref m] ∧ BeamAt t H b n r hs lim ∧ Valid n r hs.length xs ∧ H sc = some (.lst [.int n, .int r, .ref h, .int lim]) ∧ SqL K H h (hs.map V.int) ∧ H sp = some (.lst (xs.map V.int)) ∧ H m = some (.lst [.int k, .int s, .int p]) ∧
  (∀ H', Same H H' → Q (.bl true) H')
theorem ok_w_one (T : Txt K mg t) : FnOk P w K mg base CX0 8 t.a_w_one t.d_w_one ["_law_beam", "_law_scale", "_law_spots", "_law_move_here"] (sp_w_one K t) := by
  have G_w_word : FnOk P w K mg base CX0 2 t.a_w_word t.d_w_word ["_law_scale", "_law_spots", "_law_move_here"] (sp_w_word K t) := ok_w_word T
  have G_refusal : FnOk P w K mg base CX0 6 t.a_refusal t.d_refusal ["beam", "standing", "move"] (sp_refusal K t) := ok_refusal T
  have G_w_told : FnOk P w K mg base CX0 7 t.a_w_told t.d_w_told ["_law_beam", "_law_handed", "_law_move_here"] (sp_w_told K t) := ok_w_told T
  have G_w_same : FnOk P w K mg base CX0 2 t.a_w_same t.d_w_same ["_law_found", "_law_due"] (sp_w_same K t) := ok_w_same T
  refine T.F_w_one.ok sc_w_one (fun vs H Q E h => ?_) (fun cdv A outer s H vs Q E hr h => ?_)
  · obtain ⟨b, sc, h, sp, m, n, r, lim, k, s, p, hs, xs, rfl, B, V0, hsc, hh, hsp, hm, q⟩ := h
    rfl
  · obtain ⟨b, sc, h, sp, m, n, r, lim, k, s, p, hs, xs, rfl, B, V0, hsc, hh, hsp, hm, q⟩ := h
    have hr_w_word : Room 2 _ := hr.mono (by decide)
    have hr_refusal : Room 6 _ := hr.mono (by decide)
    have hr_w_told : Room 7 _ := hr.mono (by decide)
    have hr_w_same : Room 2 _ := hr.mono (by decide)
    refine ⟨_, (pss_cons (ps_set (i := 4) sc_w_one.nd rfl (Or.inl rfl) (pe_call G_w_word hr_w_word rfl T.m_w_word T.k_w_word T.b_w_word .nil pass0 (pa_cons (pv 1) (pa_cons (pe_callTy call_tuple_of rfl T.n_tuple PyProof.Rows.boot_tuple (pa_cons (pv 2) pa_nil)) (pa_cons (pv 3) pa_nil)))))
      (pss_cons (ps_for PassesOwn.never rfl (pi_range1 rfl T.n_range (pa_cons pe_int pa_nil)) (pg_name (i := 5) sc_w_one.nd rfl (Or.inl rfl)) (pss_cons (ps_set (i := 6) sc_w_one.nd rfl (Or.inl rfl) (pe_ix ix_list (pe_lst (pa_cons (pe_callTy call_list_of rfl T.n_list PyProof.Rows.boot_list (pa_cons (pv 2) pa_nil)) (pa_cons (pe_callTy call_tuple_of rfl T.n_tuple PyProof.Rows.boot_tuple (pa_cons (pv 2) pa_nil)) pa_nil))) (pv 5) (fun _ _ => rfl)))
      (pss_cons (ps_set (i := 7) sc_w_one.nd rfl (Or.inl rfl) (pe_ix ix_list (pe_lst (pa_cons (pe_callTy call_tuple_of rfl T.n_tuple PyProof.Rows.boot_tuple (pa_cons (pv 3) pa_nil)) (pa_cons (pe_callTy call_list_of rfl T.n_list PyProof.Rows.boot_list (pa_cons (pv 3) pa_nil)) pa_nil))) (pv 5) (fun _ _ => rfl)))
      (pss_cons (ps_set (i := 8) sc_w_one.nd rfl (Or.inl rfl) (pe_call G_refusal hr_refusal rfl T.m_refusal T.k_refusal T.b_refusal .nil pass0 (pa_cons (pv 0) (pa_cons (pv 6) (pa_cons (pv 7) pa_nil)))))
      (pss_cons (ps_asg (pe_call G_w_told hr_w_told rfl T.m_w_told T.k_w_told T.b_w_told .nil pass0 (pa_cons (pv 0) (pa_cons (pv 6) (pa_cons (pv 7) pa_nil)))) (pg_lst rfl (pgs_cons (pg_name (i := 9) sc_w_one.nd rfl (Or.inl rfl)) (pgs_cons (pg_name (i := 10) sc_w_one.nd rfl (Or.inl rfl)) (pgs_cons (pg_name (i := 11) sc_w_one.nd rfl (Or.inl rfl)) pgs_nil)))))
      (pss_cons (ps_if (PW.pt (pw_or (pt_not (pt_val (pe_call G_w_same hr_w_same rfl T.m_w_same T.k_w_same T.b_w_same .nil pass0 (pa_cons (pv 6) (pa_cons (pv 2) pa_nil))))) (pw_or1 (pt_not (pt_val (pe_call G_w_same hr_w_same rfl T.m_w_same T.k_w_same T.b_w_same .nil pass0 (pa_cons (pv 7) (pa_cons (pv 3) pa_nil)))))))) (pss_one (ps_ret pe_bl)) pss_nil)
      (pss_one (ps_if (pt_cmpR op_eq (pv 4) pe_str (nomark _)) (pss_cons (ps_set (i := 12) sc_w_one.nd rfl (Or.inl rfl) (pe_callTy call_list_of rfl T.n_list PyProof.Rows.boot_list (pa_cons (pv 2) pa_nil)))
      (pss_cons (ps_asg (pe_ix ix_list (pv 3) pe_int (fun _ _ => rfl)) (pg_sub (pv 12) (pe_op op_sub (pe_ix ix_list (pv 3) pe_int (fun _ _ => rfl)) pe_int) set_list))
      (pss_one (ps_if (PW.pt (pw_or (pt_cmpR op_notN (pv 8) pe_non (nomark _)) (pw_or (pt_not (pt_val (pe_callB call_isi rfl T.n_isinstance PyProof.Rows.boot_isinstance (pa_cons (pv 10) (pa_cons (pe_bltn (v := .ty "tuple") rfl T.n_tuple PyProof.Rows.boot_tuple rfl) pa_nil))))) (pw_or1 (pt_not (pt_val (pe_call G_w_same hr_w_same rfl T.m_w_same T.k_w_same T.b_w_same .nil pass0 (pa_cons (pv 10) (pa_cons (pv 12) pa_nil))))))))) (pss_one (ps_ret pe_bl)) pss_nil)))) (pss_one (ps_if (PW.pt (pw_or (pt_not (pt_val (pe_callB call_isi rfl T.n_isinstance PyProof.Rows.boot_isinstance (pa_cons (pv 8) (pa_cons (pe_bltn (v := .ty "str") rfl T.n_str PyProof.Rows.boot_str rfl) pa_nil))))) (pw_or (pt_cmpR op_ne (pv 8) (pv 4) (nomark _)) (pw_or (pt_cmpR op_ne (pv 9) (pv 4) (nomark _)) (pw_or1 (pt_not (pt_val (pe_ix ix_list (pv 11) (pe_un un_neg pe_int) (fun _ _ => rfl))))))))) (pss_one (ps_ret pe_bl)) pss_nil))))))))))
      (pss_one (ps_ret pe_bl)))), ?_⟩
    have hw := B.1.w
    have hlen := V0.len
    refine ⟨_, rfl, _, rfl, sp, _, rfl, .inl ⟨SqL.of hsp, fun tu ftu => ?_⟩⟩
    have s1 : Same H (upd H tu (.tup (xs.map V.int))) := Same.upd ftu
    refine ⟨_, rfl, sc, h, tu, m, n, r, lim, k, s, p, hs, xs, rfl, s1 _ _ hsc, s1.seq hh, upd_same, s1 _ _ hm, ⟨by omega, by omega, B.1.h⟩, ?_⟩
    dsimp only
    revert s1
    generalize upd H tu (.tup (xs.map V.int)) = H1
    intro s1
    generalize hR : refN n r lim hs xs k s p = R
    refine ⟨_, rfl, by decide, by decide, for_range (n := 2) (fun i σ H' => ∃ v1 v2 v3 v4 v5 v6 v7 v8, σ = [some (.ref b), some (.ref sc), some (.ref sp), some (.ref m), some (.str (wordN R)), v1, v2, v3, v4, v5, v6, v7, v8] ∧ Same H H') ⟨none, none, none, none, none, none, none, none, rfl, s1⟩ ?_ ?_⟩
    · rintro i σ H2 hi ⟨v1, v2, v3, v4, v5, v6, v7, v8, rfl, s2⟩
      have hsp2 := s2 _ _ hsp
      have hm2 := s2 _ _ hm
      -- handed
      refine ⟨_, rfl, sp, _, rfl, .inl (SqL.of hsp2), fun l1 f1 => ?_⟩
      have x1 : Same H2 (upd H2 l1 (.lst (xs.map V.int))) := Same.upd f1
      refine ⟨_, rfl, sp, _, rfl, .inl ⟨SqL.of (x1 _ _ hsp2), fun l2 f2 => ?_⟩⟩
      have x2 := x1.updT (o := .tup (xs.map V.int)) f2
      have x12 := Same.upd (o := .tup (xs.map V.int)) f2
      refine ⟨(by show 2 ≤ sizeLine; decide), fun l3 f3 => ?_⟩
      have x3 := x2.updT (o := .lst [.ref l1, .ref l2]) f3
      have x23 := Same.upd (o := .lst [.ref l1, .ref l2]) f3
      have g1 := x23 _ _ (x12 _ _ (upd_same (H := H2) (a := l1) (o := .lst (xs.map V.int))))
      have g2 := x23 _ _ (upd_same (H := upd H2 l1 (.lst (xs.map V.int))) (a := l2) (o := .tup (xs.map V.int)))
      have g3 := upd_same (H := upd (upd H2 l1 (.lst (xs.map V.int))) l2 (.tup (xs.map V.int))) (a := l3) (o := .lst [.ref l1, .ref l2])
      dsimp only
      clear x23 f3
      revert x3 g1 g2 g3
      generalize upd (upd (upd H2 l1 (.lst (xs.map V.int))) l2 (.tup (xs.map V.int))) l3 (.lst [.ref l1, .ref l2]) = H3
      intro x3 g1 g2 g3
      clear x12 x2 f2 x1
      have hat : ∃ a, atI [V.ref l1, V.ref l2] (0 + (i : Int)) = some (.ref a) ∧ (SqL K H3 a (xs.map V.int) ∨ H3 a = some (.tup (xs.map V.int))) := by
        have : i = 0 ∨ i = 1 := by omega
        rcases this with rfl | rfl
        · exact ⟨l1, rfl, .inl (SqL.of g1)⟩
        · exact ⟨l2, rfl, .inr g2⟩
      obtain ⟨a, ha, hS⟩ := hat
      refine ⟨_, rfl, l3, _, _, _, rfl, rfl, SqL.of g3, ha, ?_⟩
      have s3 := s2.trans x3
      clear g1 g2 g3 ha x3
      have hm3 := s3 _ _ hm
      -- taken
      refine ⟨_, rfl, m, _, rfl, .inl ⟨SqL.of hm3, fun l4 f4 => ?_⟩⟩
      have x1 : Same H3 (upd H3 l4 (.tup [.int k, .int s, .int p])) := Same.upd f4
      refine ⟨_, rfl, m, _, rfl, .inl (SqL.of (x1 _ _ hm3)), fun l5 f5 => ?_⟩
      have x2 := x1.updT (o := .lst [.int k, .int s, .int p]) f5
      have x12 := Same.upd (o := .lst [.int k, .int s, .int p]) f5
      refine ⟨(by show 2 ≤ sizeLine; decide), fun l6 f6 => ?_⟩
      have x3 := x2.updT (o := .lst [.ref l4, .ref l5]) f6
      have x23 := Same.upd (o := .lst [.ref l4, .ref l5]) f6
      have g1 := x23 _ _ (x12 _ _ (upd_same (H := H3) (a := l4) (o := .tup [.int k, .int s, .int p])))
      have g2 := x23 _ _ (upd_same (H := upd H3 l4 (.tup [.int k, .int s, .int p])) (a := l5) (o := .lst [.int k, .int s, .int p]))
      have g3 := upd_same (H := upd (upd H3 l4 (.tup [.int k, .int s, .int p])) l5 (.lst [.int k, .int s, .int p])) (a := l6) (o := .lst [.ref l4, .ref l5])
      dsimp only
      clear x23 f6
      revert x3 g1 g2 g3
      generalize upd (upd (upd H3 l4 (.tup [.int k, .int s, .int p])) l5 (.lst [.int k, .int s, .int p])) l6 (.lst [.ref l4, .ref l5]) = H4
      intro x3 g1 g2 g3
      clear x12 x2 f5 x1
      have hat : ∃ mv, atI [V.ref l4, V.ref l5] (0 + (i : Int)) = some (.ref mv) ∧ Mv K H4 mv k s p := by
        have : i = 0 ∨ i = 1 := by omega
        rcases this with rfl | rfl
        · exact ⟨l4, rfl, .inr (SqT.of g1)⟩
        · exact ⟨l5, rfl, .inl (SqL.of g2)⟩
      obtain ⟨mv, ha, hM⟩ := hat
      refine ⟨_, rfl, l6, _, _, _, rfl, rfl, SqL.of g3, ha, ?_⟩
      have s4 := s3.trans x3
      have hS4 : SqL K H4 a (xs.map V.int) ∨ H4 a = some (.tup (xs.map V.int)) := hS.imp x3.seq (x3 _ _)
      clear g1 g2 g3 ha x3 hS
      have hS' : ∀ {H5 : Hp}, Same H4 H5 → SqL K H5 a (xs.map V.int) ∨ SqT K H5 a (xs.map V.int) := fun e => hS4.imp e.seq fun z => SqT.of (e _ _ z)
      have hM' : ∀ {H5 : Hp}, Same H4 H5 → SqL K H5 mv ([k, s, p].map V.int) ∨ SqT K H5 mv ([k, s, p].map V.int) := fun e => hM.same e
      match R, hR with
      | 0, hR =>
        refine ⟨_, rfl, _, rfl, _, rfl, b, a, mv, n, r, lim, k, s, p, hs, xs, rfl, B.same s4, V0, hS4, hM, fun _ H5 s5 => ?_, fun j _ e => absurd (hR.symm.trans e) (by omega)⟩
        refine ⟨_, rfl, _, rfl, _, rfl, b, a, mv, n, r, lim, k, s, p, hs, xs, rfl, B.same (s4.trans s5), V0, hS4.imp s5.seq (s5 _ _), hM.same s5, fun _ o l kk H6 s6 ho hl => ?_, fun j _ _ _ e => absurd (hR.symm.trans e) (by omega)⟩
        refine ⟨o, _, rfl, SqL.of ho, rfl, _, _, rfl, _, _, rfl, _, _, rfl, rfl, ?_⟩
        have s46 := s5.trans s6
        have s06 := s4.trans s46
        have hsp6 := s06 _ _ hsp
        have hm6 := s06 _ _ hm
        refine ⟨_, rfl, _, rfl, a, sp, xs, xs, rfl, hS' s46, .inl (SqL.of hsp6), by omega, _, rfl, iteB (by rw [decide_eq_true rfl]; rfl) ?_⟩
        refine ⟨_, rfl, _, rfl, mv, m, [k, s, p], [k, s, p], rfl, hM' s46, .inl (SqL.of hm6), (by show 3 ≤ 1000; decide), _, rfl, iteB (by rw [decide_eq_true rfl]; rfl) ?_⟩
        refine ⟨_, rfl, rfl, _, rfl, iteA (decide_eq_true rfl) ?_⟩
        refine ⟨_, rfl, sp, _, rfl, .inl (SqL.of hsp6), fun l7 f7 => ?_⟩
        have hg : goodW xs k s := Decidable.byContradiction fun z => by unfold refN at hR; rw [if_pos z] at hR; cases hR
        obtain ⟨⟨k1, k2⟩, _⟩ := hg
        have x7 : Same H6 (upd H6 l7 (.lst (xs.map V.int))) := Same.upd f7
        have eix : ixN (xs.map V.int).length (k - 1) = some (k - 1).toNat := by
          unfold ixN
          rw [List.length_map, if_pos (by omega), if_pos (by omega)]
        refine ⟨_, rfl, m, _, _, _, rfl, rfl, SqL.of (x7 _ _ hm6), rfl, _, rfl, _, rfl, m, _, _, _, rfl, rfl, SqL.of (x7 _ _ hm6), rfl, _, _, rfl, rfl, l7, _, _, _, rfl, rfl, upd_same, eix, ?_⟩
        rw [upd_upd]
        have e8 : (xs.map V.int).set (k - 1).toNat (.int p) = (xs.set (k - 1).toNat p).map V.int := by rw [List.map_set]
        rw [e8]
        have x8 : Same H6 (upd H6 l7 (.lst ((xs.set (k - 1).toNat p).map V.int))) := Same.upd f7
        have h8 : (upd H6 l7 (.lst ((xs.set (k - 1).toNat p).map V.int))) l7 = _ := upd_same
        revert x8 h8
        generalize upd H6 l7 (.lst ((xs.set (k - 1).toNat p).map V.int)) = H8
        intro x8 h8
        refine ⟨_, rfl, rfl, _, rfl, iteF ?_⟩
        refine ⟨_, rfl, _, _, _, _, _, rfl, .ty _, .tup (x8 _ _ hl), rfl, _, rfl, iteF ?_⟩
        refine ⟨_, rfl, _, rfl, l, l7, _, _, rfl, .inr (SqT.of (x8 _ _ hl)), .inl (SqL.of h8), by rw [List.length_set]; omega, _, rfl, iteB (by rw [decide_eq_true rfl]; rfl) ?_⟩
        exact ⟨_, _, _, _, _, _, _, _, rfl, s06.trans x8⟩
      | j + 1, hR =>
        have hj6 : j < 6 := by have := refN_le n r lim hs xs k s p; omega
        refine ⟨_, rfl, _, rfl, _, rfl, b, a, mv, n, r, lim, k, s, p, hs, xs, rfl, B.same s4, V0, hS4, hM, fun e => absurd (hR.symm.trans e) (by omega), fun j' H5 e s5 => ?_⟩
        obtain rfl : j = j' := by omega
        refine ⟨_, rfl, _, rfl, _, rfl, b, a, mv, n, r, lim, k, s, p, hs, xs, rfl, B.same (s4.trans s5), V0, hS4.imp s5.seq (s5 _ _), hM.same s5, fun e => absurd (hR.symm.trans e) (by omega), fun j' o kk H6 e6 s6 ho hk => ?_⟩
        obtain rfl : j = j' := by omega
        refine ⟨o, _, rfl, SqL.of ho, rfl, _, _, rfl, _, _, rfl, _, _, rfl, rfl, ?_⟩
        have s46 := s5.trans s6
        have s06 := s4.trans s46
        have hsp6 := s06 _ _ hsp
        have hm6 := s06 _ _ hm
        refine ⟨_, rfl, _, rfl, a, sp, xs, xs, rfl, hS' s46, .inl (SqL.of hsp6), by omega, _, rfl, iteB (by rw [decide_eq_true rfl]; rfl) ?_⟩
        refine ⟨_, rfl, _, rfl, mv, m, [k, s, p], [k, s, p], rfl, hM' s46, .inl (SqL.of hm6), (by show 3 ≤ 1000; decide), _, rfl, iteB (by rw [decide_eq_true rfl]; rfl) ?_⟩
        refine ⟨_, rfl, rfl, _, rfl, iteB (word_ne hj6) ?_⟩
        refine ⟨_, rfl, _, _, _, _, _, rfl, .ty _, .str _, rfl, _, rfl, iteF ?_⟩
        refine ⟨_, rfl, _, rfl, rfl, _, rfl, iteB (by rw [decide_eq_true rfl]; rfl) ?_⟩
        refine ⟨_, rfl, _, rfl, rfl, _, rfl, iteB (by rw [decide_eq_true rfl]; rfl) ?_⟩
        refine ⟨_, rfl, _, rfl, kk, _, _, _, rfl, rfl, SqL.of hk, rfl, _, rfl, iteF ?_⟩
        exact ⟨_, _, _, _, _, _, _, _, rfl, s06⟩
    · rintro σ H' ⟨v1, v2, v3, v4, v5, v6, v7, v8, rfl, s2⟩
      exact q H' s2

end
end Bt

namespace Bt
open PySem L2
section
variable {P : Program} {w : World} {K : PySem.W.Frag} {mg : Str → Option Value} {base : Heap} {t : Adr}

theorem cut_ints (ns : List Int) (lo hi : Option Int) : ∃ zs : List Int, cutV (ns.map V.int) lo hi = zs.map V.int ∧ zs.length ≤ ns.length := by
  have hc := cutV_length (ns.map V.int) lo hi
  refine ⟨(ns.drop (HT.sIx (ns.map V.int).length 0 lo)).take (HT.sIx (ns.map V.int).length (ns.map V.int).length hi - HT.sIx (ns.map V.int).length 0 lo), ?_, ?_⟩
  · unfold cutV
    rw [List.map_take, List.map_drop]
  · rw [List.length_take, List.length_drop]
    omega
theorem ok_law (T : Txt K mg t) : FnOk P w K mg base CX0 9 t.a_law t.d_law ["_law_script"] (sp_law K t) := by
  have G_w_shape : FnOk P w K mg base CX0 2 t.a_w_shape t.d_w_shape ["_law_script"] (sp_w_shape K t) := ok_w_shape T
  have G_w_put : FnOk P w K mg base CX0 2 t.a_w_put t.d_w_put ["_law_script", "_law_k", "_law_more", "_law_shape_here"] (sp_w_put K t) := ok_w_put T
  have G_w_at : FnOk P w K mg base CX0 1 t.a_w_at t.d_w_at ["_law_script", "_law_k"] (sp_w_at K t) := ok_w_at T
  have G_Beam_init : FnOk P w K mg base CX0 3 t.a_Beam_init t.d_Beam_init ["self", "notches", "room", "hefts", "limit"] (sp_Beam_init K t) := ok_Beam_init T
  have G_w_tilt : FnOk P w K mg base CX0 1 t.a_w_tilt t.d_w_tilt ["_law_hefts", "_law_spots"] (sp_w_tilt K t) := ok_w_tilt T
  have G_w_move : FnOk P w K mg base CX0 2 t.a_w_move t.d_w_move ["_law_cell", "_law_hefts", "_law_notches", "_law_spots"] (sp_w_move K t) := ok_w_move T
  have G_w_one : FnOk P w K mg base CX0 8 t.a_w_one t.d_w_one ["_law_beam", "_law_scale", "_law_spots", "_law_move_here"] (sp_w_one K t) := ok_w_one T
  refine T.F_law.ok sc_law (fun vs H Q E h => ?_) (fun cdv A outer s H vs Q E hr h => ?_)
  · obtain ⟨a, ns, rfl, hS, hlen, q⟩ := h
    rfl
  · obtain ⟨a, ns, rfl, hS, hlen, q⟩ := h
    have hr_w_shape : Room 2 _ := hr.mono (by decide)
    have hr_w_put : Room 2 _ := hr.mono (by decide)
    have hr_w_at : Room 1 _ := hr.mono (by decide)
    have hr_Beam : Room 4 _ := hr.mono (by decide)
    have hr_w_tilt : Room 1 _ := hr.mono (by decide)
    have hr_w_move : Room 2 _ := hr.mono (by decide)
    have hr_w_one : Room 8 _ := hr.mono (by decide)
    refine ⟨_, (pss_cons (ps_set (i := 1) sc_law.nd rfl (Or.inl rfl) (pe_call G_w_shape hr_w_shape rfl T.m_w_shape T.k_w_shape T.b_w_shape .nil pass0 (pa_cons (pv 0) pa_nil)))
      (pss_cons (ps_asg (pv 1) (pg_lst rfl (pgs_cons (pg_name (i := 2) sc_law.nd rfl (Or.inl rfl)) (pgs_cons (pg_name (i := 3) sc_law.nd rfl (Or.inl rfl)) (pgs_cons (pg_name (i := 4) sc_law.nd rfl (Or.inl rfl)) pgs_nil)))))
      (pss_cons (ps_set (i := 5) sc_law.nd rfl (Or.inl rfl) (pe_call G_w_put hr_w_put rfl T.m_w_put T.k_w_put T.b_w_put .nil pass0 (pa_cons (pv 0) (pa_cons pe_int (pa_cons pe_int (pa_cons (pv 1) pa_nil))))))
      (pss_cons (ps_set (i := 6) sc_law.nd rfl (Or.inl rfl) (pe_call G_w_at hr_w_at rfl T.m_w_at T.k_w_at T.b_w_at .nil pass0 (pa_cons (pv 0) (pa_cons pe_int pa_nil))))
      (pss_cons (ps_set (i := 7) sc_law.nd rfl (Or.inl rfl) (pe_callB call_abs rfl T.n_abs PyProof.Rows.boot_abs (pa_cons (pe_call G_w_tilt hr_w_tilt rfl T.m_w_tilt T.k_w_tilt T.b_w_tilt .nil pass0 (pa_cons (pv 4) (pa_cons (pv 5) pa_nil))) pa_nil)))
      (pss_cons (ps_set (i := 8) sc_law.nd rfl (Or.inl rfl) (pe_ix ix_list (pe_lst (pa_cons (pe_op op_add (pv 7) (pe_op op_mod (pe_op op_fdiv (pv 6) pe_int) pe_int)) (pa_cons (pe_op op_mod (pe_op op_fdiv (pv 6) pe_int) pe_int) (pa_cons (pe_op op_mod (pe_op op_fdiv (pv 6) pe_int) pe_int) pa_nil)))) (pe_op op_mod (pv 6) pe_int) (fun _ _ => rfl)))
      (pss_cons (ps_set (i := 9) sc_law.nd rfl (Or.inl rfl) (pe_make T.mk_Beam G_Beam_init hr_Beam rfl T.m_Beam T.b_Beam_init .nil pass0 (pa_cons (pv 2) (pa_cons (pv 3) (pa_cons (pe_callTy call_list_of rfl T.n_list PyProof.Rows.boot_list (pa_cons (pv 4) pa_nil)) (pa_cons (pv 8) pa_nil))))))
      (pss_cons (ps_set (i := 10) sc_law.nd rfl (Or.inl rfl) (pe_op op_cat (pe_lst (pa_cons (pe_op op_add (pe_call G_w_at hr_w_at rfl T.m_w_at T.k_w_at T.b_w_at .nil pass0 (pa_cons (pv 0) (pa_cons pe_int pa_nil))) pe_int) pa_nil)) (pe_slice sl_list (pv 0) (po_some pe_int) (po_some pe_int))))
      (pss_cons (ps_for PassesOwn.never rfl (pi_range1 rfl T.n_range (pa_cons (pe_callB call_len_seq rfl T.n_len PySem.boot_len (pa_cons (pv 10) pa_nil)) pa_nil)) (pg_name (i := 11) sc_law.nd rfl (Or.inl rfl)) (pss_cons (ps_set (i := 12) sc_law.nd rfl (Or.inl rfl) (pe_call G_w_move hr_w_move rfl T.m_w_move T.k_w_move T.b_w_move .nil pass0 (pa_cons (pe_op op_add (pe_op op_mul (pe_ix ix_list (pv 10) (pv 11) (fun _ _ => rfl)) (pe_op op_add pe_int (pe_op op_mul (pe_op op_mod (pv 11) pe_int) pe_int))) (pv 11)) (pa_cons (pv 4) (pa_cons (pv 2) (pa_cons (pv 5) pa_nil))))))
      (pss_one (ps_if (pt_not (pt_val (pe_call G_w_one hr_w_one rfl T.m_w_one T.k_w_one T.b_w_one .nil pass0 (pa_cons (pv 9) (pa_cons (pe_lst (pa_cons (pv 2) (pa_cons (pv 3) (pa_cons (pv 4) (pa_cons (pv 8) pa_nil))))) (pa_cons (pv 5) (pa_cons (pv 12) pa_nil))))))) (pss_one (ps_ret pe_bl)) pss_nil))))
      (pss_one (ps_ret pe_bl))))))))))), ?_⟩
    -- shape
    refine ⟨_, rfl, a, ns, rfl, hS, fun sh h H1 s1 fsh fh hh hsh => ?_⟩
    refine ⟨_, rfl, sh, _, rfl, SqL.of hsh, rfl, _, _, rfl, _, _, rfl, _, _, rfl, rfl, ?_⟩
    have ok0 := sh_ok ns (lim := 0) (by decide) (by decide)
    -- spots
    refine ⟨_, rfl, _, rfl, a, sh, h, ns, 3, 0, shN ns, shR ns, shH ns, rfl, s1.seq hS, hsh, SqL.of hh, ⟨ok0.n1, ok0.n2, ok0.r1, ok0.w⟩, fun sp H2 s2 fsp hsp => ?_⟩
    have V0 := put_ok ns 3 0 (shH ns).length ok0.n1 ok0.r1
    generalize putOf ns 3 0 (shN ns) (shR ns) (shH ns).length = xs at V0 hsp
    have s02 := s1.trans s2
    have hw5 := ok0.w
    have hlx : (shH ns).length = xs.length := V0.len.symm
    have hh2 := s2 _ _ hh
    obtain ⟨tl1, tl2⟩ := tilt_le ok0 V0
    refine ⟨_, rfl, a, ns, 5, rfl, s02.seq hS, ?_⟩
    refine ⟨_, rfl, _, rfl, h, sp, shH ns, xs, rfl, SqL.of hh2, .inl (SqL.of hsp), ⟨hlx, by omega, ok0.h⟩, _, rfl, ?_⟩
    -- the limit
    generalize ns.getD 5 0 = c
    generalize hsz : (if tiltOf (shH ns) xs < 0 then -tiltOf (shH ns) xs else tiltOf (shH ns) xs) = size
    have hz1 : 0 ≤ size := by rw [← hsz]; exact tl2
    have hz2 : size ≤ 240 := by rw [← hsz]; exact tl1
    have hy : ∃ lim : Int, atI [V.int (size + c / 3 % 41), V.int (c / 3 % 401), V.int (c / 3 % 21)] (c % 3) = some (.int lim) ∧ 0 ≤ lim ∧ lim ≤ 400 := by
      have h1 : 0 ≤ c / 3 % 41 := Int.emod_nonneg _ (by decide)
      have h2 : c / 3 % 41 < 41 := Int.emod_lt_of_pos _ (by decide)
      have h3 : 0 ≤ c / 3 % 401 := Int.emod_nonneg _ (by decide)
      have h4 : c / 3 % 401 < 401 := Int.emod_lt_of_pos _ (by decide)
      have h5 : 0 ≤ c / 3 % 21 := Int.emod_nonneg _ (by decide)
      have h6 : c / 3 % 21 < 21 := Int.emod_lt_of_pos _ (by decide)
      have : c % 3 = 0 ∨ c % 3 = 1 ∨ c % 3 = 2 := by omega
      rcases this with e | e | e <;> rw [e]
      · exact ⟨_, rfl, by omega, by omega⟩
      · exact ⟨_, rfl, by omega, by omega⟩
      · exact ⟨_, rfl, by omega, by omega⟩
    obtain ⟨lim, ay, lim1, lim2⟩ := hy
    refine ⟨_, rfl, _, rfl, _, _, rfl, rfl, ⟨by decide, by decide⟩, _, _, rfl, rfl, (by show (0 : Int) < 41; decide), _, _, rfl, rfl, ?_⟩
    refine ⟨_, rfl, _, _, rfl, rfl, ⟨by decide, by decide⟩, _, _, rfl, rfl, (by show (0 : Int) < 401; decide), ?_⟩
    refine ⟨_, rfl, _, _, rfl, rfl, ⟨by decide, by decide⟩, _, _, rfl, rfl, (by show (0 : Int) < 21; decide), (by show 3 ≤ sizeLine; decide), fun l3 f3 => ?_⟩
    refine ⟨_, rfl, _, _, rfl, rfl, (by show (0 : Int) < 3; decide), l3, _, _, _, rfl, rfl, SqL.of upd_same, ay, ?_⟩
    have s3 : Same H2 (upd H2 l3 (.lst [V.int (size + c / 3 % 41), V.int (c / 3 % 401), V.int (c / 3 % 21)])) := Same.upd f3
    dsimp only
    revert s3
    generalize upd H2 l3 (.lst [V.int (size + c / 3 % 41), V.int (c / 3 % 401), V.int (c / 3 % 21)]) = H3
    intro s3
    have ok := sh_ok ns (lim := lim) lim1 lim2
    have hsp3 := s3 _ _ hsp
    have hh3 := s3 _ _ hh2
    have okh := ok.h
    have n1 := ok.n1
    have n2 := ok.n2
    clear ay
    generalize shH ns = hs at *
    generalize shN ns = n at *
    generalize shR ns = r at *
    -- the beam
    refine ⟨_, rfl, _, rfl, _, rfl, h, _, rfl, .inl (SqL.of hh3), fun l6 f6 => ?_⟩
    have s6 : Same H3 (upd H3 l6 (.lst (hs.map V.int))) := Same.upd f6
    refine ⟨_, rfl, fun b dx fb fdx ndx => ?_⟩
    have s7 : Same H3 (upd (upd (upd H3 l6 (.lst (hs.map V.int))) dx (.own b)) b (.ins t.c_Beam dx [])) := (s6.updT fdx).updT (by rw [upd_ne (Ne.symm ndx)]; exact fb)
    have e3b : l6 ≠ b := fun e => by rw [← e, upd_same] at fb; cases fb
    have e3d : l6 ≠ dx := fun e => by rw [← e, upd_same] at fdx; cases fdx
    refine ⟨b, dx, l6, n, r, lim, hs, rfl, upd_same, .inl (SqL.of (by rw [upd_ne e3b, upd_ne e3d, upd_same])), ok, fun H8 B8 s8 => ⟨rfl, ?_⟩⟩
    have fb2 : H3 b = none := s6.free fb
    have s38 : Same H3 H8 := fun c o e => s8 c o (s7 c o e) (ne_of_none e fb2)
    have hsp8 := s38 _ _ hsp3
    have hh8 := s38 _ _ hh3
    have hS8 := (s02.trans (s3.trans s38)).seq hS
    clear s7 e3b e3d s6 f6 s8 fb fdx ndx fb2
    -- the cells
    refine ⟨_, rfl, a, ns, 2, rfl, hS8, _, _, rfl, rfl, (by show 1 ≤ sizeLine; decide), fun l8 f8 => ?_⟩
    have x8 := Same.upd (o := .lst [.int (ns.getD 2 0 + 5)]) f8
    refine ⟨_, rfl, _, rfl, _, rfl, a, _, rfl, x8.seq hS8, fun l9 f9 => ?_⟩
    obtain ⟨zs, ez, lz⟩ := cut_ints ns (some 6) (some 62)
    have x9 := Same.upd (o := .lst (cutV (ns.map V.int) (some 6) (some 62))) f9
    refine ⟨l8, l9, _, _, rfl, rfl, x9 _ _ upd_same, upd_same, Nat.le_of_lt (small1000 (by rw [ez, List.length_map]; show 1 + _ ≤ _; omega)), fun ce fce => ?_⟩
    rw [ez]
    rw [ez] at x9 fce
    dsimp only at x9 fce f9 ⊢
    have x10 := (x8.trans x9).updT (o := .lst ([.int (ns.getD 2 0 + 5)] ++ zs.map V.int)) fce
    have hce : (upd (upd (upd H8 l8 (.lst [.int (ns.getD 2 0 + 5)])) l9 (.lst (zs.map V.int))) ce (.lst ([.int (ns.getD 2 0 + 5)] ++ zs.map V.int))) ce = some (.lst (((ns.getD 2 0 + 5) :: zs).map V.int)) := upd_same
    revert x10 hce
    generalize upd (upd (upd H8 l8 (.lst [.int (ns.getD 2 0 + 5)])) l9 (.lst (zs.map V.int))) ce (.lst ([.int (ns.getD 2 0 + 5)] ++ zs.map V.int)) = H9
    intro x10 hce
    clear x9 fce f9 x8 f8
    have lz2 : ((ns.getD 2 0 + 5) :: zs).length ≤ 64 := by rw [List.length_cons]; omega
    revert lz2; revert hce
    generalize (ns.getD 2 0 + 5) :: zs = ys
    intro hce lz2
    have hsp9 := x10 _ _ hsp8
    have hh9 := x10 _ _ hh8
    have B9 := B8.same x10
    refine ⟨_, rfl, ce, _, rfl, .inl (SqL.of hce), ?_⟩
    rw [List.length_map]
    refine ⟨_, rfl, by omega, by omega, for_range (n := ((ys.length : Nat) : Int).toNat) (fun i σ H' => ∃ v1 v2, σ = [some (.ref a), some (.ref sh), some (.int n), some (.int r), some (.ref h), some (.ref sp), some (.int c), some (.int size), some (.int lim), some (.ref b), some (.ref ce), v1, v2] ∧ Same H9 H') ⟨none, none, rfl, Same.refl _⟩ ?_ ?_⟩
    · rintro i σ H' hi ⟨v1, v2, rfl, s11⟩
      have hiy : i < ys.length := by simpa using hi
      have e0 : (0 : Int) + (i : Int) = (i : Int) := by omega
      have ay : atI (ys.map V.int) (0 + (i : Int)) = some (.int (ys.getD i 0)) := by rw [e0]; exact atI_intD (by omega) (by omega)
      have m1 : 0 ≤ (0 + (i : Int)) % 2 := Int.emod_nonneg _ (by decide)
      have m2 : (0 + (i : Int)) % 2 < 2 := Int.emod_lt_of_pos _ (by decide)
      refine ⟨_, rfl, _, rfl, ce, _, _, _, rfl, rfl, SqL.of (s11 _ _ hce), ay, _, rfl, _, _, rfl, rfl, (by show (0 : Int) < 2; decide), _, _, rfl, rfl, .inr ⟨by decide, by decide⟩, _, _, rfl, rfl, _, _, rfl, rfl, .inr ⟨by show -(2 ^ 64) < 1 + (0 + (i : Int)) % 2 * 48270; omega, by show 1 + (0 + (i : Int)) % 2 * 48270 < 2 ^ 64; omega⟩, _, rfl, _, _, rfl, rfl, _, rfl, _, rfl, _, rfl, h, sp, _, n, hs, xs, rfl, SqL.of (s11 _ _ hh9), SqL.of (s11 _ _ hsp9), ⟨hlx, by omega, n1, n2⟩, fun k s p m H12 s12 _ hm => ?_⟩
      have s912 := s11.trans s12
      refine ⟨_, rfl, _, rfl, _, rfl, _, rfl, _, rfl, (by show 4 ≤ sizeLine; decide), fun l13 f13 => ?_⟩
      have x13 := Same.upd (o := .lst [.int n, .int r, .ref h, .int lim]) f13
      have s913 := s912.trans x13
      refine ⟨_, rfl, _, rfl, b, l13, h, sp, m, n, r, lim, k, s, p, hs, xs, rfl, B9.same s913, V0, upd_same, SqL.of (s913 _ _ hh9), s913 _ _ hsp9, x13 _ _ hm, fun H14 s14 => ⟨_, rfl, iteF ?_⟩⟩
      exact ⟨_, _, rfl, s913.trans s14⟩
    · rintro σ H' ⟨v1, v2, rfl, s11⟩
      exact q H'

end

end Bt

namespace Bt
open PySem L2
theorem ar1 {us : List Value} (h : us.length = 1) : ∃ x0, us = [x0] := by
  match us, h with
  | [a0], _ => exact ⟨a0, rfl⟩
theorem ar2 {us : List Value} (h : us.length = 2) : ∃ x0 x1, us = [x0, x1] := by
  match us, h with
  | [a0, a1], _ => exact ⟨a0, a1, rfl⟩
theorem ar3 {us : List Value} (h : us.length = 3) : ∃ x0 x1 x2, us = [x0, x1, x2] := by
  match us, h with
  | [a0, a1, a2], _ => exact ⟨a0, a1, a2, rfl⟩
theorem ar4 {us : List Value} (h : us.length = 4) : ∃ x0 x1 x2 x3, us = [x0, x1, x2, x3] := by
  match us, h with
  | [a0, a1, a2, a3], _ => exact ⟨a0, a1, a2, a3, rfl⟩
theorem ar5 {us : List Value} (h : us.length = 5) : ∃ x0 x1 x2 x3 x4, us = [x0, x1, x2, x3, x4] := by
  match us, h with
  | [a0, a1, a2, a3, a4], _ => exact ⟨a0, a1, a2, a3, a4, rfl⟩
theorem all_mk {l : PySem.W.OpenLaw} {w : World} {K : PySem.W.Frag} {h : Heap} {mg : Str → Option Value} {fa : Addr} (X : K.In h) (G : h.Ns mainGlobals mg) (hfa : mg "law" = some (.ref fa))
    {oc_BeamError_init kV_BeamError_init dc_BeamError_init pm_BeamError_init cd_BeamError_init ct_BeamError_init : Value} {od_BeamError_init an_BeamError_init : Option Addr} {sl_BeamError_init : Array (Option Value)} {f_BeamError_init : Addr}
    {T_BeamError_init : Addr} {tc_BeamError_init : Value} {td_BeamError_init : Option Addr} {tn_BeamError_init : Nat} {ts_BeamError_init : Array (Option Value)} {e0_BeamError_init e1_BeamError_init : Value}
    {oc_NoWeight_init kV_NoWeight_init dc_NoWeight_init pm_NoWeight_init cd_NoWeight_init ct_NoWeight_init : Value} {od_NoWeight_init an_NoWeight_init : Option Addr} {sl_NoWeight_init : Array (Option Value)} {f_NoWeight_init : Addr}
    {T_NoWeight_init : Addr} {tc_NoWeight_init : Value} {td_NoWeight_init : Option Addr} {tn_NoWeight_init : Nat} {ts_NoWeight_init : Array (Option Value)} {e0_NoWeight_init : Value}
    {oc_NoPlace_init kV_NoPlace_init dc_NoPlace_init pm_NoPlace_init cd_NoPlace_init ct_NoPlace_init : Value} {od_NoPlace_init an_NoPlace_init : Option Addr} {sl_NoPlace_init : Array (Option Value)} {f_NoPlace_init : Addr}
    {T_NoPlace_init : Addr} {tc_NoPlace_init : Value} {td_NoPlace_init : Option Addr} {tn_NoPlace_init : Nat} {ts_NoPlace_init : Array (Option Value)} {e0_NoPlace_init : Value}
    {oc_SamePlace_init kV_SamePlace_init dc_SamePlace_init pm_SamePlace_init cd_SamePlace_init ct_SamePlace_init : Value} {od_SamePlace_init an_SamePlace_init : Option Addr} {sl_SamePlace_init : Array (Option Value)} {f_SamePlace_init : Addr}
    {T_SamePlace_init : Addr} {tc_SamePlace_init : Value} {td_SamePlace_init : Option Addr} {tn_SamePlace_init : Nat} {ts_SamePlace_init : Array (Option Value)} {e0_SamePlace_init : Value}
    {oc_NoRoom_init kV_NoRoom_init dc_NoRoom_init pm_NoRoom_init cd_NoRoom_init ct_NoRoom_init : Value} {od_NoRoom_init an_NoRoom_init : Option Addr} {sl_NoRoom_init : Array (Option Value)} {f_NoRoom_init : Addr}
    {T_NoRoom_init : Addr} {tc_NoRoom_init : Value} {td_NoRoom_init : Option Addr} {tn_NoRoom_init : Nat} {ts_NoRoom_init : Array (Option Value)} {e0_NoRoom_init : Value}
    {oc_TipsInHand_init kV_TipsInHand_init dc_TipsInHand_init pm_TipsInHand_init cd_TipsInHand_init ct_TipsInHand_init : Value} {od_TipsInHand_init an_TipsInHand_init : Option Addr} {sl_TipsInHand_init : Array (Option Value)} {f_TipsInHand_init : Addr}
    {T_TipsInHand_init : Addr} {tc_TipsInHand_init : Value} {td_TipsInHand_init : Option Addr} {tn_TipsInHand_init : Nat} {ts_TipsInHand_init : Array (Option Value)} {e0_TipsInHand_init : Value}
    {oc_TipsBehind_init kV_TipsBehind_init dc_TipsBehind_init pm_TipsBehind_init cd_TipsBehind_init ct_TipsBehind_init : Value} {od_TipsBehind_init an_TipsBehind_init : Option Addr} {sl_TipsBehind_init : Array (Option Value)} {f_TipsBehind_init : Addr}
    {T_TipsBehind_init : Addr} {tc_TipsBehind_init : Value} {td_TipsBehind_init : Option Addr} {tn_TipsBehind_init : Nat} {ts_TipsBehind_init : Array (Option Value)} {e0_TipsBehind_init : Value}
    {oc_Beam_init kV_Beam_init dc_Beam_init pm_Beam_init cd_Beam_init ct_Beam_init : Value} {od_Beam_init an_Beam_init : Option Addr} {sl_Beam_init : Array (Option Value)} {f_Beam_init : Addr}
    {oc_outside kV_outside dc_outside pm_outside cd_outside ct_outside : Value} {od_outside an_outside : Option Addr} {sl_outside : Array (Option Value)} {f_outside : Addr}
    {oc_check_bounds kV_check_bounds dc_check_bounds pm_check_bounds cd_check_bounds ct_check_bounds : Value} {od_check_bounds an_check_bounds : Option Addr} {sl_check_bounds : Array (Option Value)} {f_check_bounds : Addr}
    {oc_check_hefts kV_check_hefts dc_check_hefts pm_check_hefts cd_check_hefts ct_check_hefts : Value} {od_check_hefts an_check_hefts : Option Addr} {sl_check_hefts : Array (Option Value)} {f_check_hefts : Addr}
    {oc_check_standings kV_check_standings dc_check_standings pm_check_standings cd_check_standings ct_check_standings : Value} {od_check_standings an_check_standings : Option Addr} {sl_check_standings : Array (Option Value)} {f_check_standings : Addr}
    {oc_as_standing kV_as_standing dc_as_standing pm_as_standing cd_as_standing ct_as_standing : Value} {od_as_standing an_as_standing : Option Addr} {sl_as_standing : Array (Option Value)} {f_as_standing : Addr}
    {oc_tilt kV_tilt dc_tilt pm_tilt cd_tilt ct_tilt : Value} {od_tilt an_tilt : Option Addr} {sl_tilt : Array (Option Value)} {f_tilt : Addr}
    {oc_past kV_past dc_past pm_past cd_past ct_past : Value} {od_past an_past : Option Addr} {sl_past : Array (Option Value)} {f_past : Addr}
    {oc_in_hand kV_in_hand dc_in_hand pm_in_hand cd_in_hand ct_in_hand : Value} {od_in_hand an_in_hand : Option Addr} {sl_in_hand : Array (Option Value)} {f_in_hand : Addr}
    {oc_refusal kV_refusal dc_refusal pm_refusal cd_refusal ct_refusal : Value} {od_refusal an_refusal : Option Addr} {sl_refusal : Array (Option Value)} {f_refusal : Addr}
    {oc_moved kV_moved dc_moved pm_moved cd_moved ct_moved : Value} {od_moved an_moved : Option Addr} {sl_moved : Array (Option Value)} {f_moved : Addr}
    {oc_behind kV_behind dc_behind pm_behind cd_behind ct_behind : Value} {od_behind an_behind : Option Addr} {sl_behind : Array (Option Value)} {f_behind : Addr}
    {oc_full kV_full dc_full pm_full cd_full ct_full : Value} {od_full an_full : Option Addr} {sl_full : Array (Option Value)} {f_full : Addr}
    {oc_check_move kV_check_move dc_check_move pm_check_move cd_check_move ct_check_move : Value} {od_check_move an_check_move : Option Addr} {sl_check_move : Array (Option Value)} {f_check_move : Addr}
    {oc_check_weight kV_check_weight dc_check_weight pm_check_weight cd_check_weight ct_check_weight : Value} {od_check_weight an_check_weight : Option Addr} {sl_check_weight : Array (Option Value)} {f_check_weight : Addr}
    {oc_check_put kV_check_put dc_check_put pm_check_put cd_check_put ct_check_put : Value} {od_check_put an_check_put : Option Addr} {sl_check_put : Array (Option Value)} {f_check_put : Addr}
    {oc_check_tilts kV_check_tilts dc_check_tilts pm_check_tilts cd_check_tilts ct_check_tilts : Value} {od_check_tilts an_check_tilts : Option Addr} {sl_check_tilts : Array (Option Value)} {f_check_tilts : Addr}
    {oc_w_at kV_w_at dc_w_at pm_w_at cd_w_at ct_w_at : Value} {od_w_at an_w_at : Option Addr} {sl_w_at : Array (Option Value)} {f_w_at : Addr}
    {oc_w_whole kV_w_whole dc_w_whole pm_w_whole cd_w_whole ct_w_whole : Value} {od_w_whole an_w_whole : Option Addr} {sl_w_whole : Array (Option Value)} {f_w_whole : Addr}
    {oc_w_figs kV_w_figs dc_w_figs pm_w_figs cd_w_figs ct_w_figs : Value} {od_w_figs an_w_figs : Option Addr} {sl_w_figs : Array (Option Value)} {f_w_figs : Addr}
    {oc_w_shape kV_w_shape dc_w_shape pm_w_shape cd_w_shape ct_w_shape : Value} {od_w_shape an_w_shape : Option Addr} {sl_w_shape : Array (Option Value)} {f_w_shape : Addr}
    {oc_w_put kV_w_put dc_w_put pm_w_put cd_w_put ct_w_put : Value} {od_w_put an_w_put : Option Addr} {sl_w_put : Array (Option Value)} {f_w_put : Addr}
    {oc_w_tilt kV_w_tilt dc_w_tilt pm_w_tilt cd_w_tilt ct_w_tilt : Value} {od_w_tilt an_w_tilt : Option Addr} {sl_w_tilt : Array (Option Value)} {f_w_tilt : Addr}
    {oc_w_word kV_w_word dc_w_word pm_w_word cd_w_word ct_w_word : Value} {od_w_word an_w_word : Option Addr} {sl_w_word : Array (Option Value)} {f_w_word : Addr}
    {oc_w_same kV_w_same dc_w_same pm_w_same cd_w_same ct_w_same : Value} {od_w_same an_w_same : Option Addr} {sl_w_same : Array (Option Value)} {f_w_same : Addr}
    {oc_w_move kV_w_move dc_w_move pm_w_move cd_w_move ct_w_move : Value} {od_w_move an_w_move : Option Addr} {sl_w_move : Array (Option Value)} {f_w_move : Addr}
    {oc_w_told kV_w_told dc_w_told pm_w_told cd_w_told ct_w_told : Value} {od_w_told an_w_told : Option Addr} {sl_w_told : Array (Option Value)} {f_w_told : Addr}
    {oc_w_one kV_w_one dc_w_one pm_w_one cd_w_one ct_w_one : Value} {od_w_one an_w_one : Option Addr} {sl_w_one : Array (Option Value)} {f_w_one : Addr}
    {oc_law kV_law dc_law pm_law cd_law ct_law : Value} {od_law an_law : Option Addr} {sl_law : Array (Option Value)} {f_law : Addr}
    {C_Beam : Addr}
    {C_NoWeight : Addr}
    {C_NoPlace : Addr}
    {C_SamePlace : Addr}
    {C_NoRoom : Addr}
    {C_TipsInHand : Addr}
    {C_TipsBehind : Addr}
    {C_BeamError : Addr}
    {nm_NoWeight qn_NoWeight : Str} {N_NoWeight : Addr} {bs_NoWeight bm_NoWeight : List Value} {sn_NoWeight : List Str} {sub_NoWeight : List Value} {ab_NoWeight : Bool} {col_NoWeight : Option Bool} {dd_NoWeight : Option Addr} {k0_NoWeight k1_NoWeight k2_NoWeight k3_NoWeight k5_NoWeight : Option Value}
    {nm_NoPlace qn_NoPlace : Str} {N_NoPlace : Addr} {bs_NoPlace bm_NoPlace : List Value} {sn_NoPlace : List Str} {sub_NoPlace : List Value} {ab_NoPlace : Bool} {col_NoPlace : Option Bool} {dd_NoPlace : Option Addr} {k0_NoPlace k1_NoPlace k2_NoPlace k3_NoPlace k5_NoPlace : Option Value}
    {nm_SamePlace qn_SamePlace : Str} {N_SamePlace : Addr} {bs_SamePlace bm_SamePlace : List Value} {sn_SamePlace : List Str} {sub_SamePlace : List Value} {ab_SamePlace : Bool} {col_SamePlace : Option Bool} {dd_SamePlace : Option Addr} {k0_SamePlace k1_SamePlace k2_SamePlace k3_SamePlace k5_SamePlace : Option Value}
    {nm_NoRoom qn_NoRoom : Str} {N_NoRoom : Addr} {bs_NoRoom bm_NoRoom : List Value} {sn_NoRoom : List Str} {sub_NoRoom : List Value} {ab_NoRoom : Bool} {col_NoRoom : Option Bool} {dd_NoRoom : Option Addr} {k0_NoRoom k1_NoRoom k2_NoRoom k3_NoRoom k5_NoRoom : Option Value}
    {nm_TipsInHand qn_TipsInHand : Str} {N_TipsInHand : Addr} {bs_TipsInHand bm_TipsInHand : List Value} {sn_TipsInHand : List Str} {sub_TipsInHand : List Value} {ab_TipsInHand : Bool} {col_TipsInHand : Option Bool} {dd_TipsInHand : Option Addr} {k0_TipsInHand k1_TipsInHand k2_TipsInHand k3_TipsInHand k5_TipsInHand : Option Value}
    {nm_TipsBehind qn_TipsBehind : Str} {N_TipsBehind : Addr} {bs_TipsBehind bm_TipsBehind : List Value} {sn_TipsBehind : List Str} {sub_TipsBehind : List Value} {ab_TipsBehind : Bool} {col_TipsBehind : Option Bool} {dd_TipsBehind : Option Addr} {k0_TipsBehind k1_TipsBehind k2_TipsBehind k3_TipsBehind k5_TipsBehind : Option Value}
    {cdx_BeamError : ClassData}
    {cdx_NoWeight : ClassData}
    {cdx_NoPlace : ClassData}
    {cdx_SamePlace : ClassData}
    {cdx_NoRoom : ClassData}
    {cdx_TipsInHand : ClassData}
    {cdx_TipsBehind : ClassData}
    {q_MOST_NOTCHES : Tok}
    {q_MOST_ROOM : Tok}
    {q_MOST_LIMIT : Tok}
    {q_MOST_WEIGHTS : Tok}
    {q_MOST_HEFT : Tok}
    {q_MOST_STANDINGS : Tok}
    (a_Beam : PySem.W.nsIn K mainGlobals "Beam" = some (some (.ref C_Beam)))
    (a_NoWeight : PySem.W.nsIn K mainGlobals "NoWeight" = some (some (.ref C_NoWeight)))
    (a_NoPlace : PySem.W.nsIn K mainGlobals "NoPlace" = some (some (.ref C_NoPlace)))
    (a_SamePlace : PySem.W.nsIn K mainGlobals "SamePlace" = some (some (.ref C_SamePlace)))
    (a_NoRoom : PySem.W.nsIn K mainGlobals "NoRoom" = some (some (.ref C_NoRoom)))
    (a_TipsInHand : PySem.W.nsIn K mainGlobals "TipsInHand" = some (some (.ref C_TipsInHand)))
    (a_TipsBehind : PySem.W.nsIn K mainGlobals "TipsBehind" = some (some (.ref C_TipsBehind)))
    (a_BeamError : PySem.W.nsIn K mainGlobals "BeamError" = some (some (.ref C_BeamError)))
    (a_BeamError_init : PySem.W.findIn K (.ref C_BeamError) "__init__" = some (some (.ref f_BeamError_init)))
    (i_BeamError_init : PySem.W.isFn K (.ref f_BeamError_init) = true)
    (l_BeamError_init : K.lookup f_BeamError_init = some ⟨oc_BeamError_init, od_BeamError_init, .func (PySem.W.fnOf "__init__" "BeamError.__init__" (defArgs s_BeamError_init) (defBody s_BeamError_init) (defScope s_BeamError_init) (.ref T_BeamError_init) kV_BeamError_init dc_BeamError_init pm_BeamError_init an_BeamError_init cd_BeamError_init ct_BeamError_init), sl_BeamError_init⟩)
    (c_BeamError_init : PySem.W.codeIn K cd_BeamError_init "BeamError.__init__" = true) (k_BeamError_init : PySem.W.keepIn K (.ref f_BeamError_init) = true)
    (dt_BeamError_init : K.lookup T_BeamError_init = some ⟨tc_BeamError_init, td_BeamError_init, .seq #[e0_BeamError_init, e1_BeamError_init] tn_BeamError_init, ts_BeamError_init⟩)
    (a_NoWeight_init : PySem.W.findIn K (.ref C_NoWeight) "__init__" = some (some (.ref f_NoWeight_init)))
    (i_NoWeight_init : PySem.W.isFn K (.ref f_NoWeight_init) = true)
    (l_NoWeight_init : K.lookup f_NoWeight_init = some ⟨oc_NoWeight_init, od_NoWeight_init, .func (PySem.W.fnOf "__init__" "NoWeight.__init__" (defArgs s_NoWeight_init) (defBody s_NoWeight_init) (defScope s_NoWeight_init) (.ref T_NoWeight_init) kV_NoWeight_init dc_NoWeight_init pm_NoWeight_init an_NoWeight_init cd_NoWeight_init ct_NoWeight_init), sl_NoWeight_init⟩)
    (c_NoWeight_init : PySem.W.codeIn K cd_NoWeight_init "NoWeight.__init__" = true) (k_NoWeight_init : PySem.W.keepIn K (.ref f_NoWeight_init) = true)
    (dt_NoWeight_init : K.lookup T_NoWeight_init = some ⟨tc_NoWeight_init, td_NoWeight_init, .seq #[e0_NoWeight_init] tn_NoWeight_init, ts_NoWeight_init⟩)
    (a_NoPlace_init : PySem.W.findIn K (.ref C_NoPlace) "__init__" = some (some (.ref f_NoPlace_init)))
    (i_NoPlace_init : PySem.W.isFn K (.ref f_NoPlace_init) = true)
    (l_NoPlace_init : K.lookup f_NoPlace_init = some ⟨oc_NoPlace_init, od_NoPlace_init, .func (PySem.W.fnOf "__init__" "NoPlace.__init__" (defArgs s_NoPlace_init) (defBody s_NoPlace_init) (defScope s_NoPlace_init) (.ref T_NoPlace_init) kV_NoPlace_init dc_NoPlace_init pm_NoPlace_init an_NoPlace_init cd_NoPlace_init ct_NoPlace_init), sl_NoPlace_init⟩)
    (c_NoPlace_init : PySem.W.codeIn K cd_NoPlace_init "NoPlace.__init__" = true) (k_NoPlace_init : PySem.W.keepIn K (.ref f_NoPlace_init) = true)
    (dt_NoPlace_init : K.lookup T_NoPlace_init = some ⟨tc_NoPlace_init, td_NoPlace_init, .seq #[e0_NoPlace_init] tn_NoPlace_init, ts_NoPlace_init⟩)
    (a_SamePlace_init : PySem.W.findIn K (.ref C_SamePlace) "__init__" = some (some (.ref f_SamePlace_init)))
    (i_SamePlace_init : PySem.W.isFn K (.ref f_SamePlace_init) = true)
    (l_SamePlace_init : K.lookup f_SamePlace_init = some ⟨oc_SamePlace_init, od_SamePlace_init, .func (PySem.W.fnOf "__init__" "SamePlace.__init__" (defArgs s_SamePlace_init) (defBody s_SamePlace_init) (defScope s_SamePlace_init) (.ref T_SamePlace_init) kV_SamePlace_init dc_SamePlace_init pm_SamePlace_init an_SamePlace_init cd_SamePlace_init ct_SamePlace_init), sl_SamePlace_init⟩)
    (c_SamePlace_init : PySem.W.codeIn K cd_SamePlace_init "SamePlace.__init__" = true) (k_SamePlace_init : PySem.W.keepIn K (.ref f_SamePlace_init) = true)
    (dt_SamePlace_init : K.lookup T_SamePlace_init = some ⟨tc_SamePlace_init, td_SamePlace_init, .seq #[e0_SamePlace_init] tn_SamePlace_init, ts_SamePlace_init⟩)
    (a_NoRoom_init : PySem.W.findIn K (.ref C_NoRoom) "__init__" = some (some (.ref f_NoRoom_init)))
    (i_NoRoom_init : PySem.W.isFn K (.ref f_NoRoom_init) = true)
    (l_NoRoom_init : K.lookup f_NoRoom_init = some ⟨oc_NoRoom_init, od_NoRoom_init, .func (PySem.W.fnOf "__init__" "NoRoom.__init__" (defArgs s_NoRoom_init) (defBody s_NoRoom_init) (defScope s_NoRoom_init) (.ref T_NoRoom_init) kV_NoRoom_init dc_NoRoom_init pm_NoRoom_init an_NoRoom_init cd_NoRoom_init ct_NoRoom_init), sl_NoRoom_init⟩)
    (c_NoRoom_init : PySem.W.codeIn K cd_NoRoom_init "NoRoom.__init__" = true) (k_NoRoom_init : PySem.W.keepIn K (.ref f_NoRoom_init) = true)
    (dt_NoRoom_init : K.lookup T_NoRoom_init = some ⟨tc_NoRoom_init, td_NoRoom_init, .seq #[e0_NoRoom_init] tn_NoRoom_init, ts_NoRoom_init⟩)
    (a_TipsInHand_init : PySem.W.findIn K (.ref C_TipsInHand) "__init__" = some (some (.ref f_TipsInHand_init)))
    (i_TipsInHand_init : PySem.W.isFn K (.ref f_TipsInHand_init) = true)
    (l_TipsInHand_init : K.lookup f_TipsInHand_init = some ⟨oc_TipsInHand_init, od_TipsInHand_init, .func (PySem.W.fnOf "__init__" "TipsInHand.__init__" (defArgs s_TipsInHand_init) (defBody s_TipsInHand_init) (defScope s_TipsInHand_init) (.ref T_TipsInHand_init) kV_TipsInHand_init dc_TipsInHand_init pm_TipsInHand_init an_TipsInHand_init cd_TipsInHand_init ct_TipsInHand_init), sl_TipsInHand_init⟩)
    (c_TipsInHand_init : PySem.W.codeIn K cd_TipsInHand_init "TipsInHand.__init__" = true) (k_TipsInHand_init : PySem.W.keepIn K (.ref f_TipsInHand_init) = true)
    (dt_TipsInHand_init : K.lookup T_TipsInHand_init = some ⟨tc_TipsInHand_init, td_TipsInHand_init, .seq #[e0_TipsInHand_init] tn_TipsInHand_init, ts_TipsInHand_init⟩)
    (a_TipsBehind_init : PySem.W.findIn K (.ref C_TipsBehind) "__init__" = some (some (.ref f_TipsBehind_init)))
    (i_TipsBehind_init : PySem.W.isFn K (.ref f_TipsBehind_init) = true)
    (l_TipsBehind_init : K.lookup f_TipsBehind_init = some ⟨oc_TipsBehind_init, od_TipsBehind_init, .func (PySem.W.fnOf "__init__" "TipsBehind.__init__" (defArgs s_TipsBehind_init) (defBody s_TipsBehind_init) (defScope s_TipsBehind_init) (.ref T_TipsBehind_init) kV_TipsBehind_init dc_TipsBehind_init pm_TipsBehind_init an_TipsBehind_init cd_TipsBehind_init ct_TipsBehind_init), sl_TipsBehind_init⟩)
    (c_TipsBehind_init : PySem.W.codeIn K cd_TipsBehind_init "TipsBehind.__init__" = true) (k_TipsBehind_init : PySem.W.keepIn K (.ref f_TipsBehind_init) = true)
    (dt_TipsBehind_init : K.lookup T_TipsBehind_init = some ⟨tc_TipsBehind_init, td_TipsBehind_init, .seq #[e0_TipsBehind_init] tn_TipsBehind_init, ts_TipsBehind_init⟩)
    (a_Beam_init : PySem.W.findIn K (.ref C_Beam) "__init__" = some (some (.ref f_Beam_init)))
    (i_Beam_init : PySem.W.isFn K (.ref f_Beam_init) = true)
    (l_Beam_init : K.lookup f_Beam_init = some ⟨oc_Beam_init, od_Beam_init, .func (PySem.W.fnOf "__init__" "Beam.__init__" (defArgs s_Beam_init) (defBody s_Beam_init) (defScope s_Beam_init) .none kV_Beam_init dc_Beam_init pm_Beam_init an_Beam_init cd_Beam_init ct_Beam_init), sl_Beam_init⟩)
    (c_Beam_init : PySem.W.codeIn K cd_Beam_init "Beam.__init__" = true) (k_Beam_init : PySem.W.keepIn K (.ref f_Beam_init) = true)
    (a_outside : PySem.W.nsIn K mainGlobals "outside" = some (some (.ref f_outside)))
    (l_outside : K.lookup f_outside = some ⟨oc_outside, od_outside, .func (PySem.W.fnOf "outside" "outside" (defArgs s_outside) (defBody s_outside) (defScope s_outside) .none kV_outside dc_outside pm_outside an_outside cd_outside ct_outside), sl_outside⟩)
    (c_outside : PySem.W.codeIn K cd_outside "outside" = true) (k_outside : PySem.W.keepIn K (.ref f_outside) = true)
    (a_check_bounds : PySem.W.nsIn K mainGlobals "check_bounds" = some (some (.ref f_check_bounds)))
    (l_check_bounds : K.lookup f_check_bounds = some ⟨oc_check_bounds, od_check_bounds, .func (PySem.W.fnOf "check_bounds" "check_bounds" (defArgs s_check_bounds) (defBody s_check_bounds) (defScope s_check_bounds) .none kV_check_bounds dc_check_bounds pm_check_bounds an_check_bounds cd_check_bounds ct_check_bounds), sl_check_bounds⟩)
    (c_check_bounds : PySem.W.codeIn K cd_check_bounds "check_bounds" = true) (k_check_bounds : PySem.W.keepIn K (.ref f_check_bounds) = true)
    (a_check_hefts : PySem.W.nsIn K mainGlobals "check_hefts" = some (some (.ref f_check_hefts)))
    (l_check_hefts : K.lookup f_check_hefts = some ⟨oc_check_hefts, od_check_hefts, .func (PySem.W.fnOf "check_hefts" "check_hefts" (defArgs s_check_hefts) (defBody s_check_hefts) (defScope s_check_hefts) .none kV_check_hefts dc_check_hefts pm_check_hefts an_check_hefts cd_check_hefts ct_check_hefts), sl_check_hefts⟩)
    (c_check_hefts : PySem.W.codeIn K cd_check_hefts "check_hefts" = true) (k_check_hefts : PySem.W.keepIn K (.ref f_check_hefts) = true)
    (a_check_standings : PySem.W.nsIn K mainGlobals "check_standings" = some (some (.ref f_check_standings)))
    (l_check_standings : K.lookup f_check_standings = some ⟨oc_check_standings, od_check_standings, .func (PySem.W.fnOf "check_standings" "check_standings" (defArgs s_check_standings) (defBody s_check_standings) (defScope s_check_standings) .none kV_check_standings dc_check_standings pm_check_standings an_check_standings cd_check_standings ct_check_standings), sl_check_standings⟩)
    (c_check_standings : PySem.W.codeIn K cd_check_standings "check_standings" = true) (k_check_standings : PySem.W.keepIn K (.ref f_check_standings) = true)
    (a_as_standing : PySem.W.nsIn K mainGlobals "as_standing" = some (some (.ref f_as_standing)))
    (l_as_standing : K.lookup f_as_standing = some ⟨oc_as_standing, od_as_standing, .func (PySem.W.fnOf "as_standing" "as_standing" (defArgs s_as_standing) (defBody s_as_standing) (defScope s_as_standing) .none kV_as_standing dc_as_standing pm_as_standing an_as_standing cd_as_standing ct_as_standing), sl_as_standing⟩)
    (c_as_standing : PySem.W.codeIn K cd_as_standing "as_standing" = true) (k_as_standing : PySem.W.keepIn K (.ref f_as_standing) = true)
    (a_tilt : PySem.W.nsIn K mainGlobals "tilt" = some (some (.ref f_tilt)))
    (l_tilt : K.lookup f_tilt = some ⟨oc_tilt, od_tilt, .func (PySem.W.fnOf "tilt" "tilt" (defArgs s_tilt) (defBody s_tilt) (defScope s_tilt) .none kV_tilt dc_tilt pm_tilt an_tilt cd_tilt ct_tilt), sl_tilt⟩)
    (c_tilt : PySem.W.codeIn K cd_tilt "tilt" = true) (k_tilt : PySem.W.keepIn K (.ref f_tilt) = true)
    (a_past : PySem.W.nsIn K mainGlobals "past" = some (some (.ref f_past)))
    (l_past : K.lookup f_past = some ⟨oc_past, od_past, .func (PySem.W.fnOf "past" "past" (defArgs s_past) (defBody s_past) (defScope s_past) .none kV_past dc_past pm_past an_past cd_past ct_past), sl_past⟩)
    (c_past : PySem.W.codeIn K cd_past "past" = true) (k_past : PySem.W.keepIn K (.ref f_past) = true)
    (a_in_hand : PySem.W.nsIn K mainGlobals "in_hand" = some (some (.ref f_in_hand)))
    (l_in_hand : K.lookup f_in_hand = some ⟨oc_in_hand, od_in_hand, .func (PySem.W.fnOf "in_hand" "in_hand" (defArgs s_in_hand) (defBody s_in_hand) (defScope s_in_hand) .none kV_in_hand dc_in_hand pm_in_hand an_in_hand cd_in_hand ct_in_hand), sl_in_hand⟩)
    (c_in_hand : PySem.W.codeIn K cd_in_hand "in_hand" = true) (k_in_hand : PySem.W.keepIn K (.ref f_in_hand) = true)
    (a_refusal : PySem.W.nsIn K mainGlobals "refusal" = some (some (.ref f_refusal)))
    (l_refusal : K.lookup f_refusal = some ⟨oc_refusal, od_refusal, .func (PySem.W.fnOf "refusal" "refusal" (defArgs s_refusal) (defBody s_refusal) (defScope s_refusal) .none kV_refusal dc_refusal pm_refusal an_refusal cd_refusal ct_refusal), sl_refusal⟩)
    (c_refusal : PySem.W.codeIn K cd_refusal "refusal" = true) (k_refusal : PySem.W.keepIn K (.ref f_refusal) = true)
    (a_moved : PySem.W.nsIn K mainGlobals "moved" = some (some (.ref f_moved)))
    (l_moved : K.lookup f_moved = some ⟨oc_moved, od_moved, .func (PySem.W.fnOf "moved" "moved" (defArgs s_moved) (defBody s_moved) (defScope s_moved) .none kV_moved dc_moved pm_moved an_moved cd_moved ct_moved), sl_moved⟩)
    (c_moved : PySem.W.codeIn K cd_moved "moved" = true) (k_moved : PySem.W.keepIn K (.ref f_moved) = true)
    (a_behind : PySem.W.nsIn K mainGlobals "behind" = some (some (.ref f_behind)))
    (l_behind : K.lookup f_behind = some ⟨oc_behind, od_behind, .func (PySem.W.fnOf "behind" "behind" (defArgs s_behind) (defBody s_behind) (defScope s_behind) .none kV_behind dc_behind pm_behind an_behind cd_behind ct_behind), sl_behind⟩)
    (c_behind : PySem.W.codeIn K cd_behind "behind" = true) (k_behind : PySem.W.keepIn K (.ref f_behind) = true)
    (a_full : PySem.W.nsIn K mainGlobals "full" = some (some (.ref f_full)))
    (l_full : K.lookup f_full = some ⟨oc_full, od_full, .func (PySem.W.fnOf "full" "full" (defArgs s_full) (defBody s_full) (defScope s_full) .none kV_full dc_full pm_full an_full cd_full ct_full), sl_full⟩)
    (c_full : PySem.W.codeIn K cd_full "full" = true) (k_full : PySem.W.keepIn K (.ref f_full) = true)
    (a_check_move : PySem.W.nsIn K mainGlobals "check_move" = some (some (.ref f_check_move)))
    (l_check_move : K.lookup f_check_move = some ⟨oc_check_move, od_check_move, .func (PySem.W.fnOf "check_move" "check_move" (defArgs s_check_move) (defBody s_check_move) (defScope s_check_move) .none kV_check_move dc_check_move pm_check_move an_check_move cd_check_move ct_check_move), sl_check_move⟩)
    (c_check_move : PySem.W.codeIn K cd_check_move "check_move" = true) (k_check_move : PySem.W.keepIn K (.ref f_check_move) = true)
    (a_check_weight : PySem.W.nsIn K mainGlobals "check_weight" = some (some (.ref f_check_weight)))
    (l_check_weight : K.lookup f_check_weight = some ⟨oc_check_weight, od_check_weight, .func (PySem.W.fnOf "check_weight" "check_weight" (defArgs s_check_weight) (defBody s_check_weight) (defScope s_check_weight) .none kV_check_weight dc_check_weight pm_check_weight an_check_weight cd_check_weight ct_check_weight), sl_check_weight⟩)
    (c_check_weight : PySem.W.codeIn K cd_check_weight "check_weight" = true) (k_check_weight : PySem.W.keepIn K (.ref f_check_weight) = true)
    (a_check_put : PySem.W.nsIn K mainGlobals "check_put" = some (some (.ref f_check_put)))
    (l_check_put : K.lookup f_check_put = some ⟨oc_check_put, od_check_put, .func (PySem.W.fnOf "check_put" "check_put" (defArgs s_check_put) (defBody s_check_put) (defScope s_check_put) .none kV_check_put dc_check_put pm_check_put an_check_put cd_check_put ct_check_put), sl_check_put⟩)
    (c_check_put : PySem.W.codeIn K cd_check_put "check_put" = true) (k_check_put : PySem.W.keepIn K (.ref f_check_put) = true)
    (a_check_tilts : PySem.W.nsIn K mainGlobals "check_tilts" = some (some (.ref f_check_tilts)))
    (l_check_tilts : K.lookup f_check_tilts = some ⟨oc_check_tilts, od_check_tilts, .func (PySem.W.fnOf "check_tilts" "check_tilts" (defArgs s_check_tilts) (defBody s_check_tilts) (defScope s_check_tilts) .none kV_check_tilts dc_check_tilts pm_check_tilts an_check_tilts cd_check_tilts ct_check_tilts), sl_check_tilts⟩)
    (c_check_tilts : PySem.W.codeIn K cd_check_tilts "check_tilts" = true) (k_check_tilts : PySem.W.keepIn K (.ref f_check_tilts) = true)
    (a_w_at : PySem.W.nsIn K mainGlobals "_law_at" = some (some (.ref f_w_at)))
    (l_w_at : K.lookup f_w_at = some ⟨oc_w_at, od_w_at, .func (PySem.W.fnOf "_law_at" "_law_at" (defArgs s_w_at) (defBody s_w_at) (defScope s_w_at) .none kV_w_at dc_w_at pm_w_at an_w_at cd_w_at ct_w_at), sl_w_at⟩)
    (c_w_at : PySem.W.codeIn K cd_w_at "_law_at" = true) (k_w_at : PySem.W.keepIn K (.ref f_w_at) = true)
    (a_w_whole : PySem.W.nsIn K mainGlobals "_law_whole" = some (some (.ref f_w_whole)))
    (l_w_whole : K.lookup f_w_whole = some ⟨oc_w_whole, od_w_whole, .func (PySem.W.fnOf "_law_whole" "_law_whole" (defArgs s_w_whole) (defBody s_w_whole) (defScope s_w_whole) .none kV_w_whole dc_w_whole pm_w_whole an_w_whole cd_w_whole ct_w_whole), sl_w_whole⟩)
    (c_w_whole : PySem.W.codeIn K cd_w_whole "_law_whole" = true) (k_w_whole : PySem.W.keepIn K (.ref f_w_whole) = true)
    (a_w_figs : PySem.W.nsIn K mainGlobals "_law_figs" = some (some (.ref f_w_figs)))
    (l_w_figs : K.lookup f_w_figs = some ⟨oc_w_figs, od_w_figs, .func (PySem.W.fnOf "_law_figs" "_law_figs" (defArgs s_w_figs) (defBody s_w_figs) (defScope s_w_figs) .none kV_w_figs dc_w_figs pm_w_figs an_w_figs cd_w_figs ct_w_figs), sl_w_figs⟩)
    (c_w_figs : PySem.W.codeIn K cd_w_figs "_law_figs" = true) (k_w_figs : PySem.W.keepIn K (.ref f_w_figs) = true)
    (a_w_shape : PySem.W.nsIn K mainGlobals "_law_shape" = some (some (.ref f_w_shape)))
    (l_w_shape : K.lookup f_w_shape = some ⟨oc_w_shape, od_w_shape, .func (PySem.W.fnOf "_law_shape" "_law_shape" (defArgs s_w_shape) (defBody s_w_shape) (defScope s_w_shape) .none kV_w_shape dc_w_shape pm_w_shape an_w_shape cd_w_shape ct_w_shape), sl_w_shape⟩)
    (c_w_shape : PySem.W.codeIn K cd_w_shape "_law_shape" = true) (k_w_shape : PySem.W.keepIn K (.ref f_w_shape) = true)
    (a_w_put : PySem.W.nsIn K mainGlobals "_law_put" = some (some (.ref f_w_put)))
    (l_w_put : K.lookup f_w_put = some ⟨oc_w_put, od_w_put, .func (PySem.W.fnOf "_law_put" "_law_put" (defArgs s_w_put) (defBody s_w_put) (defScope s_w_put) .none kV_w_put dc_w_put pm_w_put an_w_put cd_w_put ct_w_put), sl_w_put⟩)
    (c_w_put : PySem.W.codeIn K cd_w_put "_law_put" = true) (k_w_put : PySem.W.keepIn K (.ref f_w_put) = true)
    (a_w_tilt : PySem.W.nsIn K mainGlobals "_law_tilt" = some (some (.ref f_w_tilt)))
    (l_w_tilt : K.lookup f_w_tilt = some ⟨oc_w_tilt, od_w_tilt, .func (PySem.W.fnOf "_law_tilt" "_law_tilt" (defArgs s_w_tilt) (defBody s_w_tilt) (defScope s_w_tilt) .none kV_w_tilt dc_w_tilt pm_w_tilt an_w_tilt cd_w_tilt ct_w_tilt), sl_w_tilt⟩)
    (c_w_tilt : PySem.W.codeIn K cd_w_tilt "_law_tilt" = true) (k_w_tilt : PySem.W.keepIn K (.ref f_w_tilt) = true)
    (a_w_word : PySem.W.nsIn K mainGlobals "_law_word" = some (some (.ref f_w_word)))
    (l_w_word : K.lookup f_w_word = some ⟨oc_w_word, od_w_word, .func (PySem.W.fnOf "_law_word" "_law_word" (defArgs s_w_word) (defBody s_w_word) (defScope s_w_word) .none kV_w_word dc_w_word pm_w_word an_w_word cd_w_word ct_w_word), sl_w_word⟩)
    (c_w_word : PySem.W.codeIn K cd_w_word "_law_word" = true) (k_w_word : PySem.W.keepIn K (.ref f_w_word) = true)
    (a_w_same : PySem.W.nsIn K mainGlobals "_law_same" = some (some (.ref f_w_same)))
    (l_w_same : K.lookup f_w_same = some ⟨oc_w_same, od_w_same, .func (PySem.W.fnOf "_law_same" "_law_same" (defArgs s_w_same) (defBody s_w_same) (defScope s_w_same) .none kV_w_same dc_w_same pm_w_same an_w_same cd_w_same ct_w_same), sl_w_same⟩)
    (c_w_same : PySem.W.codeIn K cd_w_same "_law_same" = true) (k_w_same : PySem.W.keepIn K (.ref f_w_same) = true)
    (a_w_move : PySem.W.nsIn K mainGlobals "_law_move" = some (some (.ref f_w_move)))
    (l_w_move : K.lookup f_w_move = some ⟨oc_w_move, od_w_move, .func (PySem.W.fnOf "_law_move" "_law_move" (defArgs s_w_move) (defBody s_w_move) (defScope s_w_move) .none kV_w_move dc_w_move pm_w_move an_w_move cd_w_move ct_w_move), sl_w_move⟩)
    (c_w_move : PySem.W.codeIn K cd_w_move "_law_move" = true) (k_w_move : PySem.W.keepIn K (.ref f_w_move) = true)
    (a_w_told : PySem.W.nsIn K mainGlobals "_law_told" = some (some (.ref f_w_told)))
    (l_w_told : K.lookup f_w_told = some ⟨oc_w_told, od_w_told, .func (PySem.W.fnOf "_law_told" "_law_told" (defArgs s_w_told) (defBody s_w_told) (defScope s_w_told) .none kV_w_told dc_w_told pm_w_told an_w_told cd_w_told ct_w_told), sl_w_told⟩)
    (c_w_told : PySem.W.codeIn K cd_w_told "_law_told" = true) (k_w_told : PySem.W.keepIn K (.ref f_w_told) = true)
    (a_w_one : PySem.W.nsIn K mainGlobals "_law_one" = some (some (.ref f_w_one)))
    (l_w_one : K.lookup f_w_one = some ⟨oc_w_one, od_w_one, .func (PySem.W.fnOf "_law_one" "_law_one" (defArgs s_w_one) (defBody s_w_one) (defScope s_w_one) .none kV_w_one dc_w_one pm_w_one an_w_one cd_w_one ct_w_one), sl_w_one⟩)
    (c_w_one : PySem.W.codeIn K cd_w_one "_law_one" = true) (k_w_one : PySem.W.keepIn K (.ref f_w_one) = true)
    (a_law : PySem.W.nsIn K mainGlobals "law" = some (some (.ref f_law)))
    (l_law : K.lookup f_law = some ⟨oc_law, od_law, .func (PySem.W.fnOf "law" "law" (defArgs s_law) (defBody s_law) (defScope s_law) .none kV_law dc_law pm_law an_law cd_law ct_law), sl_law⟩)
    (c_law : PySem.W.codeIn K cd_law "law" = true) (k_law : PySem.W.keepIn K (.ref f_law) = true)
    (pg_Beam : PySem.W.plainGet K C_Beam Str.empty = true) (hd_Beam : PySem.W.hasDictIn K C_Beam = true) (po_Beam : PySem.W.plainOver K C_Beam = true) (sa_Beam : PySem.W.findIn K (.ref C_Beam) "__setattr__" = some (some (.builtin "object.__setattr__"))) (mk_Beam : PySem.W.makesIn K C_Beam = true) (kc_Beam : PySem.W.keepIn K (.ref C_Beam) = true)
    (na_Beam_notches : PySem.W.findIn K (.ref C_Beam) "notches" = some none)
    (na_Beam_room : PySem.W.findIn K (.ref C_Beam) "room" = some none)
    (na_Beam_hefts : PySem.W.findIn K (.ref C_Beam) "hefts" = some none)
    (na_Beam_limit : PySem.W.findIn K (.ref C_Beam) "limit" = some none)
    (ob_NoWeight : K.lookup C_NoWeight = some (excClassObj nm_NoWeight qn_NoWeight C_NoWeight N_NoWeight bs_NoWeight bm_NoWeight true sn_NoWeight sub_NoWeight ab_NoWeight col_NoWeight dd_NoWeight k0_NoWeight k1_NoWeight k2_NoWeight k3_NoWeight k5_NoWeight "ValueError.__new__")) (mv_NoWeight : MroV bm_NoWeight) (sa_NoWeight : PySem.W.findIn K (.ref C_NoWeight) "__setattr__" = some (some (.builtin "object.__setattr__"))) (kc_NoWeight : PySem.W.keepIn K (.ref C_NoWeight) = true)
    (ob_NoPlace : K.lookup C_NoPlace = some (excClassObj nm_NoPlace qn_NoPlace C_NoPlace N_NoPlace bs_NoPlace bm_NoPlace true sn_NoPlace sub_NoPlace ab_NoPlace col_NoPlace dd_NoPlace k0_NoPlace k1_NoPlace k2_NoPlace k3_NoPlace k5_NoPlace "ValueError.__new__")) (mv_NoPlace : MroV bm_NoPlace) (sa_NoPlace : PySem.W.findIn K (.ref C_NoPlace) "__setattr__" = some (some (.builtin "object.__setattr__"))) (kc_NoPlace : PySem.W.keepIn K (.ref C_NoPlace) = true)
    (ob_SamePlace : K.lookup C_SamePlace = some (excClassObj nm_SamePlace qn_SamePlace C_SamePlace N_SamePlace bs_SamePlace bm_SamePlace true sn_SamePlace sub_SamePlace ab_SamePlace col_SamePlace dd_SamePlace k0_SamePlace k1_SamePlace k2_SamePlace k3_SamePlace k5_SamePlace "ValueError.__new__")) (mv_SamePlace : MroV bm_SamePlace) (sa_SamePlace : PySem.W.findIn K (.ref C_SamePlace) "__setattr__" = some (some (.builtin "object.__setattr__"))) (kc_SamePlace : PySem.W.keepIn K (.ref C_SamePlace) = true)
    (ob_NoRoom : K.lookup C_NoRoom = some (excClassObj nm_NoRoom qn_NoRoom C_NoRoom N_NoRoom bs_NoRoom bm_NoRoom true sn_NoRoom sub_NoRoom ab_NoRoom col_NoRoom dd_NoRoom k0_NoRoom k1_NoRoom k2_NoRoom k3_NoRoom k5_NoRoom "ValueError.__new__")) (mv_NoRoom : MroV bm_NoRoom) (sa_NoRoom : PySem.W.findIn K (.ref C_NoRoom) "__setattr__" = some (some (.builtin "object.__setattr__"))) (kc_NoRoom : PySem.W.keepIn K (.ref C_NoRoom) = true)
    (ob_TipsInHand : K.lookup C_TipsInHand = some (excClassObj nm_TipsInHand qn_TipsInHand C_TipsInHand N_TipsInHand bs_TipsInHand bm_TipsInHand true sn_TipsInHand sub_TipsInHand ab_TipsInHand col_TipsInHand dd_TipsInHand k0_TipsInHand k1_TipsInHand k2_TipsInHand k3_TipsInHand k5_TipsInHand "ValueError.__new__")) (mv_TipsInHand : MroV bm_TipsInHand) (sa_TipsInHand : PySem.W.findIn K (.ref C_TipsInHand) "__setattr__" = some (some (.builtin "object.__setattr__"))) (kc_TipsInHand : PySem.W.keepIn K (.ref C_TipsInHand) = true)
    (ob_TipsBehind : K.lookup C_TipsBehind = some (excClassObj nm_TipsBehind qn_TipsBehind C_TipsBehind N_TipsBehind bs_TipsBehind bm_TipsBehind true sn_TipsBehind sub_TipsBehind ab_TipsBehind col_TipsBehind dd_TipsBehind k0_TipsBehind k1_TipsBehind k2_TipsBehind k3_TipsBehind k5_TipsBehind "ValueError.__new__")) (mv_TipsBehind : MroV bm_TipsBehind) (sa_TipsBehind : PySem.W.findIn K (.ref C_TipsBehind) "__setattr__" = some (some (.builtin "object.__setattr__"))) (kc_TipsBehind : PySem.W.keepIn K (.ref C_TipsBehind) = true)
    (na_NoWeight_reason : PySem.W.findIn K (.ref C_NoWeight) "reason" = some none)
    (na_NoWeight_word : PySem.W.findIn K (.ref C_NoWeight) "word" = some none)
    (na_NoPlace_reason : PySem.W.findIn K (.ref C_NoPlace) "reason" = some none)
    (na_NoPlace_word : PySem.W.findIn K (.ref C_NoPlace) "word" = some none)
    (na_SamePlace_reason : PySem.W.findIn K (.ref C_SamePlace) "reason" = some none)
    (na_SamePlace_word : PySem.W.findIn K (.ref C_SamePlace) "word" = some none)
    (na_NoRoom_reason : PySem.W.findIn K (.ref C_NoRoom) "reason" = some none)
    (na_NoRoom_word : PySem.W.findIn K (.ref C_NoRoom) "word" = some none)
    (na_TipsInHand_reason : PySem.W.findIn K (.ref C_TipsInHand) "reason" = some none)
    (na_TipsInHand_word : PySem.W.findIn K (.ref C_TipsInHand) "word" = some none)
    (na_TipsBehind_reason : PySem.W.findIn K (.ref C_TipsBehind) "reason" = some none)
    (na_TipsBehind_word : PySem.W.findIn K (.ref C_TipsBehind) "word" = some none)
    (xw1 : PySem.W.specialIn K (.builtin "object.__class__") "__get__" = some (some (.builtin "getset_descriptor.__get__")))
    (xw2 : PySem.W.takesIn K (.builtin "object.__class__") = some true)
    (cx_BeamError : PySem.W.clsIn K C_BeamError = some cdx_BeamError) (ty_BeamError : PySem.W.typeIn K (.ref C_BeamError) = some (.type "type"))
    (cx_NoWeight : PySem.W.clsIn K C_NoWeight = some cdx_NoWeight) (ty_NoWeight : PySem.W.typeIn K (.ref C_NoWeight) = some (.type "type"))
    (cx_NoPlace : PySem.W.clsIn K C_NoPlace = some cdx_NoPlace) (ty_NoPlace : PySem.W.typeIn K (.ref C_NoPlace) = some (.type "type"))
    (cx_SamePlace : PySem.W.clsIn K C_SamePlace = some cdx_SamePlace) (ty_SamePlace : PySem.W.typeIn K (.ref C_SamePlace) = some (.type "type"))
    (cx_NoRoom : PySem.W.clsIn K C_NoRoom = some cdx_NoRoom) (ty_NoRoom : PySem.W.typeIn K (.ref C_NoRoom) = some (.type "type"))
    (cx_TipsInHand : PySem.W.clsIn K C_TipsInHand = some cdx_TipsInHand) (ty_TipsInHand : PySem.W.typeIn K (.ref C_TipsInHand) = some (.type "type"))
    (cx_TipsBehind : PySem.W.clsIn K C_TipsBehind = some cdx_TipsBehind) (ty_TipsBehind : PySem.W.typeIn K (.ref C_TipsBehind) = some (.type "type"))
    (be_BeamError : PySem.W.subIn K (.ref C_BeamError) (.type "BaseException") = some true)
    (xp_NoWeight : PySem.W.findIn K (.ref C_NoWeight) "__getattribute__" = some (some (.builtin "BaseException.__getattribute__"))) (xq_NoWeight : PySem.W.findIn K (.ref C_NoWeight) "__getattr__" = some none) (xr_NoWeight : PySem.W.mroIn K C_NoWeight (.type "BaseException") = some true) (xh_NoWeight : PySem.W.hasDictIn K C_NoWeight = true) (xk_NoWeight : PySem.W.findIn K (.ref C_NoWeight) "__class__" = some (some (.builtin "object.__class__"))) (xo_NoWeight : PySem.W.mroIn K C_NoWeight (.type "object") = some true)
    (sb_NoWeight_BeamError : PySem.W.subIn K (.ref C_NoWeight) (.ref C_BeamError) = some true)
    (ne_NoWeight_NoPlace : (Value.ref C_NoWeight == Value.ref C_NoPlace) = false) (si_NoWeight_NoPlace : PySem.W.subIn K (.ref C_NoWeight) (.ref C_NoPlace) = some false)
    (ne_NoWeight_SamePlace : (Value.ref C_NoWeight == Value.ref C_SamePlace) = false) (si_NoWeight_SamePlace : PySem.W.subIn K (.ref C_NoWeight) (.ref C_SamePlace) = some false)
    (ne_NoWeight_NoRoom : (Value.ref C_NoWeight == Value.ref C_NoRoom) = false) (si_NoWeight_NoRoom : PySem.W.subIn K (.ref C_NoWeight) (.ref C_NoRoom) = some false)
    (ne_NoWeight_TipsInHand : (Value.ref C_NoWeight == Value.ref C_TipsInHand) = false) (si_NoWeight_TipsInHand : PySem.W.subIn K (.ref C_NoWeight) (.ref C_TipsInHand) = some false)
    (ne_NoWeight_TipsBehind : (Value.ref C_NoWeight == Value.ref C_TipsBehind) = false) (si_NoWeight_TipsBehind : PySem.W.subIn K (.ref C_NoWeight) (.ref C_TipsBehind) = some false)
    (st_NoWeight_ValueError : PySem.W.subIn K (.ref C_NoWeight) (.type "ValueError") = some true)
    (xp_NoPlace : PySem.W.findIn K (.ref C_NoPlace) "__getattribute__" = some (some (.builtin "BaseException.__getattribute__"))) (xq_NoPlace : PySem.W.findIn K (.ref C_NoPlace) "__getattr__" = some none) (xr_NoPlace : PySem.W.mroIn K C_NoPlace (.type "BaseException") = some true) (xh_NoPlace : PySem.W.hasDictIn K C_NoPlace = true) (xk_NoPlace : PySem.W.findIn K (.ref C_NoPlace) "__class__" = some (some (.builtin "object.__class__"))) (xo_NoPlace : PySem.W.mroIn K C_NoPlace (.type "object") = some true)
    (sb_NoPlace_BeamError : PySem.W.subIn K (.ref C_NoPlace) (.ref C_BeamError) = some true)
    (ne_NoPlace_NoWeight : (Value.ref C_NoPlace == Value.ref C_NoWeight) = false) (si_NoPlace_NoWeight : PySem.W.subIn K (.ref C_NoPlace) (.ref C_NoWeight) = some false)
    (ne_NoPlace_SamePlace : (Value.ref C_NoPlace == Value.ref C_SamePlace) = false) (si_NoPlace_SamePlace : PySem.W.subIn K (.ref C_NoPlace) (.ref C_SamePlace) = some false)
    (ne_NoPlace_NoRoom : (Value.ref C_NoPlace == Value.ref C_NoRoom) = false) (si_NoPlace_NoRoom : PySem.W.subIn K (.ref C_NoPlace) (.ref C_NoRoom) = some false)
    (ne_NoPlace_TipsInHand : (Value.ref C_NoPlace == Value.ref C_TipsInHand) = false) (si_NoPlace_TipsInHand : PySem.W.subIn K (.ref C_NoPlace) (.ref C_TipsInHand) = some false)
    (ne_NoPlace_TipsBehind : (Value.ref C_NoPlace == Value.ref C_TipsBehind) = false) (si_NoPlace_TipsBehind : PySem.W.subIn K (.ref C_NoPlace) (.ref C_TipsBehind) = some false)
    (st_NoPlace_ValueError : PySem.W.subIn K (.ref C_NoPlace) (.type "ValueError") = some true)
    (xp_SamePlace : PySem.W.findIn K (.ref C_SamePlace) "__getattribute__" = some (some (.builtin "BaseException.__getattribute__"))) (xq_SamePlace : PySem.W.findIn K (.ref C_SamePlace) "__getattr__" = some none) (xr_SamePlace : PySem.W.mroIn K C_SamePlace (.type "BaseException") = some true) (xh_SamePlace : PySem.W.hasDictIn K C_SamePlace = true) (xk_SamePlace : PySem.W.findIn K (.ref C_SamePlace) "__class__" = some (some (.builtin "object.__class__"))) (xo_SamePlace : PySem.W.mroIn K C_SamePlace (.type "object") = some true)
    (sb_SamePlace_BeamError : PySem.W.subIn K (.ref C_SamePlace) (.ref C_BeamError) = some true)
    (ne_SamePlace_NoWeight : (Value.ref C_SamePlace == Value.ref C_NoWeight) = false) (si_SamePlace_NoWeight : PySem.W.subIn K (.ref C_SamePlace) (.ref C_NoWeight) = some false)
    (ne_SamePlace_NoPlace : (Value.ref C_SamePlace == Value.ref C_NoPlace) = false) (si_SamePlace_NoPlace : PySem.W.subIn K (.ref C_SamePlace) (.ref C_NoPlace) = some false)
    (ne_SamePlace_NoRoom : (Value.ref C_SamePlace == Value.ref C_NoRoom) = false) (si_SamePlace_NoRoom : PySem.W.subIn K (.ref C_SamePlace) (.ref C_NoRoom) = some false)
    (ne_SamePlace_TipsInHand : (Value.ref C_SamePlace == Value.ref C_TipsInHand) = false) (si_SamePlace_TipsInHand : PySem.W.subIn K (.ref C_SamePlace) (.ref C_TipsInHand) = some false)
    (ne_SamePlace_TipsBehind : (Value.ref C_SamePlace == Value.ref C_TipsBehind) = false) (si_SamePlace_TipsBehind : PySem.W.subIn K (.ref C_SamePlace) (.ref C_TipsBehind) = some false)
    (st_SamePlace_ValueError : PySem.W.subIn K (.ref C_SamePlace) (.type "ValueError") = some true)
    (xp_NoRoom : PySem.W.findIn K (.ref C_NoRoom) "__getattribute__" = some (some (.builtin "BaseException.__getattribute__"))) (xq_NoRoom : PySem.W.findIn K (.ref C_NoRoom) "__getattr__" = some none) (xr_NoRoom : PySem.W.mroIn K C_NoRoom (.type "BaseException") = some true) (xh_NoRoom : PySem.W.hasDictIn K C_NoRoom = true) (xk_NoRoom : PySem.W.findIn K (.ref C_NoRoom) "__class__" = some (some (.builtin "object.__class__"))) (xo_NoRoom : PySem.W.mroIn K C_NoRoom (.type "object") = some true)
    (sb_NoRoom_BeamError : PySem.W.subIn K (.ref C_NoRoom) (.ref C_BeamError) = some true)
    (ne_NoRoom_NoWeight : (Value.ref C_NoRoom == Value.ref C_NoWeight) = false) (si_NoRoom_NoWeight : PySem.W.subIn K (.ref C_NoRoom) (.ref C_NoWeight) = some false)
    (ne_NoRoom_NoPlace : (Value.ref C_NoRoom == Value.ref C_NoPlace) = false) (si_NoRoom_NoPlace : PySem.W.subIn K (.ref C_NoRoom) (.ref C_NoPlace) = some false)
    (ne_NoRoom_SamePlace : (Value.ref C_NoRoom == Value.ref C_SamePlace) = false) (si_NoRoom_SamePlace : PySem.W.subIn K (.ref C_NoRoom) (.ref C_SamePlace) = some false)
    (ne_NoRoom_TipsInHand : (Value.ref C_NoRoom == Value.ref C_TipsInHand) = false) (si_NoRoom_TipsInHand : PySem.W.subIn K (.ref C_NoRoom) (.ref C_TipsInHand) = some false)
    (ne_NoRoom_TipsBehind : (Value.ref C_NoRoom == Value.ref C_TipsBehind) = false) (si_NoRoom_TipsBehind : PySem.W.subIn K (.ref C_NoRoom) (.ref C_TipsBehind) = some false)
    (st_NoRoom_ValueError : PySem.W.subIn K (.ref C_NoRoom) (.type "ValueError") = some true)
    (xp_TipsInHand : PySem.W.findIn K (.ref C_TipsInHand) "__getattribute__" = some (some (.builtin "BaseException.__getattribute__"))) (xq_TipsInHand : PySem.W.findIn K (.ref C_TipsInHand) "__getattr__" = some none) (xr_TipsInHand : PySem.W.mroIn K C_TipsInHand (.type "BaseException") = some true) (xh_TipsInHand : PySem.W.hasDictIn K C_TipsInHand = true) (xk_TipsInHand : PySem.W.findIn K (.ref C_TipsInHand) "__class__" = some (some (.builtin "object.__class__"))) (xo_TipsInHand : PySem.W.mroIn K C_TipsInHand (.type "object") = some true)
    (sb_TipsInHand_BeamError : PySem.W.subIn K (.ref C_TipsInHand) (.ref C_BeamError) = some true)
    (ne_TipsInHand_NoWeight : (Value.ref C_TipsInHand == Value.ref C_NoWeight) = false) (si_TipsInHand_NoWeight : PySem.W.subIn K (.ref C_TipsInHand) (.ref C_NoWeight) = some false)
    (ne_TipsInHand_NoPlace : (Value.ref C_TipsInHand == Value.ref C_NoPlace) = false) (si_TipsInHand_NoPlace : PySem.W.subIn K (.ref C_TipsInHand) (.ref C_NoPlace) = some false)
    (ne_TipsInHand_SamePlace : (Value.ref C_TipsInHand == Value.ref C_SamePlace) = false) (si_TipsInHand_SamePlace : PySem.W.subIn K (.ref C_TipsInHand) (.ref C_SamePlace) = some false)
    (ne_TipsInHand_NoRoom : (Value.ref C_TipsInHand == Value.ref C_NoRoom) = false) (si_TipsInHand_NoRoom : PySem.W.subIn K (.ref C_TipsInHand) (.ref C_NoRoom) = some false)
    (ne_TipsInHand_TipsBehind : (Value.ref C_TipsInHand == Value.ref C_TipsBehind) = false) (si_TipsInHand_TipsBehind : PySem.W.subIn K (.ref C_TipsInHand) (.ref C_TipsBehind) = some false)
    (st_TipsInHand_ValueError : PySem.W.subIn K (.ref C_TipsInHand) (.type "ValueError") = some true)
    (xp_TipsBehind : PySem.W.findIn K (.ref C_TipsBehind) "__getattribute__" = some (some (.builtin "BaseException.__getattribute__"))) (xq_TipsBehind : PySem.W.findIn K (.ref C_TipsBehind) "__getattr__" = some none) (xr_TipsBehind : PySem.W.mroIn K C_TipsBehind (.type "BaseException") = some true) (xh_TipsBehind : PySem.W.hasDictIn K C_TipsBehind = true) (xk_TipsBehind : PySem.W.findIn K (.ref C_TipsBehind) "__class__" = some (some (.builtin "object.__class__"))) (xo_TipsBehind : PySem.W.mroIn K C_TipsBehind (.type "object") = some true)
    (sb_TipsBehind_BeamError : PySem.W.subIn K (.ref C_TipsBehind) (.ref C_BeamError) = some true)
    (ne_TipsBehind_NoWeight : (Value.ref C_TipsBehind == Value.ref C_NoWeight) = false) (si_TipsBehind_NoWeight : PySem.W.subIn K (.ref C_TipsBehind) (.ref C_NoWeight) = some false)
    (ne_TipsBehind_NoPlace : (Value.ref C_TipsBehind == Value.ref C_NoPlace) = false) (si_TipsBehind_NoPlace : PySem.W.subIn K (.ref C_TipsBehind) (.ref C_NoPlace) = some false)
    (ne_TipsBehind_SamePlace : (Value.ref C_TipsBehind == Value.ref C_SamePlace) = false) (si_TipsBehind_SamePlace : PySem.W.subIn K (.ref C_TipsBehind) (.ref C_SamePlace) = some false)
    (ne_TipsBehind_NoRoom : (Value.ref C_TipsBehind == Value.ref C_NoRoom) = false) (si_TipsBehind_NoRoom : PySem.W.subIn K (.ref C_TipsBehind) (.ref C_NoRoom) = some false)
    (ne_TipsBehind_TipsInHand : (Value.ref C_TipsBehind == Value.ref C_TipsInHand) = false) (si_TipsBehind_TipsInHand : PySem.W.subIn K (.ref C_TipsBehind) (.ref C_TipsInHand) = some false)
    (st_TipsBehind_ValueError : PySem.W.subIn K (.ref C_TipsBehind) (.type "ValueError") = some true)
    (ga_BeamError : PySem.W.specialIn K (.ref C_BeamError) "__getattribute__" = some (some (.builtin "type.__getattribute__"))) (rd_BeamError : PySem.W.readsIn K C_BeamError (.type "type") = true) (fd_BeamError : PySem.W.findCls K (.ref C_BeamError) (.type "type") "__init__" = some (.val (.ref f_BeamError_init)))
    (n_tuple : PySem.W.nsIn K mainGlobals "tuple" = some none)
    (n_len : PySem.W.nsIn K mainGlobals "len" = some none)
    (n_range : PySem.W.nsIn K mainGlobals "range" = some none)
    (n_sum : PySem.W.nsIn K mainGlobals "sum" = some none)
    (n_zip : PySem.W.nsIn K mainGlobals "zip" = some none)
    (n_abs : PySem.W.nsIn K mainGlobals "abs" = some none)
    (n_isinstance : PySem.W.nsIn K mainGlobals "isinstance" = some none)
    (n_int : PySem.W.nsIn K mainGlobals "int" = some none)
    (n_bool : PySem.W.nsIn K mainGlobals "bool" = some none)
    (n_min : PySem.W.nsIn K mainGlobals "min" = some none)
    (n_ValueError : PySem.W.nsIn K mainGlobals "ValueError" = some none)
    (n_list : PySem.W.nsIn K mainGlobals "list" = some none)
    (n_str : PySem.W.nsIn K mainGlobals "str" = some none)
    (g_MOST_NOTCHES : PySem.W.nsIn K mainGlobals "MOST_NOTCHES" = some (some (.int 4 q_MOST_NOTCHES)))
    (g_MOST_ROOM : PySem.W.nsIn K mainGlobals "MOST_ROOM" = some (some (.int 3 q_MOST_ROOM)))
    (g_MOST_LIMIT : PySem.W.nsIn K mainGlobals "MOST_LIMIT" = some (some (.int 400 q_MOST_LIMIT)))
    (g_MOST_WEIGHTS : PySem.W.nsIn K mainGlobals "MOST_WEIGHTS" = some (some (.int 5 q_MOST_WEIGHTS)))
    (g_MOST_HEFT : PySem.W.nsIn K mainGlobals "MOST_HEFT" = some (some (.int 20 q_MOST_HEFT)))
    (g_MOST_STANDINGS : PySem.W.nsIn K mainGlobals "MOST_STANDINGS" = some (some (.int 1000 q_MOST_STANDINGS))) :
    ∃ fd : FuncData, (∀ (s : Shared) (v : Value), BindsTo s fd ⟨[v], []⟩ [("_law_script", v)]) ∧ ∀ base : Heap, K.In base → base.Ns mainGlobals mg → FnOk l.prog w K mg base CX0 9 fa fd ["_law_script"] (spLaw K) := by
  have e := hfa.symm.trans (PySem.W.mg_of X G a_law)
  cases e
  have F_BeamError_init := fund_mk (st := s_BeamError_init) l_BeamError_init c_BeamError_init k_BeamError_init
  have b_BeamError_init : Binds K _ ["self", "reason", "word"] [] := fun s us X hl => by
    rw [List.append_nil] at hl ⊢
    match us, hl with
    | [_, _, _], _ => exact BindsTo.of_defaults (fd := PySem.W.fnOf "__init__" "BeamError.__init__" (defArgs s_BeamError_init) (defBody s_BeamError_init) (defScope s_BeamError_init) (.ref T_BeamError_init) kV_BeamError_init dc_BeamError_init pm_BeamError_init an_BeamError_init cd_BeamError_init ct_BeamError_init) rfl (X _ _ dt_BeamError_init) rfl rfl rfl
  have F_NoWeight_init := fund_mk (st := s_NoWeight_init) l_NoWeight_init c_NoWeight_init k_NoWeight_init
  have b_NoWeight_init : Binds K _ ["self", "reason"] [] := fun s us X hl => by
    rw [List.append_nil] at hl ⊢
    match us, hl with
    | [_, _], _ => exact BindsTo.of_defaults (fd := PySem.W.fnOf "__init__" "NoWeight.__init__" (defArgs s_NoWeight_init) (defBody s_NoWeight_init) (defScope s_NoWeight_init) (.ref T_NoWeight_init) kV_NoWeight_init dc_NoWeight_init pm_NoWeight_init an_NoWeight_init cd_NoWeight_init ct_NoWeight_init) rfl (X _ _ dt_NoWeight_init) rfl rfl rfl
  have F_NoPlace_init := fund_mk (st := s_NoPlace_init) l_NoPlace_init c_NoPlace_init k_NoPlace_init
  have b_NoPlace_init : Binds K _ ["self", "reason"] [] := fun s us X hl => by
    rw [List.append_nil] at hl ⊢
    match us, hl with
    | [_, _], _ => exact BindsTo.of_defaults (fd := PySem.W.fnOf "__init__" "NoPlace.__init__" (defArgs s_NoPlace_init) (defBody s_NoPlace_init) (defScope s_NoPlace_init) (.ref T_NoPlace_init) kV_NoPlace_init dc_NoPlace_init pm_NoPlace_init an_NoPlace_init cd_NoPlace_init ct_NoPlace_init) rfl (X _ _ dt_NoPlace_init) rfl rfl rfl
  have F_SamePlace_init := fund_mk (st := s_SamePlace_init) l_SamePlace_init c_SamePlace_init k_SamePlace_init
  have b_SamePlace_init : Binds K _ ["self", "reason"] [] := fun s us X hl => by
    rw [List.append_nil] at hl ⊢
    match us, hl with
    | [_, _], _ => exact BindsTo.of_defaults (fd := PySem.W.fnOf "__init__" "SamePlace.__init__" (defArgs s_SamePlace_init) (defBody s_SamePlace_init) (defScope s_SamePlace_init) (.ref T_SamePlace_init) kV_SamePlace_init dc_SamePlace_init pm_SamePlace_init an_SamePlace_init cd_SamePlace_init ct_SamePlace_init) rfl (X _ _ dt_SamePlace_init) rfl rfl rfl
  have F_NoRoom_init := fund_mk (st := s_NoRoom_init) l_NoRoom_init c_NoRoom_init k_NoRoom_init
  have b_NoRoom_init : Binds K _ ["self", "reason"] [] := fun s us X hl => by
    rw [List.append_nil] at hl ⊢
    match us, hl with
    | [_, _], _ => exact BindsTo.of_defaults (fd := PySem.W.fnOf "__init__" "NoRoom.__init__" (defArgs s_NoRoom_init) (defBody s_NoRoom_init) (defScope s_NoRoom_init) (.ref T_NoRoom_init) kV_NoRoom_init dc_NoRoom_init pm_NoRoom_init an_NoRoom_init cd_NoRoom_init ct_NoRoom_init) rfl (X _ _ dt_NoRoom_init) rfl rfl rfl
  have F_TipsInHand_init := fund_mk (st := s_TipsInHand_init) l_TipsInHand_init c_TipsInHand_init k_TipsInHand_init
  have b_TipsInHand_init : Binds K _ ["self", "reason"] [] := fun s us X hl => by
    rw [List.append_nil] at hl ⊢
    match us, hl with
    | [_, _], _ => exact BindsTo.of_defaults (fd := PySem.W.fnOf "__init__" "TipsInHand.__init__" (defArgs s_TipsInHand_init) (defBody s_TipsInHand_init) (defScope s_TipsInHand_init) (.ref T_TipsInHand_init) kV_TipsInHand_init dc_TipsInHand_init pm_TipsInHand_init an_TipsInHand_init cd_TipsInHand_init ct_TipsInHand_init) rfl (X _ _ dt_TipsInHand_init) rfl rfl rfl
  have F_TipsBehind_init := fund_mk (st := s_TipsBehind_init) l_TipsBehind_init c_TipsBehind_init k_TipsBehind_init
  have b_TipsBehind_init : Binds K _ ["self", "reason"] [] := fun s us X hl => by
    rw [List.append_nil] at hl ⊢
    match us, hl with
    | [_, _], _ => exact BindsTo.of_defaults (fd := PySem.W.fnOf "__init__" "TipsBehind.__init__" (defArgs s_TipsBehind_init) (defBody s_TipsBehind_init) (defScope s_TipsBehind_init) (.ref T_TipsBehind_init) kV_TipsBehind_init dc_TipsBehind_init pm_TipsBehind_init an_TipsBehind_init cd_TipsBehind_init ct_TipsBehind_init) rfl (X _ _ dt_TipsBehind_init) rfl rfl rfl
  have F_Beam_init := fun_mk (st := s_Beam_init) l_Beam_init c_Beam_init k_Beam_init
  have b_Beam_init := F_Beam_init.binds (ps := ["self", "notches", "room", "hefts", "limit"]) fun _ _ _ _ _ _ us hl => by obtain ⟨x0, x1, x2, x3, x4, rfl⟩ := ar5 hl; rfl
  have F_outside := fun_mk (st := s_outside) l_outside c_outside k_outside
  have b_outside := F_outside.binds (ps := ["number", "low", "high"]) fun _ _ _ _ _ _ us hl => by obtain ⟨x0, x1, x2, rfl⟩ := ar3 hl; rfl
  have F_check_bounds := fun_mk (st := s_check_bounds) l_check_bounds c_check_bounds k_check_bounds
  have b_check_bounds := F_check_bounds.binds (ps := ["notches", "room", "limit"]) fun _ _ _ _ _ _ us hl => by obtain ⟨x0, x1, x2, rfl⟩ := ar3 hl; rfl
  have F_check_hefts := fun_mk (st := s_check_hefts) l_check_hefts c_check_hefts k_check_hefts
  have b_check_hefts := F_check_hefts.binds (ps := ["hefts"]) fun _ _ _ _ _ _ us hl => by obtain ⟨x0, rfl⟩ := ar1 hl; rfl
  have F_check_standings := fun_mk (st := s_check_standings) l_check_standings c_check_standings k_check_standings
  have b_check_standings := F_check_standings.binds (ps := ["notches", "weights"]) fun _ _ _ _ _ _ us hl => by obtain ⟨x0, x1, rfl⟩ := ar2 hl; rfl
  have F_as_standing := fun_mk (st := s_as_standing) l_as_standing c_as_standing k_as_standing
  have b_as_standing := F_as_standing.binds (ps := ["beam", "standing"]) fun _ _ _ _ _ _ us hl => by obtain ⟨x0, x1, rfl⟩ := ar2 hl; rfl
  have F_tilt := fun_mk (st := s_tilt) l_tilt c_tilt k_tilt
  have b_tilt := F_tilt.binds (ps := ["beam", "standing"]) fun _ _ _ _ _ _ us hl => by obtain ⟨x0, x1, rfl⟩ := ar2 hl; rfl
  have F_past := fun_mk (st := s_past) l_past c_past k_past
  have b_past := F_past.binds (ps := ["beam", "tipped"]) fun _ _ _ _ _ _ us hl => by obtain ⟨x0, x1, rfl⟩ := ar2 hl; rfl
  have F_in_hand := fun_mk (st := s_in_hand) l_in_hand c_in_hand k_in_hand
  have b_in_hand := F_in_hand.binds (ps := ["beam", "standing", "weight"]) fun _ _ _ _ _ _ us hl => by obtain ⟨x0, x1, x2, rfl⟩ := ar3 hl; rfl
  have F_refusal := fun_mk (st := s_refusal) l_refusal c_refusal k_refusal
  have b_refusal := F_refusal.binds (ps := ["beam", "standing", "move"]) fun _ _ _ _ _ _ us hl => by obtain ⟨x0, x1, x2, rfl⟩ := ar3 hl; rfl
  have F_moved := fun_mk (st := s_moved) l_moved c_moved k_moved
  have b_moved := F_moved.binds (ps := ["beam", "standing", "move"]) fun _ _ _ _ _ _ us hl => by obtain ⟨x0, x1, x2, rfl⟩ := ar3 hl; rfl
  have F_behind := fun_mk (st := s_behind) l_behind c_behind k_behind
  have b_behind := F_behind.binds (ps := ["places", "move"]) fun _ _ _ _ _ _ us hl => by obtain ⟨x0, x1, rfl⟩ := ar2 hl; rfl
  have F_full := fun_mk (st := s_full) l_full c_full k_full
  have b_full := F_full.binds (ps := ["beam", "places", "place"]) fun _ _ _ _ _ _ us hl => by obtain ⟨x0, x1, x2, rfl⟩ := ar3 hl; rfl
  have F_check_move := fun_mk (st := s_check_move) l_check_move c_check_move k_check_move
  have b_check_move := F_check_move.binds (ps := ["beam", "places", "weight", "taken", "put"]) fun _ _ _ _ _ _ us hl => by obtain ⟨x0, x1, x2, x3, x4, rfl⟩ := ar5 hl; rfl
  have F_check_weight := fun_mk (st := s_check_weight) l_check_weight c_check_weight k_check_weight
  have b_check_weight := F_check_weight.binds (ps := ["places", "weight", "taken"]) fun _ _ _ _ _ _ us hl => by obtain ⟨x0, x1, x2, rfl⟩ := ar3 hl; rfl
  have F_check_put := fun_mk (st := s_check_put) l_check_put c_check_put k_check_put
  have b_check_put := F_check_put.binds (ps := ["beam", "places", "taken", "put"]) fun _ _ _ _ _ _ us hl => by obtain ⟨x0, x1, x2, x3, rfl⟩ := ar4 hl; rfl
  have F_check_tilts := fun_mk (st := s_check_tilts) l_check_tilts c_check_tilts k_check_tilts
  have b_check_tilts := F_check_tilts.binds (ps := ["beam", "held", "added"]) fun _ _ _ _ _ _ us hl => by obtain ⟨x0, x1, x2, rfl⟩ := ar3 hl; rfl
  have F_w_at := fun_mk (st := s_w_at) l_w_at c_w_at k_w_at
  have b_w_at := F_w_at.binds (ps := ["_law_script", "_law_k"]) fun _ _ _ _ _ _ us hl => by obtain ⟨x0, x1, rfl⟩ := ar2 hl; rfl
  have F_w_whole := fun_mk (st := s_w_whole) l_w_whole c_w_whole k_w_whole
  have b_w_whole := F_w_whole.binds (ps := ["_law_found"]) fun _ _ _ _ _ _ us hl => by obtain ⟨x0, rfl⟩ := ar1 hl; rfl
  have F_w_figs := fun_mk (st := s_w_figs) l_w_figs c_w_figs k_w_figs
  have b_w_figs := F_w_figs.binds (ps := ["_law_cell", "_law_count", "_law_base", "_law_mix"]) fun _ _ _ _ _ _ us hl => by obtain ⟨x0, x1, x2, x3, rfl⟩ := ar4 hl; rfl
  have F_w_shape := fun_mk (st := s_w_shape) l_w_shape c_w_shape k_w_shape
  have b_w_shape := F_w_shape.binds (ps := ["_law_script"]) fun _ _ _ _ _ _ us hl => by obtain ⟨x0, rfl⟩ := ar1 hl; rfl
  have F_w_put := fun_mk (st := s_w_put) l_w_put c_w_put k_w_put
  have b_w_put := F_w_put.binds (ps := ["_law_script", "_law_k", "_law_more", "_law_shape_here"]) fun _ _ _ _ _ _ us hl => by obtain ⟨x0, x1, x2, x3, rfl⟩ := ar4 hl; rfl
  have F_w_tilt := fun_mk (st := s_w_tilt) l_w_tilt c_w_tilt k_w_tilt
  have b_w_tilt := F_w_tilt.binds (ps := ["_law_hefts", "_law_spots"]) fun _ _ _ _ _ _ us hl => by obtain ⟨x0, x1, rfl⟩ := ar2 hl; rfl
  have F_w_word := fun_mk (st := s_w_word) l_w_word c_w_word k_w_word
  have b_w_word := F_w_word.binds (ps := ["_law_scale", "_law_spots", "_law_move_here"]) fun _ _ _ _ _ _ us hl => by obtain ⟨x0, x1, x2, rfl⟩ := ar3 hl; rfl
  have F_w_same := fun_mk (st := s_w_same) l_w_same c_w_same k_w_same
  have b_w_same := F_w_same.binds (ps := ["_law_found", "_law_due"]) fun _ _ _ _ _ _ us hl => by obtain ⟨x0, x1, rfl⟩ := ar2 hl; rfl
  have F_w_move := fun_mk (st := s_w_move) l_w_move c_w_move k_w_move
  have b_w_move := F_w_move.binds (ps := ["_law_cell", "_law_hefts", "_law_notches", "_law_spots"]) fun _ _ _ _ _ _ us hl => by obtain ⟨x0, x1, x2, x3, rfl⟩ := ar4 hl; rfl
  have F_w_told := fun_mk (st := s_w_told) l_w_told c_w_told k_w_told
  have b_w_told := F_w_told.binds (ps := ["_law_beam", "_law_handed", "_law_move_here"]) fun _ _ _ _ _ _ us hl => by obtain ⟨x0, x1, x2, rfl⟩ := ar3 hl; rfl
  have F_w_one := fun_mk (st := s_w_one) l_w_one c_w_one k_w_one
  have b_w_one := F_w_one.binds (ps := ["_law_beam", "_law_scale", "_law_spots", "_law_move_here"]) fun _ _ _ _ _ _ us hl => by obtain ⟨x0, x1, x2, x3, rfl⟩ := ar4 hl; rfl
  have F_law := fun_mk (st := s_law) l_law c_law k_law
  have b_law := F_law.binds (ps := ["_law_script"]) fun _ _ _ _ _ _ us hl => by obtain ⟨x0, rfl⟩ := ar1 hl; rfl
  have T : Txt K mg { a_BeamError_init := f_BeamError_init, d_BeamError_init := _, a_NoWeight_init := f_NoWeight_init, d_NoWeight_init := _, a_NoPlace_init := f_NoPlace_init, d_NoPlace_init := _, a_SamePlace_init := f_SamePlace_init, d_SamePlace_init := _, a_NoRoom_init := f_NoRoom_init, d_NoRoom_init := _, a_TipsInHand_init := f_TipsInHand_init, d_TipsInHand_init := _, a_TipsBehind_init := f_TipsBehind_init, d_TipsBehind_init := _, a_Beam_init := f_Beam_init, d_Beam_init := _, a_outside := f_outside, d_outside := _, a_check_bounds := f_check_bounds, d_check_bounds := _, a_check_hefts := f_check_hefts, d_check_hefts := _, a_check_standings := f_check_standings, d_check_standings := _, a_as_standing := f_as_standing, d_as_standing := _, a_tilt := f_tilt, d_tilt := _, a_past := f_past, d_past := _, a_in_hand := f_in_hand, d_in_hand := _, a_refusal := f_refusal, d_refusal := _, a_moved := f_moved, d_moved := _, a_behind := f_behind, d_behind := _, a_full := f_full, d_full := _, a_check_move := f_check_move, d_check_move := _, a_check_weight := f_check_weight, d_check_weight := _, a_check_put := f_check_put, d_check_put := _, a_check_tilts := f_check_tilts, d_check_tilts := _, a_w_at := f_w_at, d_w_at := _, a_w_whole := f_w_whole, d_w_whole := _, a_w_figs := f_w_figs, d_w_figs := _, a_w_shape := f_w_shape, d_w_shape := _, a_w_put := f_w_put, d_w_put := _, a_w_tilt := f_w_tilt, d_w_tilt := _, a_w_word := f_w_word, d_w_word := _, a_w_same := f_w_same, d_w_same := _, a_w_move := f_w_move, d_w_move := _, a_w_told := f_w_told, d_w_told := _, a_w_one := f_w_one, d_w_one := _, a_law := fa, d_law := _, c_Beam := C_Beam, c_NoWeight := C_NoWeight, c_NoPlace := C_NoPlace, c_SamePlace := C_SamePlace, c_NoRoom := C_NoRoom, c_TipsInHand := C_TipsInHand, c_TipsBehind := C_TipsBehind, c_BeamError := C_BeamError, q_MOST_NOTCHES := q_MOST_NOTCHES, q_MOST_ROOM := q_MOST_ROOM, q_MOST_LIMIT := q_MOST_LIMIT, q_MOST_WEIGHTS := q_MOST_WEIGHTS, q_MOST_HEFT := q_MOST_HEFT, q_MOST_STANDINGS := q_MOST_STANDINGS } := { F_BeamError_init := F_BeamError_init, b_BeamError_init := b_BeamError_init, k_BeamError_init := k_BeamError_init, F_NoWeight_init := F_NoWeight_init, b_NoWeight_init := b_NoWeight_init, k_NoWeight_init := k_NoWeight_init, F_NoPlace_init := F_NoPlace_init, b_NoPlace_init := b_NoPlace_init, k_NoPlace_init := k_NoPlace_init, F_SamePlace_init := F_SamePlace_init, b_SamePlace_init := b_SamePlace_init, k_SamePlace_init := k_SamePlace_init, F_NoRoom_init := F_NoRoom_init, b_NoRoom_init := b_NoRoom_init, k_NoRoom_init := k_NoRoom_init, F_TipsInHand_init := F_TipsInHand_init, b_TipsInHand_init := b_TipsInHand_init, k_TipsInHand_init := k_TipsInHand_init, F_TipsBehind_init := F_TipsBehind_init, b_TipsBehind_init := b_TipsBehind_init, k_TipsBehind_init := k_TipsBehind_init, F_Beam_init := F_Beam_init, b_Beam_init := b_Beam_init, k_Beam_init := k_Beam_init, F_outside := F_outside, b_outside := b_outside, m_outside := PySem.W.mg_of X G a_outside, k_outside := k_outside, F_check_bounds := F_check_bounds, b_check_bounds := b_check_bounds, m_check_bounds := PySem.W.mg_of X G a_check_bounds, k_check_bounds := k_check_bounds, F_check_hefts := F_check_hefts, b_check_hefts := b_check_hefts, m_check_hefts := PySem.W.mg_of X G a_check_hefts, k_check_hefts := k_check_hefts, F_check_standings := F_check_standings, b_check_standings := b_check_standings, m_check_standings := PySem.W.mg_of X G a_check_standings, k_check_standings := k_check_standings, F_as_standing := F_as_standing, b_as_standing := b_as_standing, m_as_standing := PySem.W.mg_of X G a_as_standing, k_as_standing := k_as_standing, F_tilt := F_tilt, b_tilt := b_tilt, m_tilt := PySem.W.mg_of X G a_tilt, k_tilt := k_tilt, F_past := F_past, b_past := b_past, m_past := PySem.W.mg_of X G a_past, k_past := k_past, F_in_hand := F_in_hand, b_in_hand := b_in_hand, m_in_hand := PySem.W.mg_of X G a_in_hand, k_in_hand := k_in_hand, F_refusal := F_refusal, b_refusal := b_refusal, m_refusal := PySem.W.mg_of X G a_refusal, k_refusal := k_refusal, F_moved := F_moved, b_moved := b_moved, m_moved := PySem.W.mg_of X G a_moved, k_moved := k_moved, F_behind := F_behind, b_behind := b_behind, m_behind := PySem.W.mg_of X G a_behind, k_behind := k_behind, F_full := F_full, b_full := b_full, m_full := PySem.W.mg_of X G a_full, k_full := k_full, F_check_move := F_check_move, b_check_move := b_check_move, m_check_move := PySem.W.mg_of X G a_check_move, k_check_move := k_check_move, F_check_weight := F_check_weight, b_check_weight := b_check_weight, m_check_weight := PySem.W.mg_of X G a_check_weight, k_check_weight := k_check_weight, F_check_put := F_check_put, b_check_put := b_check_put, m_check_put := PySem.W.mg_of X G a_check_put, k_check_put := k_check_put, F_check_tilts := F_check_tilts, b_check_tilts := b_check_tilts, m_check_tilts := PySem.W.mg_of X G a_check_tilts, k_check_tilts := k_check_tilts, F_w_at := F_w_at, b_w_at := b_w_at, m_w_at := PySem.W.mg_of X G a_w_at, k_w_at := k_w_at, F_w_whole := F_w_whole, b_w_whole := b_w_whole, m_w_whole := PySem.W.mg_of X G a_w_whole, k_w_whole := k_w_whole, F_w_figs := F_w_figs, b_w_figs := b_w_figs, m_w_figs := PySem.W.mg_of X G a_w_figs, k_w_figs := k_w_figs, F_w_shape := F_w_shape, b_w_shape := b_w_shape, m_w_shape := PySem.W.mg_of X G a_w_shape, k_w_shape := k_w_shape, F_w_put := F_w_put, b_w_put := b_w_put, m_w_put := PySem.W.mg_of X G a_w_put, k_w_put := k_w_put, F_w_tilt := F_w_tilt, b_w_tilt := b_w_tilt, m_w_tilt := PySem.W.mg_of X G a_w_tilt, k_w_tilt := k_w_tilt, F_w_word := F_w_word, b_w_word := b_w_word, m_w_word := PySem.W.mg_of X G a_w_word, k_w_word := k_w_word, F_w_same := F_w_same, b_w_same := b_w_same, m_w_same := PySem.W.mg_of X G a_w_same, k_w_same := k_w_same, F_w_move := F_w_move, b_w_move := b_w_move, m_w_move := PySem.W.mg_of X G a_w_move, k_w_move := k_w_move, F_w_told := F_w_told, b_w_told := b_w_told, m_w_told := PySem.W.mg_of X G a_w_told, k_w_told := k_w_told, F_w_one := F_w_one, b_w_one := b_w_one, m_w_one := PySem.W.mg_of X G a_w_one, k_w_one := k_w_one, F_law := F_law, b_law := b_law, m_law := PySem.W.mg_of X G a_law, k_law := k_law, cl_Beam := ⟨pg_Beam, hd_Beam, po_Beam, sa_Beam⟩, m_Beam := PySem.W.mg_of X G a_Beam, mk_Beam := ⟨mk_Beam, a_Beam_init, i_Beam_init, kc_Beam⟩, na_Beam_notches := na_Beam_notches, na_Beam_room := na_Beam_room, na_Beam_hefts := na_Beam_hefts, na_Beam_limit := na_Beam_limit, m_NoWeight := PySem.W.mg_of X G a_NoWeight, m_NoPlace := PySem.W.mg_of X G a_NoPlace, m_SamePlace := PySem.W.mg_of X G a_SamePlace, m_NoRoom := PySem.W.mg_of X G a_NoRoom, m_TipsInHand := PySem.W.mg_of X G a_TipsInHand, m_TipsBehind := PySem.W.mg_of X G a_TipsBehind, m_BeamError := PySem.W.mg_of X G a_BeamError, x_NoWeight := ⟨⟨_, _, _, _, _, _, _, _, _, _, _, _, _, _, _, ob_NoWeight, mv_NoWeight⟩, sa_NoWeight, kc_NoWeight⟩, x_NoPlace := ⟨⟨_, _, _, _, _, _, _, _, _, _, _, _, _, _, _, ob_NoPlace, mv_NoPlace⟩, sa_NoPlace, kc_NoPlace⟩, x_SamePlace := ⟨⟨_, _, _, _, _, _, _, _, _, _, _, _, _, _, _, ob_SamePlace, mv_SamePlace⟩, sa_SamePlace, kc_SamePlace⟩, x_NoRoom := ⟨⟨_, _, _, _, _, _, _, _, _, _, _, _, _, _, _, ob_NoRoom, mv_NoRoom⟩, sa_NoRoom, kc_NoRoom⟩, x_TipsInHand := ⟨⟨_, _, _, _, _, _, _, _, _, _, _, _, _, _, _, ob_TipsInHand, mv_TipsInHand⟩, sa_TipsInHand, kc_TipsInHand⟩, x_TipsBehind := ⟨⟨_, _, _, _, _, _, _, _, _, _, _, _, _, _, _, ob_TipsBehind, mv_TipsBehind⟩, sa_TipsBehind, kc_TipsBehind⟩, i_NoWeight := a_NoWeight_init, if_NoWeight := i_NoWeight_init, na_NoWeight_reason := na_NoWeight_reason, na_NoWeight_word := na_NoWeight_word, i_NoPlace := a_NoPlace_init, if_NoPlace := i_NoPlace_init, na_NoPlace_reason := na_NoPlace_reason, na_NoPlace_word := na_NoPlace_word, i_SamePlace := a_SamePlace_init, if_SamePlace := i_SamePlace_init, na_SamePlace_reason := na_SamePlace_reason, na_SamePlace_word := na_SamePlace_word, i_NoRoom := a_NoRoom_init, if_NoRoom := i_NoRoom_init, na_NoRoom_reason := na_NoRoom_reason, na_NoRoom_word := na_NoRoom_word, i_TipsInHand := a_TipsInHand_init, if_TipsInHand := i_TipsInHand_init, na_TipsInHand_reason := na_TipsInHand_reason, na_TipsInHand_word := na_TipsInHand_word, i_TipsBehind := a_TipsBehind_init, if_TipsBehind := i_TipsBehind_init, na_TipsBehind_reason := na_TipsBehind_reason, na_TipsBehind_word := na_TipsBehind_word, xw := ⟨xw1, xw2⟩, xa_NoWeight := ⟨xp_NoWeight, xq_NoWeight, xr_NoWeight, xh_NoWeight, xk_NoWeight, xo_NoWeight⟩, xm_NoWeight_BeamError := exm_of be_BeamError (by rw [cx_BeamError]; rfl) ty_BeamError sb_NoWeight_BeamError, kt_NoWeight_NoWeight := kit_self, kt_NoWeight_NoPlace := kit_of ne_NoWeight_NoPlace (by rw [cx_NoPlace]; rfl) ty_NoPlace si_NoWeight_NoPlace, kt_NoWeight_SamePlace := kit_of ne_NoWeight_SamePlace (by rw [cx_SamePlace]; rfl) ty_SamePlace si_NoWeight_SamePlace, kt_NoWeight_NoRoom := kit_of ne_NoWeight_NoRoom (by rw [cx_NoRoom]; rfl) ty_NoRoom si_NoWeight_NoRoom, kt_NoWeight_TipsInHand := kit_of ne_NoWeight_TipsInHand (by rw [cx_TipsInHand]; rfl) ty_TipsInHand si_NoWeight_TipsInHand, kt_NoWeight_TipsBehind := kit_of ne_NoWeight_TipsBehind (by rw [cx_TipsBehind]; rfl) ty_TipsBehind si_NoWeight_TipsBehind, kt_NoWeight_ValueError := kit_ofT (by decide +kernel) st_NoWeight_ValueError, xa_NoPlace := ⟨xp_NoPlace, xq_NoPlace, xr_NoPlace, xh_NoPlace, xk_NoPlace, xo_NoPlace⟩, xm_NoPlace_BeamError := exm_of be_BeamError (by rw [cx_BeamError]; rfl) ty_BeamError sb_NoPlace_BeamError, kt_NoPlace_NoWeight := kit_of ne_NoPlace_NoWeight (by rw [cx_NoWeight]; rfl) ty_NoWeight si_NoPlace_NoWeight, kt_NoPlace_NoPlace := kit_self, kt_NoPlace_SamePlace := kit_of ne_NoPlace_SamePlace (by rw [cx_SamePlace]; rfl) ty_SamePlace si_NoPlace_SamePlace, kt_NoPlace_NoRoom := kit_of ne_NoPlace_NoRoom (by rw [cx_NoRoom]; rfl) ty_NoRoom si_NoPlace_NoRoom, kt_NoPlace_TipsInHand := kit_of ne_NoPlace_TipsInHand (by rw [cx_TipsInHand]; rfl) ty_TipsInHand si_NoPlace_TipsInHand, kt_NoPlace_TipsBehind := kit_of ne_NoPlace_TipsBehind (by rw [cx_TipsBehind]; rfl) ty_TipsBehind si_NoPlace_TipsBehind, kt_NoPlace_ValueError := kit_ofT (by decide +kernel) st_NoPlace_ValueError, xa_SamePlace := ⟨xp_SamePlace, xq_SamePlace, xr_SamePlace, xh_SamePlace, xk_SamePlace, xo_SamePlace⟩, xm_SamePlace_BeamError := exm_of be_BeamError (by rw [cx_BeamError]; rfl) ty_BeamError sb_SamePlace_BeamError, kt_SamePlace_NoWeight := kit_of ne_SamePlace_NoWeight (by rw [cx_NoWeight]; rfl) ty_NoWeight si_SamePlace_NoWeight, kt_SamePlace_NoPlace := kit_of ne_SamePlace_NoPlace (by rw [cx_NoPlace]; rfl) ty_NoPlace si_SamePlace_NoPlace, kt_SamePlace_SamePlace := kit_self, kt_SamePlace_NoRoom := kit_of ne_SamePlace_NoRoom (by rw [cx_NoRoom]; rfl) ty_NoRoom si_SamePlace_NoRoom, kt_SamePlace_TipsInHand := kit_of ne_SamePlace_TipsInHand (by rw [cx_TipsInHand]; rfl) ty_TipsInHand si_SamePlace_TipsInHand, kt_SamePlace_TipsBehind := kit_of ne_SamePlace_TipsBehind (by rw [cx_TipsBehind]; rfl) ty_TipsBehind si_SamePlace_TipsBehind, kt_SamePlace_ValueError := kit_ofT (by decide +kernel) st_SamePlace_ValueError, xa_NoRoom := ⟨xp_NoRoom, xq_NoRoom, xr_NoRoom, xh_NoRoom, xk_NoRoom, xo_NoRoom⟩, xm_NoRoom_BeamError := exm_of be_BeamError (by rw [cx_BeamError]; rfl) ty_BeamError sb_NoRoom_BeamError, kt_NoRoom_NoWeight := kit_of ne_NoRoom_NoWeight (by rw [cx_NoWeight]; rfl) ty_NoWeight si_NoRoom_NoWeight, kt_NoRoom_NoPlace := kit_of ne_NoRoom_NoPlace (by rw [cx_NoPlace]; rfl) ty_NoPlace si_NoRoom_NoPlace, kt_NoRoom_SamePlace := kit_of ne_NoRoom_SamePlace (by rw [cx_SamePlace]; rfl) ty_SamePlace si_NoRoom_SamePlace, kt_NoRoom_NoRoom := kit_self, kt_NoRoom_TipsInHand := kit_of ne_NoRoom_TipsInHand (by rw [cx_TipsInHand]; rfl) ty_TipsInHand si_NoRoom_TipsInHand, kt_NoRoom_TipsBehind := kit_of ne_NoRoom_TipsBehind (by rw [cx_TipsBehind]; rfl) ty_TipsBehind si_NoRoom_TipsBehind, kt_NoRoom_ValueError := kit_ofT (by decide +kernel) st_NoRoom_ValueError, xa_TipsInHand := ⟨xp_TipsInHand, xq_TipsInHand, xr_TipsInHand, xh_TipsInHand, xk_TipsInHand, xo_TipsInHand⟩, xm_TipsInHand_BeamError := exm_of be_BeamError (by rw [cx_BeamError]; rfl) ty_BeamError sb_TipsInHand_BeamError, kt_TipsInHand_NoWeight := kit_of ne_TipsInHand_NoWeight (by rw [cx_NoWeight]; rfl) ty_NoWeight si_TipsInHand_NoWeight, kt_TipsInHand_NoPlace := kit_of ne_TipsInHand_NoPlace (by rw [cx_NoPlace]; rfl) ty_NoPlace si_TipsInHand_NoPlace, kt_TipsInHand_SamePlace := kit_of ne_TipsInHand_SamePlace (by rw [cx_SamePlace]; rfl) ty_SamePlace si_TipsInHand_SamePlace, kt_TipsInHand_NoRoom := kit_of ne_TipsInHand_NoRoom (by rw [cx_NoRoom]; rfl) ty_NoRoom si_TipsInHand_NoRoom, kt_TipsInHand_TipsInHand := kit_self, kt_TipsInHand_TipsBehind := kit_of ne_TipsInHand_TipsBehind (by rw [cx_TipsBehind]; rfl) ty_TipsBehind si_TipsInHand_TipsBehind, kt_TipsInHand_ValueError := kit_ofT (by decide +kernel) st_TipsInHand_ValueError, xa_TipsBehind := ⟨xp_TipsBehind, xq_TipsBehind, xr_TipsBehind, xh_TipsBehind, xk_TipsBehind, xo_TipsBehind⟩, xm_TipsBehind_BeamError := exm_of be_BeamError (by rw [cx_BeamError]; rfl) ty_BeamError sb_TipsBehind_BeamError, kt_TipsBehind_NoWeight := kit_of ne_TipsBehind_NoWeight (by rw [cx_NoWeight]; rfl) ty_NoWeight si_TipsBehind_NoWeight, kt_TipsBehind_NoPlace := kit_of ne_TipsBehind_NoPlace (by rw [cx_NoPlace]; rfl) ty_NoPlace si_TipsBehind_NoPlace, kt_TipsBehind_SamePlace := kit_of ne_TipsBehind_SamePlace (by rw [cx_SamePlace]; rfl) ty_SamePlace si_TipsBehind_SamePlace, kt_TipsBehind_NoRoom := kit_of ne_TipsBehind_NoRoom (by rw [cx_NoRoom]; rfl) ty_NoRoom si_TipsBehind_NoRoom, kt_TipsBehind_TipsInHand := kit_of ne_TipsBehind_TipsInHand (by rw [cx_TipsInHand]; rfl) ty_TipsInHand si_TipsBehind_TipsInHand, kt_TipsBehind_TipsBehind := kit_self, kt_TipsBehind_ValueError := kit_ofT (by decide +kernel) st_TipsBehind_ValueError, cm_BeamError := ⟨ga_BeamError, rd_BeamError, fd_BeamError, k_BeamError_init⟩, n_tuple := PySem.W.mg_none_of X G n_tuple, n_len := PySem.W.mg_none_of X G n_len, n_range := PySem.W.mg_none_of X G n_range, n_sum := PySem.W.mg_none_of X G n_sum, n_zip := PySem.W.mg_none_of X G n_zip, n_abs := PySem.W.mg_none_of X G n_abs, n_isinstance := PySem.W.mg_none_of X G n_isinstance, n_int := PySem.W.mg_none_of X G n_int, n_bool := PySem.W.mg_none_of X G n_bool, n_min := PySem.W.mg_none_of X G n_min, n_ValueError := PySem.W.mg_none_of X G n_ValueError, n_list := PySem.W.mg_none_of X G n_list, n_str := PySem.W.mg_none_of X G n_str, g_MOST_NOTCHES := PySem.W.mg_of X G g_MOST_NOTCHES, g_MOST_ROOM := PySem.W.mg_of X G g_MOST_ROOM, g_MOST_LIMIT := PySem.W.mg_of X G g_MOST_LIMIT, g_MOST_WEIGHTS := PySem.W.mg_of X G g_MOST_WEIGHTS, g_MOST_HEFT := PySem.W.mg_of X G g_MOST_HEFT, g_MOST_STANDINGS := PySem.W.mg_of X G g_MOST_STANDINGS }
  exact ⟨_, fun s v => .of_eq rfl, fun base _ _ => ok_law T⟩
theorem walk {l : PySem.W.OpenLaw} {q : Program} {loose : List Str} {XP : (Str → Option Value) → Heap → Prop} {YP : World → Heap → Prop} {d : DefRec} {K : Params → PySem.W.Frag} (hn : l.most = some 63) (hdf : d.params.defaults = [])
    (hY : ∀ (w : World) (h : Heap), YP w h → (K w.params).In h)
    (F : ∀ (w : World) (mg : Str → Option Value) (fa : Addr) (h : Heap), (K w.params).In h → h.Ns mainGlobals mg → mg d.name = some (.ref fa) →
      ∃ fd : FuncData, (∀ (s : Shared) (u : Value), BindsTo s fd ⟨[u], []⟩ [("_law_script", u)]) ∧ ∀ base : Heap, (K w.params).In base → base.Ns mainGlobals mg → FnOk l.prog w (K w.params) mg base CX0 9 fa fd ["_law_script"] (spLaw (K w.params))) :
    PySem.W.WalkO q loose XP YP l.row.toRowW d [] (fun f vs => PySem.call f vs) :=
  L2.walk_of (n := 63) (k := 9) (x := "_law_script") (CX := fun _ => CX0) (sp := fun w => spLaw (K w.params)) hn (by decide) hdf ⟨rfl, by decide, by decide⟩ hY F (fun _ _ a ns hl _ hS => ⟨a, ns, rfl, hS, hl, fun _ => rfl⟩) fun _ _ _ _ _ z => z
theorem walkZ {l : PySem.W.OpenLaw} {q : Program} {loose : List Str} {XP : (Str → Option Value) → Heap → Prop} {d : DefRec} {K : Params → PySem.W.Frag} (hn : l.most = some 63) (hdf : d.params.defaults = [])
    (F : ∀ (w : World) (mg : Str → Option Value) (fa : Addr) (h : Heap), (K w.params).In h → h.Ns mainGlobals mg → mg d.name = some (.ref fa) →
      ∃ fd : FuncData, (∀ (s : Shared) (u : Value), BindsTo s fd ⟨[u], []⟩ [("_law_script", u)]) ∧ ∀ base : Heap, (K w.params).In base → base.Ns mainGlobals mg → FnOk l.prog w (K w.params) mg base CX0 9 fa fd ["_law_script"] (spLaw (K w.params))) :
    PySem.W.WalkO q loose XP (fun w h => (K w.params).In h) l.row.toRowW d [] (fun f vs => PySem.call f vs) := walk hn hdf (fun _ _ Y => Y) F
end Bt
def PySem.W.Fast.tw4281062557002092090 : Unit := ()
def PySem.W.Fast.tw1432806808781763856 : Unit := ()
def PySem.W.Fast.tw12185465674785654461 : Unit := ()
def PySem.W.Fast.tw4001800626654886781 : Unit := ()
def PySem.W.Fast.tw10002187891780700740 : Unit := ()
def PySem.W.Fast.tw427324932434885218 : Unit := ()
def PySem.W.Fast.tw12259139381730128278 : Unit := ()
def PySem.W.Fast.tw16651240840367579970 : Unit := ()
def PySem.W.Fast.tw6638034974091383568 : Unit := ()
def PySem.W.Fast.tw11289776569334411026 : Unit := ()
def PySem.W.Fast.tw15648018541877360050 : Unit := ()
def PySem.W.Fast.tw1556068116324465726 : Unit := ()
def PySem.W.Fast.tw4146952082347495415 : Unit := ()
def PySem.W.Fast.tw2177738749105428521 : Unit := ()
def PySem.W.Fast.tw15904162598207076072 : Unit := ()
open PySem PySem.W PyProof.Rows
set_option maxRecDepth 100000 in
set_option maxHeartbeats 0 in
theorem PySem.Challenge.cw_beamtender_k09_first_refusal_holds : PySem.Challenge.rw_beamtender_k09_first_refusal.Holds := by
  w_on; o_law; z_head; (case hw => w_witness2)
  k_fill
  intro w0 s0 s1 mg0 mb0 G0 y0 fa0 o0 pm0 cd0 doc0 dV0 kV0 ho0 hd0 hcd0 hD0 hmg0 hg0 args0 vals0 as0 L0 hpre0 hlay0 hrd0 hwl0 hlo0
  z_open y0 L0 KX0 ZH0 ZN0 ZT0
  clear ZH0 ZN0 ZT0
  refine Bt.walkZ (l := PySem.Challenge.rw_beamtender_k09_first_refusal) rfl rfl ?F w0 s0 s1 mg0 mb0 G0 KX0 fa0 o0 pm0 cd0 doc0 dV0 kV0 ho0 hd0 hcd0 hD0 hmg0 hg0 args0 vals0 as0 hpre0 hlay0 hrd0 hwl0 hlo0
  case F =>
    clear y0 L0 KX0 G0 ho0 hd0 hcd0 hD0 hmg0 hg0 hpre0 hlay0 hrd0 hwl0 hlo0
    intro w mg fa h KX G hmg
    refine' Bt.all_mk KX G hmg ?a_Beam ?a_NoWeight ?a_NoPlace ?a_SamePlace ?a_NoRoom ?a_TipsInHand ?a_TipsBehind ?a_BeamError ?a_BeamError_init ?i_BeamError_init ?l_BeamError_init ?c_BeamError_init ?k_BeamError_init ?dt_BeamError_init ?a_NoWeight_init ?i_NoWeight_init ?l_NoWeight_init ?c_NoWeight_init ?k_NoWeight_init ?dt_NoWeight_init ?a_NoPlace_init ?i_NoPlace_init ?l_NoPlace_init ?c_NoPlace_init ?k_NoPlace_init ?dt_NoPlace_init ?a_SamePlace_init ?i_SamePlace_init ?l_SamePlace_init ?c_SamePlace_init ?k_SamePlace_init ?dt_SamePlace_init ?a_NoRoom_init ?i_NoRoom_init ?l_NoRoom_init ?c_NoRoom_init ?k_NoRoom_init ?dt_NoRoom_init ?a_TipsInHand_init ?i_TipsInHand_init ?l_TipsInHand_init ?c_TipsInHand_init ?k_TipsInHand_init ?dt_TipsInHand_init ?a_TipsBehind_init ?i_TipsBehind_init ?l_TipsBehind_init ?c_TipsBehind_init ?k_TipsBehind_init ?dt_TipsBehind_init ?a_Beam_init ?i_Beam_init ?l_Beam_init ?c_Beam_init ?k_Beam_init ?a_outside ?l_outside ?c_outside ?k_outside ?a_check_bounds ?l_check_bounds ?c_check_bounds ?k_check_bounds ?a_check_hefts ?l_check_hefts ?c_check_hefts ?k_check_hefts ?a_check_standings ?l_check_standings ?c_check_standings ?k_check_standings ?a_as_standing ?l_as_standing ?c_as_standing ?k_as_standing ?a_tilt ?l_tilt ?c_tilt ?k_tilt ?a_past ?l_past ?c_past ?k_past ?a_in_hand ?l_in_hand ?c_in_hand ?k_in_hand ?a_refusal ?l_refusal ?c_refusal ?k_refusal ?a_moved ?l_moved ?c_moved ?k_moved ?a_behind ?l_behind ?c_behind ?k_behind ?a_full ?l_full ?c_full ?k_full ?a_check_move ?l_check_move ?c_check_move ?k_check_move ?a_check_weight ?l_check_weight ?c_check_weight ?k_check_weight ?a_check_put ?l_check_put ?c_check_put ?k_check_put ?a_check_tilts ?l_check_tilts ?c_check_tilts ?k_check_tilts ?a_w_at ?l_w_at ?c_w_at ?k_w_at ?a_w_whole ?l_w_whole ?c_w_whole ?k_w_whole ?a_w_figs ?l_w_figs ?c_w_figs ?k_w_figs ?a_w_shape ?l_w_shape ?c_w_shape ?k_w_shape ?a_w_put ?l_w_put ?c_w_put ?k_w_put ?a_w_tilt ?l_w_tilt ?c_w_tilt ?k_w_tilt ?a_w_word ?l_w_word ?c_w_word ?k_w_word ?a_w_same ?l_w_same ?c_w_same ?k_w_same ?a_w_move ?l_w_move ?c_w_move ?k_w_move ?a_w_told ?l_w_told ?c_w_told ?k_w_told ?a_w_one ?l_w_one ?c_w_one ?k_w_one ?a_law ?l_law ?c_law ?k_law ?pg_Beam ?hd_Beam ?po_Beam ?sa_Beam ?mk_Beam ?kc_Beam ?na_Beam_notches ?na_Beam_room ?na_Beam_hefts ?na_Beam_limit ?ob_NoWeight ?mv_NoWeight ?sa_NoWeight ?kc_NoWeight ?ob_NoPlace ?mv_NoPlace ?sa_NoPlace ?kc_NoPlace ?ob_SamePlace ?mv_SamePlace ?sa_SamePlace ?kc_SamePlace ?ob_NoRoom ?mv_NoRoom ?sa_NoRoom ?kc_NoRoom ?ob_TipsInHand ?mv_TipsInHand ?sa_TipsInHand ?kc_TipsInHand ?ob_TipsBehind ?mv_TipsBehind ?sa_TipsBehind ?kc_TipsBehind ?na_NoWeight_reason ?na_NoWeight_word ?na_NoPlace_reason ?na_NoPlace_word ?na_SamePlace_reason ?na_SamePlace_word ?na_NoRoom_reason ?na_NoRoom_word ?na_TipsInHand_reason ?na_TipsInHand_word ?na_TipsBehind_reason ?na_TipsBehind_word ?xw1 ?xw2 ?cx_BeamError ?ty_BeamError ?cx_NoWeight ?ty_NoWeight ?cx_NoPlace ?ty_NoPlace ?cx_SamePlace ?ty_SamePlace ?cx_NoRoom ?ty_NoRoom ?cx_TipsInHand ?ty_TipsInHand ?cx_TipsBehind ?ty_TipsBehind ?be_BeamError ?xp_NoWeight ?xq_NoWeight ?xr_NoWeight ?xh_NoWeight ?xk_NoWeight ?xo_NoWeight ?sb_NoWeight_BeamError ?ne_NoWeight_NoPlace ?si_NoWeight_NoPlace ?ne_NoWeight_SamePlace ?si_NoWeight_SamePlace ?ne_NoWeight_NoRoom ?si_NoWeight_NoRoom ?ne_NoWeight_TipsInHand ?si_NoWeight_TipsInHand ?ne_NoWeight_TipsBehind ?si_NoWeight_TipsBehind ?st_NoWeight_ValueError ?xp_NoPlace ?xq_NoPlace ?xr_NoPlace ?xh_NoPlace ?xk_NoPlace ?xo_NoPlace ?sb_NoPlace_BeamError ?ne_NoPlace_NoWeight ?si_NoPlace_NoWeight ?ne_NoPlace_SamePlace ?si_NoPlace_SamePlace ?ne_NoPlace_NoRoom ?si_NoPlace_NoRoom ?ne_NoPlace_TipsInHand ?si_NoPlace_TipsInHand ?ne_NoPlace_TipsBehind ?si_NoPlace_TipsBehind ?st_NoPlace_ValueError ?xp_SamePlace ?xq_SamePlace ?xr_SamePlace ?xh_SamePlace ?xk_SamePlace ?xo_SamePlace ?sb_SamePlace_BeamError ?ne_SamePlace_NoWeight ?si_SamePlace_NoWeight ?ne_SamePlace_NoPlace ?si_SamePlace_NoPlace ?ne_SamePlace_NoRoom ?si_SamePlace_NoRoom ?ne_SamePlace_TipsInHand ?si_SamePlace_TipsInHand ?ne_SamePlace_TipsBehind ?si_SamePlace_TipsBehind ?st_SamePlace_ValueError ?xp_NoRoom ?xq_NoRoom ?xr_NoRoom ?xh_NoRoom ?xk_NoRoom ?xo_NoRoom ?sb_NoRoom_BeamError ?ne_NoRoom_NoWeight ?si_NoRoom_NoWeight ?ne_NoRoom_NoPlace ?si_NoRoom_NoPlace ?ne_NoRoom_SamePlace ?si_NoRoom_SamePlace ?ne_NoRoom_TipsInHand ?si_NoRoom_TipsInHand ?ne_NoRoom_TipsBehind ?si_NoRoom_TipsBehind ?st_NoRoom_ValueError ?xp_TipsInHand ?xq_TipsInHand ?xr_TipsInHand ?xh_TipsInHand ?xk_TipsInHand ?xo_TipsInHand ?sb_TipsInHand_BeamError ?ne_TipsInHand_NoWeight ?si_TipsInHand_NoWeight ?ne_TipsInHand_NoPlace ?si_TipsInHand_NoPlace ?ne_TipsInHand_SamePlace ?si_TipsInHand_SamePlace ?ne_TipsInHand_NoRoom ?si_TipsInHand_NoRoom ?ne_TipsInHand_TipsBehind ?si_TipsInHand_TipsBehind ?st_TipsInHand_ValueError ?xp_TipsBehind ?xq_TipsBehind ?xr_TipsBehind ?xh_TipsBehind ?xk_TipsBehind ?xo_TipsBehind ?sb_TipsBehind_BeamError ?ne_TipsBehind_NoWeight ?si_TipsBehind_NoWeight ?ne_TipsBehind_NoPlace ?si_TipsBehind_NoPlace ?ne_TipsBehind_SamePlace ?si_TipsBehind_SamePlace ?ne_TipsBehind_NoRoom ?si_TipsBehind_NoRoom ?ne_TipsBehind_TipsInHand ?si_TipsBehind_TipsInHand ?st_TipsBehind_ValueError ?ga_BeamError ?rd_BeamError ?fd_BeamError ?n_tuple ?n_len ?n_range ?n_sum ?n_zip ?n_abs ?n_isinstance ?n_int ?n_bool ?n_min ?n_ValueError ?n_list ?n_str ?g_MOST_NOTCHES ?g_MOST_ROOM ?g_MOST_LIMIT ?g_MOST_WEIGHTS ?g_MOST_HEFT ?g_MOST_STANDINGS
    (case a_Beam => k_is)
    (case a_NoWeight => k_is)
    (case a_NoPlace => k_is)
    (case a_SamePlace => k_is)
    (case a_NoRoom => k_is)
    (case a_TipsInHand => k_is)
    (case a_TipsBehind => k_is)
    (case a_BeamError => k_is)
    (case a_BeamError_init => k_is)
    (case i_BeamError_init => k_is)
    (case l_BeamError_init => k_is)
    (case c_BeamError_init => k_is)
    (case k_BeamError_init => k_is)
    (case dt_BeamError_init => k_is)
    (case a_NoWeight_init => k_is)
    (case i_NoWeight_init => k_is)
    (case l_NoWeight_init => k_is)
    (case c_NoWeight_init => k_is)
    (case k_NoWeight_init => k_is)
    (case dt_NoWeight_init => k_is)
    (case a_NoPlace_init => k_is)
    (case i_NoPlace_init => k_is)
    (case l_NoPlace_init => k_is)
    (case c_NoPlace_init => k_is)
    (case k_NoPlace_init => k_is)
    (case dt_NoPlace_init => k_is)
    (case a_SamePlace_init => k_is)
    (case i_SamePlace_init => k_is)
    (case l_SamePlace_init => k_is)
    (case c_SamePlace_init => k_is)
    (case k_SamePlace_init => k_is)
    (case dt_SamePlace_init => k_is)
    (case a_NoRoom_init => k_is)
    (case i_NoRoom_init => k_is)
    (case l_NoRoom_init => k_is)
    (case c_NoRoom_init => k_is)
    (case k_NoRoom_init => k_is)
    (case dt_NoRoom_init => k_is)
    (case a_TipsInHand_init => k_is)
    (case i_TipsInHand_init => k_is)
    (case l_TipsInHand_init => k_is)
    (case c_TipsInHand_init => k_is)
    (case k_TipsInHand_init => k_is)
    (case dt_TipsInHand_init => k_is)
    (case a_TipsBehind_init => k_is)
    (case i_TipsBehind_init => k_is)
    (case l_TipsBehind_init => k_is)
    (case c_TipsBehind_init => k_is)
    (case k_TipsBehind_init => k_is)
    (case dt_TipsBehind_init => k_is)
    (case a_Beam_init => k_is)
    (case i_Beam_init => k_is)
    (case l_Beam_init => k_is)
    (case c_Beam_init => k_is)
    (case k_Beam_init => k_is)
    (case a_outside => k_is)
    (case l_outside => k_is)
    (case c_outside => k_is)
    (case k_outside => k_is)
    (case a_check_bounds => k_is)
    (case l_check_bounds => k_is)
    (case c_check_bounds => k_is)
    (case k_check_bounds => k_is)
    (case a_check_hefts => k_is)
    (case l_check_hefts => k_is)
    (case c_check_hefts => k_is)
    (case k_check_hefts => k_is)
    (case a_check_standings => k_is)
    (case l_check_standings => k_is)
    (case c_check_standings => k_is)
    (case k_check_standings => k_is)
    (case a_as_standing => k_is)
    (case l_as_standing => k_is)
    (case c_as_standing => k_is)
    (case k_as_standing => k_is)
    (case a_tilt => k_is)
    (case l_tilt => k_is)
    (case c_tilt => k_is)
    (case k_tilt => k_is)
    (case a_past => k_is)
    (case l_past => k_is)
    (case c_past => k_is)
    (case k_past => k_is)
    (case a_in_hand => k_is)
    (case l_in_hand => k_is)
    (case c_in_hand => k_is)
    (case k_in_hand => k_is)
    (case a_refusal => k_is)
    (case l_refusal => k_is)
    (case c_refusal => k_is)
    (case k_refusal => k_is)
    (case a_moved => k_is)
    (case l_moved => k_is)
    (case c_moved => k_is)
    (case k_moved => k_is)
    (case a_behind => k_is)
    (case l_behind => k_is)
    (case c_behind => k_is)
    (case k_behind => k_is)
    (case a_full => k_is)
    (case l_full => k_is)
    (case c_full => k_is)
    (case k_full => k_is)
    (case a_check_move => k_is)
    (case l_check_move => k_is)
    (case c_check_move => k_is)
    (case k_check_move => k_is)
    (case a_check_weight => k_is)
    (case l_check_weight => k_is)
    (case c_check_weight => k_is)
    (case k_check_weight => k_is)
    (case a_check_put => k_is)
    (case l_check_put => k_is)
    (case c_check_put => k_is)
    (case k_check_put => k_is)
    (case a_check_tilts => k_is)
    (case l_check_tilts => k_is)
    (case c_check_tilts => k_is)
    (case k_check_tilts => k_is)
    (case a_w_at => k_is)
    (case l_w_at => k_is)
    (case c_w_at => k_is)
    (case k_w_at => k_is)
    (case a_w_whole => k_is)
    (case l_w_whole => k_is)
    (case c_w_whole => k_is)
    (case k_w_whole => k_is)
    (case a_w_figs => k_is)
    (case l_w_figs => k_is)
    (case c_w_figs => k_is)
    (case k_w_figs => k_is)
    (case a_w_shape => k_is)
    (case l_w_shape => k_is)
    (case c_w_shape => k_is)
    (case k_w_shape => k_is)
    (case a_w_put => k_is)
    (case l_w_put => k_is)
    (case c_w_put => k_is)
    (case k_w_put => k_is)
    (case a_w_tilt => k_is)
    (case l_w_tilt => k_is)
    (case c_w_tilt => k_is)
    (case k_w_tilt => k_is)
    (case a_w_word => k_is)
    (case l_w_word => k_is)
    (case c_w_word => k_is)
    (case k_w_word => k_is)
    (case a_w_same => k_is)
    (case l_w_same => k_is)
    (case c_w_same => k_is)
    (case k_w_same => k_is)
    (case a_w_move => k_is)
    (case l_w_move => k_is)
    (case c_w_move => k_is)
    (case k_w_move => k_is)
    (case a_w_told => k_is)
    (case l_w_told => k_is)
    (case c_w_told => k_is)
    (case k_w_told => k_is)
    (case a_w_one => k_is)
    (case l_w_one => k_is)
    (case c_w_one => k_is)
    (case k_w_one => k_is)
    (case a_law => k_is)
    (case l_law => k_is)
    (case c_law => k_is)
    (case k_law => k_is)
    (case pg_Beam => k_is)
    (case hd_Beam => k_is)
    (case po_Beam => k_is)
    (case sa_Beam => k_is)
    (case mk_Beam => k_is)
    (case kc_Beam => k_is)
    (case na_Beam_notches => k_is)
    (case na_Beam_room => k_is)
    (case na_Beam_hefts => k_is)
    (case na_Beam_limit => k_is)
    (case ob_NoWeight => k_is)
    (case mv_NoWeight => first | exact Or.inl rfl | exact Or.inr ⟨_, rfl⟩)
    (case sa_NoWeight => k_is)
    (case kc_NoWeight => k_is)
    (case ob_NoPlace => k_is)
    (case mv_NoPlace => first | exact Or.inl rfl | exact Or.inr ⟨_, rfl⟩)
    (case sa_NoPlace => k_is)
    (case kc_NoPlace => k_is)
    (case ob_SamePlace => k_is)
    (case mv_SamePlace => first | exact Or.inl rfl | exact Or.inr ⟨_, rfl⟩)
    (case sa_SamePlace => k_is)
    (case kc_SamePlace => k_is)
    (case ob_NoRoom => k_is)
    (case mv_NoRoom => first | exact Or.inl rfl | exact Or.inr ⟨_, rfl⟩)
    (case sa_NoRoom => k_is)
    (case kc_NoRoom => k_is)
    (case ob_TipsInHand => k_is)
    (case mv_TipsInHand => first | exact Or.inl rfl | exact Or.inr ⟨_, rfl⟩)
    (case sa_TipsInHand => k_is)
    (case kc_TipsInHand => k_is)
    (case ob_TipsBehind => k_is)
    (case mv_TipsBehind => first | exact Or.inl rfl | exact Or.inr ⟨_, rfl⟩)
    (case sa_TipsBehind => k_is)
    (case kc_TipsBehind => k_is)
    (case na_NoWeight_reason => k_is)
    (case na_NoWeight_word => k_is)
    (case na_NoPlace_reason => k_is)
    (case na_NoPlace_word => k_is)
    (case na_SamePlace_reason => k_is)
    (case na_SamePlace_word => k_is)
    (case na_NoRoom_reason => k_is)
    (case na_NoRoom_word => k_is)
    (case na_TipsInHand_reason => k_is)
    (case na_TipsInHand_word => k_is)
    (case na_TipsBehind_reason => k_is)
    (case na_TipsBehind_word => k_is)
    (case xw1 => k_is)
    (case xw2 => k_is)
    (case cx_BeamError => k_is)
    (case ty_BeamError => k_is)
    (case cx_NoWeight => k_is)
    (case ty_NoWeight => k_is)
    (case cx_NoPlace => k_is)
    (case ty_NoPlace => k_is)
    (case cx_SamePlace => k_is)
    (case ty_SamePlace => k_is)
    (case cx_NoRoom => k_is)
    (case ty_NoRoom => k_is)
    (case cx_TipsInHand => k_is)
    (case ty_TipsInHand => k_is)
    (case cx_TipsBehind => k_is)
    (case ty_TipsBehind => k_is)
    (case be_BeamError => k_is)
    (case xp_NoWeight => k_is)
    (case xq_NoWeight => k_is)
    (case xr_NoWeight => k_is)
    (case xh_NoWeight => k_is)
    (case xk_NoWeight => k_is)
    (case xo_NoWeight => k_is)
    (case sb_NoWeight_BeamError => k_is)
    (case ne_NoWeight_NoPlace => rfl)
    (case si_NoWeight_NoPlace => k_is)
    (case ne_NoWeight_SamePlace => rfl)
    (case si_NoWeight_SamePlace => k_is)
    (case ne_NoWeight_NoRoom => rfl)
    (case si_NoWeight_NoRoom => k_is)
    (case ne_NoWeight_TipsInHand => rfl)
    (case si_NoWeight_TipsInHand => k_is)
    (case ne_NoWeight_TipsBehind => rfl)
    (case si_NoWeight_TipsBehind => k_is)
    (case st_NoWeight_ValueError => k_is)
    (case xp_NoPlace => k_is)
    (case xq_NoPlace => k_is)
    (case xr_NoPlace => k_is)
    (case xh_NoPlace => k_is)
    (case xk_NoPlace => k_is)
    (case xo_NoPlace => k_is)
    (case sb_NoPlace_BeamError => k_is)
    (case ne_NoPlace_NoWeight => rfl)
    (case si_NoPlace_NoWeight => k_is)
    (case ne_NoPlace_SamePlace => rfl)
    (case si_NoPlace_SamePlace => k_is)
    (case ne_NoPlace_NoRoom => rfl)
    (case si_NoPlace_NoRoom => k_is)
    (case ne_NoPlace_TipsInHand => rfl)
    (case si_NoPlace_TipsInHand => k_is)
    (case ne_NoPlace_TipsBehind => rfl)
    (case si_NoPlace_TipsBehind => k_is)
    (case st_NoPlace_ValueError => k_is)
    (case xp_SamePlace => k_is)
    (case xq_SamePlace => k_is)
    (case xr_SamePlace => k_is)
    (case xh_SamePlace => k_is)
    (case xk_SamePlace => k_is)
    (case xo_SamePlace => k_is)
    (case sb_SamePlace_BeamError => k_is)
    (case ne_SamePlace_NoWeight => rfl)
    (case si_SamePlace_NoWeight => k_is)
    (case ne_SamePlace_NoPlace => rfl)
    (case si_SamePlace_NoPlace => k_is)
    (case ne_SamePlace_NoRoom => rfl)
    (case si_SamePlace_NoRoom => k_is)
    (case ne_SamePlace_TipsInHand => rfl)
    (case si_SamePlace_TipsInHand => k_is)
    (case ne_SamePlace_TipsBehind => rfl)
    (case si_SamePlace_TipsBehind => k_is)
    (case st_SamePlace_ValueError => k_is)
    (case xp_NoRoom => k_is)
    (case xq_NoRoom => k_is)
    (case xr_NoRoom => k_is)
    (case xh_NoRoom => k_is)
    (case xk_NoRoom => k_is)
    (case xo_NoRoom => k_is)
    (case sb_NoRoom_BeamError => k_is)
    (case ne_NoRoom_NoWeight => rfl)
    (case si_NoRoom_NoWeight => k_is)
    (case ne_NoRoom_NoPlace => rfl)
    (case si_NoRoom_NoPlace => k_is)
    (case ne_NoRoom_SamePlace => rfl)
    (case si_NoRoom_SamePlace => k_is)
    (case ne_NoRoom_TipsInHand => rfl)
    (case si_NoRoom_TipsInHand => k_is)
    (case ne_NoRoom_TipsBehind => rfl)
    (case si_NoRoom_TipsBehind => k_is)
    (case st_NoRoom_ValueError => k_is)
    (case xp_TipsInHand => k_is)
    (case xq_TipsInHand => k_is)
    (case xr_TipsInHand => k_is)
    (case xh_TipsInHand => k_is)
    (case xk_TipsInHand => k_is)
    (case xo_TipsInHand => k_is)
    (case sb_TipsInHand_BeamError => k_is)
    (case ne_TipsInHand_NoWeight => rfl)
    (case si_TipsInHand_NoWeight => k_is)
    (case ne_TipsInHand_NoPlace => rfl)
    (case si_TipsInHand_NoPlace => k_is)
    (case ne_TipsInHand_SamePlace => rfl)
    (case si_TipsInHand_SamePlace => k_is)
    (case ne_TipsInHand_NoRoom => rfl)
    (case si_TipsInHand_NoRoom => k_is)
    (case ne_TipsInHand_TipsBehind => rfl)
    (case si_TipsInHand_TipsBehind => k_is)
    (case st_TipsInHand_ValueError => k_is)
    (case xp_TipsBehind => k_is)
    (case xq_TipsBehind => k_is)
    (case xr_TipsBehind => k_is)
    (case xh_TipsBehind => k_is)
    (case xk_TipsBehind => k_is)
    (case xo_TipsBehind => k_is)
    (case sb_TipsBehind_BeamError => k_is)
    (case ne_TipsBehind_NoWeight => rfl)
    (case si_TipsBehind_NoWeight => k_is)
    (case ne_TipsBehind_NoPlace => rfl)
    (case si_TipsBehind_NoPlace => k_is)
    (case ne_TipsBehind_SamePlace => rfl)
    (case si_TipsBehind_SamePlace => k_is)
    (case ne_TipsBehind_NoRoom => rfl)
    (case si_TipsBehind_NoRoom => k_is)
    (case ne_TipsBehind_TipsInHand => rfl)
    (case si_TipsBehind_TipsInHand => k_is)
    (case st_TipsBehind_ValueError => k_is)
    (case ga_BeamError => k_is)
    (case rd_BeamError => k_is)
    (case fd_BeamError => k_is)
    (case n_tuple => k_is)
    (case n_len => k_is)
    (case n_range => k_is)
    (case n_sum => k_is)
    (case n_zip => k_is)
    (case n_abs => k_is)
    (case n_isinstance => k_is)
    (case n_int => k_is)
    (case n_bool => k_is)
    (case n_min => k_is)
    (case n_ValueError => k_is)
    (case n_list => k_is)
    (case n_str => k_is)
    (case g_MOST_NOTCHES => k_is)
    (case g_MOST_ROOM => k_is)
    (case g_MOST_LIMIT => k_is)
    (case g_MOST_WEIGHTS => k_is)
    (case g_MOST_HEFT => k_is)
    (case g_MOST_STANDINGS => k_is)

