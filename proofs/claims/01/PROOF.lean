import PyProof.Rows.All
import Wide.All
import OpenK.AllK
import Wide.FinOn
import PyProof.EqAt
import PyProof.EqKinds
import PyProof.TupleCall
import PyProof.SetScanFacts
import PyProof.Rows.SetFrom
import PyProof.WalksMore
import PyProof.Rows.Tup
import KE.BitLaws
import Open.SpecLaws
import KE.OsHead
import KE.OsGo
import PyFlatLaws
import PySem.Challenge.RW_warpwinding_s01_answers
section
set_option Elab.async false
set_option linter.all false
set_option maxRecDepth 100000
/-! THE HAND LAYER, for ints, bools, texts, own classes, lists, tuples, dicts, comprehensions, walks over dicts, enumerate, zip, reversed, texts, calls, loops. Paste it whole ahead of your own text; what your proof does not reach may be deleted. -/
namespace L2
open PySem PySem.Spec PyProof.Rows

/-- a key: an int or a str -/
abbrev Key := Sum Int Str
def keyIs : Key → Value → Bool
  | .inl k, v => Value.isInt k v
  | .inr x, v => Value.isStrOf x v
def keyH (w : World) : Key → Int
  | .inl k => hashInt k
  | .inr x => hashStr w x
theorem keyIs_shape : ∀ {k : Key} {v : Value}, keyIs k v = true → (∃ i t, k = Sum.inl i ∧ v = Value.int i t) ∨ (∃ x t, k = Sum.inr x ∧ v = Value.str x t)
  | .inl i, v, h => by
    obtain ⟨t, e⟩ := Value.isInt_shape (k := i) (v := v) h
    exact .inl ⟨i, t, rfl, e⟩
  | .inr x, v, h => by
    obtain ⟨t, e⟩ := Value.isStrOf_shape (x := x) (v := v) h
    exact .inr ⟨x, t, rfl, e⟩
theorem keyIs_int (i : Int) (t : Tok) : keyIs (.inl i) (.int i t) = true := by simp [keyIs, Value.isInt]
theorem keyIs_str (x : Str) (t : Tok) : keyIs (.inr x) (.str x t) = true := by simp [keyIs, Value.isStrOf]
theorem key_ll (a b : Int) : decide ((Sum.inl a : Key) = Sum.inl b) = (a == b) := by
  by_cases e : a = b
  · subst e; simp
  · have h : ¬ (Sum.inl a : Key) = Sum.inl b := fun q => e (Sum.inl.inj q)
    rw [decide_eq_false h]
    exact (beq_eq_false_iff_ne.mpr e).symm
theorem key_rr (a b : Str) : decide ((Sum.inr a : Key) = Sum.inr b) = decide (a = b) := by
  by_cases e : a = b
  · subst e; simp
  · have h : ¬ (Sum.inr a : Key) = Sum.inr b := fun q => e (Sum.inr.inj q)
    rw [decide_eq_false h, decide_eq_false e]
theorem key_lr (a : Int) (b : Str) : decide ((Sum.inl a : Key) = Sum.inr b) = false := decide_eq_false (fun q => nomatch q)
theorem key_rl (a : Str) (b : Int) : decide ((Sum.inr a : Key) = Sum.inl b) = false := decide_eq_false (fun q => nomatch q)

def mixKind (prog : Program) (w : World) : PySem.KeyKind prog w Key where
  is := keyIs
  hash := keyH w
  inj := fun v a b ha hb => by
    rcases keyIs_shape ha with ⟨i, t, rfl, rfl⟩ | ⟨x, t, rfl, rfl⟩
    · rcases keyIs_shape hb with ⟨j, u, rfl, e⟩ | ⟨y, u, rfl, e⟩
      · injection e with e1 _; rw [e1]
      · exact nomatch e
    · rcases keyIs_shape hb with ⟨j, u, rfl, e⟩ | ⟨y, u, rfl, e⟩
      · exact nomatch e
      · injection e with e1 _; rw [e1]
  byValue := fun k v h => by
    rcases keyIs_shape h with ⟨i, t, rfl, rfl⟩ | ⟨x, t, rfl, rfl⟩ <;> rfl
  pyHash := fun hv h => by
    rcases keyIs_shape hv with ⟨i, t, rfl, rfl⟩ | ⟨x, t, rfl, rfl⟩
    · exact wpAny_pyHash_int h
    · exact wpAny_pyHash_str h
  eqBool := fun hu hv h => by
    rcases keyIs_shape hu with ⟨i, t, rfl, rfl⟩ | ⟨x, t, rfl, rfl⟩
    · rcases keyIs_shape hv with ⟨j, u, rfl, rfl⟩ | ⟨y, u, rfl, rfl⟩
      · rw [key_ll] at h; exact wpAny_eqBool_int h
      · rw [key_lr] at h; exact SeqAt.EqAt.int_str i t y u _ _ _ _ h
    · rcases keyIs_shape hv with ⟨j, u, rfl, rfl⟩ | ⟨y, u, rfl, rfl⟩
      · rw [key_rl] at h; exact SeqAt.EqAt.str_int x t j u _ _ _ _ h
      · rw [key_rr] at h; exact wpAny_eqBool_str h
  «strs» := fun k x t v h => by
    rcases keyIs_shape h with ⟨i, u, rfl, e⟩ | ⟨y, u, rfl, e⟩
    · exact nomatch e
    · injection e with e1 _
      subst e1
      cases v <;> rfl

theorem mixKind_int (prog : Program) (w : World) (i : Int) (t : Tok) : (mixKind prog w).is (.inl i) (.int i t) = true := keyIs_int i t
theorem mixKind_str (prog : Program) (w : World) (x : Str) (t : Tok) : (mixKind prog w).is (.inr x) (.str x t) = true := keyIs_str x t
end L2

namespace L2
open PySem PySem.Spec PyProof.Rows

/-- a value, without the heap -/
inductive V where
  | non | bl (b : Bool) | int (i : Int) | str (x : Str) | byt (b : Array UInt8) | flt (b : UInt64) | ref (a : Addr) | ty (n : String)
  deriving DecidableEq

def RelV : V → Value → Prop
  | .non, u => u = Value.none
  | .bl b, u => u = Value.bool b
  | .int i, u => ∃ t, u = Value.int i t
  | .str x, u => ∃ t, u = Value.str x t
  | .byt b, u => ∃ t, u = Value.bytes b t
  | .flt b, u => ∃ t, u = Value.float b t
  | .ref a, u => u = Value.ref a
  | .ty n, u => u = Value.type n

abbrev Vals : List V → List Value → Prop := Paired RelV
theorem Vals.length {xs : List V} {us : List Value} (r : Vals xs us) : xs.length = us.length := Paired.length r
theorem Vals.get : ∀ {xs : List V} {us : List Value} {i : Nat} {x : V}, Vals xs us → xs[i]? = some x → ∃ u, us[i]? = some u ∧ RelV x u
  | _, _, _, _, .nil, e => by simp at e
  | _, _, 0, _, .cons r _, e => by simp at e; subst e; exact ⟨_, rfl, r⟩
  | _, _, i + 1, x, .cons _ t, e => by
    obtain ⟨u, h1, h2⟩ := Vals.get (i := i) (x := x) t (by simpa using e)
    exact ⟨u, by simpa using h1, h2⟩
theorem Vals.set {x : V} {u : Value} (r : RelV x u) : ∀ {xs : List V} {us : List Value} (i : Nat), Vals xs us → Vals (xs.set i x) (us.set i u)
  | _, _, _, .nil => .nil
  | _, _, 0, .cons _ t => .cons r t
  | _, _, i + 1, .cons q t => .cons q (Vals.set r i t)
theorem Vals.append : ∀ {xs ys : List V} {us ws : List Value}, Vals xs us → Vals ys ws → Vals (xs ++ ys) (us ++ ws)
  | _, _, _, _, .nil, s => s
  | _, _, _, _, .cons r t, s => .cons r (Vals.append t s)
theorem Vals.take : ∀ {xs : List V} {us : List Value} (n : Nat), Vals xs us → Vals (xs.take n) (us.take n)
  | _, _, 0, _ => .nil
  | _, _, _ + 1, .nil => .nil
  | _, _, n + 1, .cons r t => .cons r (Vals.take n t)
theorem Vals.drop : ∀ {xs : List V} {us : List Value} (n : Nat), Vals xs us → Vals (xs.drop n) (us.drop n)
  | _, _, 0, r => r
  | _, _, _ + 1, .nil => .nil
  | _, _, n + 1, .cons _ t => Vals.drop n t
theorem Vals.none_of : ∀ {xs : List V} {us : List Value} {i : Nat}, Vals xs us → xs[i]? = none → us[i]? = none := fun {xs us i} r e => by
  have h1 := r.length
  have h2 : xs.length ≤ i := List.getElem?_eq_none_iff.mp e
  exact List.getElem?_eq_none_iff.mpr (by omega)

def RelO : Option V → Option Value → Prop
  | some v, some u => RelV v u
  | none, none => True
  | _, _ => False
def KV {κ : Type} : List (κ × V) → List (κ × Value) → Prop := Paired fun (p : κ × V) (q : κ × Value) => p.1 = q.1 ∧ RelV p.2 q.2

/-- a key of a dict (00_mix): an int or a text -/
def kV : Key → V
  | .inl i => .int i
  | .inr x => .str x

/-- what stands at a tracked address -/
inductive HO where
  /-- a list -/
  | lst (xs : List V)
  /-- a tuple (never changes) -/
  | tup (xs : List V)
  /-- a dict whose keys are ints and texts; one whose keys are tuples of ints and texts (the empty one is both) -/
  | dK (kvs : List (Key × V)) | dT (kvs : List (List Key × V))
  /-- a set of ints: its members, its size -/
  | set (S : Int → Bool) (n : Nat)
  /-- an instance of the class at C, its dict at dx, its attributes -/
  | ins (C dx : Addr) (fs : List (Str × V))
  /-- the dict of the instance at x -/
  | own (x : Addr)
  /-- the dict of an exception -/
  | xd (fs : List (Str × V))
  /-- a bound method, f of x -/
  | met (f x : Addr)
  /-- a range object lo, lo + 1, .. below hi -/
  | rng (lo hi : Int)
  /-- a thing that is known to the object (the script; a dict while a loop walks it): read, never written while it is so -/
  | frz (o : Obj) (u : HO)
  /-- a code object's table -/
  | tbl (ps : Array Value)
  /-- any other thing, by what is true of its one object (a def of one's own: SetO a S n := HO.ext fun h => ..) -/
  | ext (φ : Heap → Prop)

abbrev Hp := Addr → Option HO
def upd (H : Hp) (a : Addr) (o : HO) : Hp := fun b => if b = a then some o else H b
theorem upd_same {H : Hp} {a : Addr} {o : HO} : upd H a o a = some o := by unfold upd; rw [if_pos rfl]
theorem upd_ne {H : Hp} {a b : Addr} {o : HO} (h : b ≠ a) : upd H a o b = H b := by unfold upd; rw [if_neg h]
/-- two objects of different content stand apart -/
theorem ne_of {H : Hp} {a b : Addr} {o u : HO} (h : H a = some o) (h' : H b = some u) (d : o ≠ u) : a ≠ b := by
  intro e; subst e; rw [h] at h'; exact d (Option.some.inj h')
theorem ne_of_none {H : Hp} {a b : Addr} {o : HO} (h : H a = some o) (h' : H b = none) : a ≠ b := by
  intro e; subst e; rw [h] at h'; cases h'

/-- a tuple, with no dict of its own -/
def IsTupD (h : Heap) (a : Addr) (items : Array Value) : Prop := ∃ o, h.get? a = some o ∧ o.cls = .type "tuple" ∧ ∃ n, (o.data, o.dict) = (Data.seq items n, none)
theorem IsTupD.tup {h : Heap} {a : Addr} {items : Array Value} (x : IsTupD h a items) : IsTup h a items := let ⟨o, e, c, n, d⟩ := x; ⟨o, e, c, n, congrArg Prod.fst d⟩
instance {h : Heap} {a : Addr} {items : Array Value} : Coe (IsTupD h a items) (IsTup h a items) := ⟨IsTupD.tup⟩
theorem IsTupD.lt {h : Heap} {a : Addr} {items : Array Value} (x : IsTupD h a items) : a < h.objs.size := x.tup.lt
theorem IsTupD.new (h : Heap) (items : Array Value) : IsTupD (h.push { cls := .type "tuple", data := .seq items }) h.objs.size items := ⟨_, Heap.get?_push_size _ rfl, rfl, _, rfl⟩
section
variable (P : Program) (w : World)
def ObjOk (H : Hp) (h : Heap) (a : Addr) : HO → Prop
  | .lst xs => xs.length ≤ sizeLine ∧ ∃ (its : List Value) (n : Nat), Vals xs its ∧ h.get? a = some { cls := .type "list", data := .seq its.toArray n }
  | .tup xs => xs.length ≤ sizeLine ∧ ∃ its : List Value, Vals xs its ∧ IsTupD h a its.toArray
  | .dK kvs => kvs.length ≤ sizeLine ∧ (a == sysModules) = false ∧ ∃ vs, KV kvs vs ∧ h.DictOf (mixKind P w) a vs
  | .dT kvs => kvs.length ≤ sizeLine ∧ (a == sysModules) = false ∧ ∃ xs : List (List Key × Addr × Value),
      Paired (fun (p : List Key × V) (q : List Key × Addr × Value) => p.1 = q.1 ∧ H q.2.1 = some (.tup (p.1.map kV)) ∧ RelV p.2 q.2.2) kvs xs ∧
      ∃ o es ep, h.get? a = some o ∧ o.ExactDict ∧ o.data = .dict es ep ∧ es.toList = xs.map (entryOfKey (tupleKind (mixKind P w))) ∧ (xs.map (·.1)).Nodup
  | .set S n => h.SetOf (intKind P w) a S n
  | .ins C dx fs => H dx = some (.own a) ∧ fs.length ≤ 1000 ∧ dx ≠ a ∧ h.get? a = some (PySem.W.instObj C dx) ∧
      ∃ mA, h.Ns1 dx mA ∧ (∀ f, RelO (fs.lookup f) (mA f)) ∧ PySem.Within mA (fs.map (·.1))
  | .own _ => ∃ o, h.get? a = some o
  | .xd fs => ∃ mA, h.Ns1 a mA ∧ ∀ f, RelO (fs.lookup f) (mA f)
  | .rng lo hi => ∃ t u v, h.get? a = some { cls := .type "range", data := .fields #[.int lo t, .int hi u, .int 1 v] }
  | .frz o u => h.get? a = some o ∧ ObjOk H h a u
  | .tbl ps => h.get? a = some { cls := .none, data := .fields ps }
  | .met f x => h.get? a = some (PySem.W.methodObj (.ref f) (.ref x))
  | .ext φ => φ h ∧ (∃ o, h.get? a = some o) ∧ ∀ h1 h2 : Heap, φ h1 → (∀ o, h1.get? a = some o → h2.get? a = some o) → φ h2
/-- the abstract heap is held -/
def HOk (H : Hp) (h : Heap) : Prop := ∀ a o, H a = some o → ObjOk P w H h a o
end

section
variable {P : Program} {w : World} {H H' : Hp} {h h' : Heap} {a : Addr} {o : HO}
theorem ObjOk.lt (x : ObjOk P w H h a o) : a < h.objs.size := by
  cases o with
  | lst xs => obtain ⟨_, _, _, _, e⟩ := x; exact Heap.lt_size e
  | tup xs => obtain ⟨_, _, _, p⟩ := x; exact p.lt
  | dK kvs => obtain ⟨_, _, _, _, o, _, _, e, _⟩ := x; exact Heap.lt_size e
  | dT kvs => obtain ⟨_, _, _, _, o, _, _, e, _⟩ := x; exact Heap.lt_size e
  | set S n => obtain ⟨o, _, _, _, e, _⟩ := x; exact Heap.lt_size e
  | ins C dx fs => obtain ⟨_, _, _, e, _⟩ := x; exact Heap.lt_size e
  | own y => obtain ⟨_, e⟩ := x; exact Heap.lt_size e
  | xd fs => obtain ⟨_, ⟨_, _, _, e, _⟩, _⟩ := x; exact Heap.lt_size e
  | rng lo hi => obtain ⟨_, _, _, e⟩ := x; exact Heap.lt_size e
  | frz ob u => obtain ⟨e, _⟩ := x; exact Heap.lt_size e
  | tbl ps => exact Heap.lt_size (show h.get? a = some _ from x)
  | met f y => exact Heap.lt_size (show h.get? a = some _ from x)
  | ext φ => obtain ⟨_, ⟨_, e⟩, _⟩ := x; exact Heap.lt_size e
theorem Paired.mapP {α β : Type} {F G : α → β → Prop} : ∀ {l₁ : List α} {l₂ : List β}, Paired F l₁ l₂ → (∀ a b, F a b → G a b) → Paired G l₁ l₂
  | _, _, .nil, _ => .nil
  | _, _, .cons r t, f => .cons (f _ _ r) (Paired.mapP t f)
/-- what an object's description leans on: its own object, its own dict, the tuples -/
theorem ObjOk.stay (x : ObjOk P w H h a o) (k : ∀ b u, (b = a ∨ H b = some (.own a)) → h.get? b = some u → h'.get? b = some u)
    (ho : ∀ b, H b = some (.own a) → H' b = some (.own a)) (ht : ∀ b xs, H b = some (.tup xs) → H' b = some (.tup xs)) : ObjOk P w H' h' a o := by
  induction o with
  | lst xs => obtain ⟨z, its, n, r, e⟩ := x; exact ⟨z, its, n, r, k _ _ (.inl rfl) e⟩
  | tup xs => obtain ⟨z, its, r, ob, e, c⟩ := x; exact ⟨z, its, r, ob, k _ _ (.inl rfl) e, c⟩
  | dK kvs => obtain ⟨z, y, vs, r, ob, es, ep, e, c⟩ := x; exact ⟨z, y, vs, r, ob, es, ep, k _ _ (.inl rfl) e, c⟩
  | dT kvs =>
    obtain ⟨z, y, xs, r, ob, es, ep, e, c⟩ := x
    exact ⟨z, y, xs, Paired.mapP r fun p q z => ⟨z.1, ht _ _ z.2.1, z.2.2⟩, ob, es, ep, k _ _ (.inl rfl) e, c⟩
  | set S n => obtain ⟨ob, es, ep, t, e, c⟩ := x; exact ⟨ob, es, ep, t, k _ _ (.inl rfl) e, c⟩
  | ins C dx fs =>
    obtain ⟨d, z, ne, e, mA, ⟨od, es, ep, e2, c⟩, r⟩ := x
    exact ⟨ho _ d, z, ne, k _ _ (.inl rfl) e, mA, ⟨od, es, ep, k _ _ (.inr d) e2, c⟩, r⟩
  | own y => obtain ⟨ob, e⟩ := x; exact ⟨ob, k _ _ (.inl rfl) e⟩
  | xd fs => obtain ⟨mA, ⟨od, es, ep, e, c⟩, r⟩ := x; exact ⟨mA, ⟨od, es, ep, k _ _ (.inl rfl) e, c⟩, r⟩
  | rng lo hi => obtain ⟨t, u, v, e⟩ := x; exact ⟨t, u, v, k _ _ (.inl rfl) e⟩
  | frz ob u ih => obtain ⟨e, q⟩ := x; exact ⟨k _ _ (.inl rfl) e, ih q⟩
  | tbl ps =>
    have e : h.get? a = some { cls := .none, data := .fields ps } := x
    show h'.get? a = some { cls := .none, data := .fields ps }
    exact k a _ (.inl rfl) e
  | met f y =>
    have e : h.get? a = some (PySem.W.methodObj (.ref f) (.ref y)) := x
    show h'.get? a = some (PySem.W.methodObj (.ref f) (.ref y))
    exact k a _ (.inl rfl) e
  | ext φ => obtain ⟨p, ⟨o, e⟩, st⟩ := x; exact ⟨st _ _ p fun o q => k _ _ (.inl rfl) q, ⟨o, k _ _ (.inl rfl) e⟩, st⟩
theorem HOk.lt (x : HOk P w H h) (e : H a = some o) : a < h.objs.size := (x a o e).lt
theorem HOk.fresh (x : HOk P w H h) (e : h.objs.size ≤ a) : H a = none := by
  cases q : H a with
  | none => rfl
  | some u => exact absurd (Nat.lt_of_lt_of_le (x.lt q) e) (Nat.lt_irrefl _)
/-- every object of the heap is kept -/
theorem HOk.kept (x : HOk P w H h) (k : ∀ b u, h.get? b = some u → h'.get? b = some u) : HOk P w H h' := fun a o e =>
  (x a o e).stay (fun b u _ q => k b u q) (fun _ q => q) fun _ _ q => q
/-- a new object is laid and tracked -/
theorem HOk.laid (x : HOk P w H h) (k : ∀ b u, h.get? b = some u → h'.get? b = some u) (hp : h.objs.size ≤ a) (new : ObjOk P w (upd H a o) h' a o) : HOk P w (upd H a o) h' := fun b u e => by
  have hn := x.fresh hp
  by_cases hb : b = a
  · subst hb; rw [upd_same] at e; cases e; exact new
  · rw [upd_ne hb] at e
    exact (x b u e).stay (fun c v _ q => k c v q) (fun c q => by rw [upd_ne (ne_of_none q hn)]; exact q) fun c xs q => by rw [upd_ne (ne_of_none q hn)]; exact q
end

/-- what may be read as u: it is u, or a known u -/
def Rd (H : Hp) (a : Addr) (u : HO) : Prop := H a = some u ∨ ∃ o, H a = some (.frz o u)
theorem Rd.of {H : Hp} {a : Addr} {u : HO} (h : H a = some u) : Rd H a u := .inl h
theorem Rd.ok {P : Program} {w : World} {H : Hp} {h : Heap} {a : Addr} {u : HO} (r : Rd H a u) (x : HOk P w H h) : ObjOk P w H h a u := by
  rcases r with r | ⟨o, r⟩
  · exact x a u r
  · obtain ⟨_, q⟩ := x a _ r
    exact q
/-- what may be written -/
def Mut : Option HO → Prop
  | some (.lst _) => True
  | some (.dK _) => True
  | some (.dT _) => True
  | some (.set _ _) => True
  | some (.ins _ _ _) => True
  | some (.ext _) => True
  | _ => False
section
variable {P : Program} {w : World} {H : Hp} {h h' : Heap} {x e : Addr} {o' : HO}
/-- the object at e is changed: x itself, or the dict of the instance x -/
theorem HOk.write (ok : HOk P w H h) (mu : Mut (H x)) (he : e = x ∨ H e = some (.own x)) (k : ∀ b u, b ≠ e → h.get? b = some u → h'.get? b = some u) (heo : ∃ u, h'.get? e = some u)
    (new : ObjOk P w (upd H x o') h' x o') : HOk P w (upd H x o') h' := fun b u q => by
  have nown : ∀ c y, H c = some (.own y) → c ≠ x := fun c y r z => by subst z; rw [r] at mu; exact mu
  have ntup : ∀ c xs, H c = some (.tup xs) → c ≠ x := fun c xs r z => by subst z; rw [r] at mu; exact mu
  by_cases hb : b = x
  · subst hb; rw [upd_same] at q; cases q; exact new
  · rw [upd_ne hb] at q
    by_cases hbe : b = e
    · have q' : H b = some (.own x) := by
        rcases he with z | z
        · exact absurd (hbe.trans z) hb
        · rw [hbe]; exact z
      rw [q] at q'; cases q'
      obtain ⟨v, hv⟩ := heo
      exact ⟨v, by rw [hbe]; exact hv⟩
    · refine (ok b u q).stay (fun c v hc r => k c v ?_ r) (fun c r => by rw [upd_ne (nown c b r)]; exact r) fun c xs r => by rw [upd_ne (ntup c xs r)]; exact r
      rcases hc with rfl | hc
      · exact hbe
      · rintro rfl
        rcases he with z | z
        · exact nown c b hc z
        · rw [hc] at z; cases z; exact hb rfl
end

/-! ### kept unless tracked; of the frames at fs (the callers') the slots may change (an exception that passes writes there); of the records at ex (iterators) nothing is said -/
structure Un (fs ex : List Addr) (H H' : Hp) (h h' : Heap) : Prop where
  keep : ∀ b o, h.get? b = some o → H b = none → b ∉ fs → b ∉ ex → h'.get? b = some o
  slot : ∀ b o, h.get? b = some o → H b = none → b ∈ fs → b ∉ ex → ∃ sl, h'.get? b = some { o with slots := sl }
  free : ∀ b o, h.get? b = some o → H b = none → b ∉ ex → H' b = none
  there : ∀ b o, h.get? b = some o → b ∉ ex → ∃ o', h'.get? b = some o'
  tups : ∀ b xs, H b = some (.tup xs) → H' b = some (.tup xs)
  frzs : ∀ b o u, H b = some (.frz o u) → H' b = some (.frz o u)
  tbls : ∀ b ps, H b = some (.tbl ps) → ∃ more, H' b = some (.tbl (ps ++ more))
section
variable {fs fs' ex ex' : List Addr} {H H1 H2 : Hp} {h h1 h2 h' : Heap} {a x e : Addr} {o : HO}
theorem Un.any (u : Un fs ex H H1 h h1) {b : Addr} {ob : Obj} (q : h.get? b = some ob) (n : H b = none) (hx : b ∉ ex) : ∃ sl, h1.get? b = some { ob with slots := sl } := by
  by_cases hb : b ∈ fs
  · exact u.slot b ob q n hb hx
  · exact ⟨ob.slots, u.keep b ob q n hb hx⟩
theorem Un.trans (a : Un fs ex H H1 h h1) (b : Un fs ex H1 H2 h1 h2) : Un fs ex H H2 h h2 where
  keep := fun c ob q n hc hx => b.keep c ob (a.keep c ob q n hc hx) (a.free c ob q n hx) hc hx
  slot := fun c ob q n hc hx => by
    obtain ⟨sl, e1⟩ := a.slot c ob q n hc hx
    obtain ⟨sl', e2⟩ := b.slot c _ e1 (a.free c ob q n hx) hc hx
    exact ⟨sl', e2⟩
  free := fun c ob q n hx => by
    obtain ⟨o', e1⟩ := a.there c ob q hx
    exact b.free c o' e1 (a.free c ob q n hx) hx
  there := fun c ob q hx => by
    obtain ⟨o', e1⟩ := a.there c ob q hx
    exact b.there c o' e1 hx
  tups := fun c xs q => b.tups c xs (a.tups c xs q)
  frzs := fun c ob xs q => b.frzs c ob xs (a.frzs c ob xs q)
  tbls := fun c ps q => by
    obtain ⟨m1, e1⟩ := a.tbls c ps q
    obtain ⟨m2, e2⟩ := b.tbls c _ e1
    exact ⟨m1 ++ m2, by rw [e2, Array.append_assoc]⟩
theorem Un.kept (k : ∀ b u, h.get? b = some u → h'.get? b = some u) : Un fs ex H H h h' :=
  ⟨fun b ob q _ _ _ => k b ob q, fun b ob q _ _ _ => ⟨ob.slots, k b ob q⟩, fun _ _ _ n _ => n, fun b ob q _ => ⟨ob, k b ob q⟩, fun _ _ q => q, fun _ _ _ q => q, fun _ ps q => ⟨#[], by rw [q]; simp⟩⟩
theorem Un.refl : Un fs ex H H h h := Un.kept fun _ _ q => q
theorem Un.laid (k : ∀ b u, h.get? b = some u → h'.get? b = some u) (hp : h.objs.size ≤ a) (hn : H a = none) : Un fs ex H (upd H a o) h h' where
  keep := fun b u q _ _ _ => k b u q
  slot := fun b u q _ _ _ => ⟨u.slots, k b u q⟩
  free := fun b u q n _ => by rw [upd_ne (Nat.ne_of_lt (Nat.lt_of_lt_of_le (Heap.lt_size q) hp))]; exact n
  there := fun b u q _ => ⟨u, k b u q⟩
  tups := fun b xs q => by rw [upd_ne (ne_of_none q hn)]; exact q
  frzs := fun b u xs q => by rw [upd_ne (ne_of_none q hn)]; exact q
  tbls := fun b ps q => ⟨#[], by rw [upd_ne (ne_of_none q hn), q]; simp⟩
theorem Un.write (mu : Mut (H x)) (he : e = x ∨ H e = some (.own x)) (k : ∀ b u, b ≠ e → h.get? b = some u → h'.get? b = some u) (heo : ∃ u, h'.get? e = some u) : Un fs ex H (upd H x o) h h' := by
  have hx : ∀ b, H b = none → b ≠ x := fun b n z => by subst z; rw [n] at mu; exact mu
  have hb : ∀ b, H b = none → b ≠ e := fun b n z => by
    subst z
    rcases he with r | r
    · exact hx b n r
    · rw [n] at r; cases r
  have hm : ∀ b u, H b = some u → ¬ Mut (some u) → b ≠ x := fun b u q nm z => by subst z; rw [q] at mu; exact nm mu
  refine ⟨fun b u q n _ _ => k b u (hb b n) q, fun b u q n _ _ => ⟨u.slots, k b u (hb b n) q⟩, fun b u q n _ => by rw [upd_ne (hx b n)]; exact n, fun b u q _ => ?_,
    fun b xs q => by rw [upd_ne (hm b _ q fun z => z)]; exact q, fun b u xs q => by rw [upd_ne (hm b _ q fun z => z)]; exact q, fun b ps q => ⟨#[], by rw [upd_ne (hm b _ q fun z => z), q]; simp⟩⟩
  by_cases hbe : b = e
  · subst hbe; exact heo
  · exact ⟨u, k b u hbe q⟩
theorem Un.mono (u : Un fs ex H H1 h h1) (hs : ∀ b ∈ fs, b ∈ fs') (hx : ∀ b ∈ ex, b ∈ ex') : Un fs' ex' H H1 h h1 :=
  ⟨fun b ob q n hb he => u.keep b ob q n (fun z => hb (hs b z)) fun z => he (hx b z), fun _ _ q n _ he => u.any q n fun z => he (hx _ z), fun b ob q n he => u.free b ob q n fun z => he (hx b z), fun b ob q he => u.there b ob q fun z => he (hx b z), u.tups, u.frzs, u.tbls⟩
end

/-! ### the heap without what is tracked -/
def trk (h : Heap) (H : Hp) : List Addr := (List.range h.objs.size).filter fun a => (H a).isSome
def hidT (h : Heap) (H : Hp) : Heap := PySem.W.hideAll h (trk h H)
theorem hidT_size (h : Heap) (H : Hp) : (hidT h H).objs.size = h.objs.size := PySem.W.hideAll_size _ _
theorem hidT_get {h : Heap} {H : Hp} {b : Addr} {o : Obj} (e : h.get? b = some o) (n : H b = none) : (hidT h H).get? b = some o :=
  PySem.W.hideAll_get _ e fun hm => by
    have q : (H b).isSome = true := (List.mem_filter.mp hm).2
    rw [n] at q; simp at q
theorem of_hidT {h : Heap} {H : Hp} {b : Addr} {o : Obj} (e : (hidT h H).get? b = some o) : h.get? b = some o ∧ H b = none := by
  have e' : h.get? b = some o := PySem.W.of_hideAll (trk h H) e
  refine ⟨e', ?_⟩
  cases q : H b with
  | none => rfl
  | some x =>
    have hm : b ∈ trk h H := List.mem_filter.mpr ⟨List.mem_range.mpr (Heap.lt_size e'), by simp [q]⟩
    have z : (hidT h H).get? b = none := PySem.W.hideAll_none (trk h H) hm
    rw [z] at e; cases e

/-! ### OpenK's ledger, filled with every new object but one -/
def allNews (g h : Heap) (L : Addr) : List (Addr × Obj) := (List.range h.objs.size).filterMap fun a => if a = L ∨ (g.get? a).isSome = true then none else (h.get? a).map fun o => (a, o)
def rest (g h : Heap) (L d : Addr) : List (Addr × Obj) := (allNews g h L).filter fun p => decide (p.1 ≠ d)
end L2

namespace L2
open PySem PySem.Spec PyProof.Rows

/-- the module's facts, over the base: the heap at the law's entry without what is tracked there -/
structure Mod (K : PySem.W.Frag) (mg : Str → Option Value) (base : Heap) : Prop where
  kin : K.In base
  glob : base.Ns mainGlobals mg
  blt : ∃ mb, base.Ns builtinsNs mb ∧ ∀ x : Str, x ≠ "__name__" → mb x = bootBuiltins x
  nolimit : base.NoLimit

/-- the context: a def's body (or a comprehension's block) running. base: fixed through the whole law; s₀, H₀: the entry; outer: the frames whose slots others may change (a def's callers); stack: all frames that run;
   ex: iterators that were made ahead of the entry and are walked here (a comprehension's); fn: the names whose cells were made at the entry (a def: all; a comprehension's block: its own); calm: not within an except suite; pn: pins that every state bears; xe: what is wanted of an exception that leaves the code -/
structure Cx where
  prog : Program
  w : World
  K : PySem.W.Frag
  mg : Str → Option Value
  base : Heap
  A : Around
  N : List Str
  s_0 : Shared
  H_0 : Hp
  env : Env
  outer : List Env
  stack : List Env
  ex : List Addr
  fn : Str → Bool
  calm : Bool
  pn : List (Addr × Obj)
  xe : Value → Shared → Prop
/-- the callers' frames -/
def frs (l : List Env) : List Addr := l.filterMap (·.frame)
abbrev Cx.fs (X : Cx) : List Addr := frs X.outer

def Vis (sc : Scope) (x : Str) : Prop := sc.names.lookup x = some .local ∨ sc.names.lookup x = some .cell ∨ sc.names.lookup x = some .free
def Loc (sc : Scope) (x : Str) : Prop := sc.names.lookup x = some .local ∨ sc.names.lookup x = some .cell
def Look (env : Env) (h : Heap) (m : Str → Option Value) (x : Str) (u : Value) : Prop :=
  (env.kindOf x = some .local ∧ m x = some u) ∨ ((env.kindOf x = some .cell ∨ env.kindOf x = some .free) ∧ ∃ c, env.cells.lookup x = some c ∧ h.IsCell c (some u))

structure Cx.Ok (X : Cx) : Prop where
  mod : Mod X.K X.mg X.base
  kind : X.env.scope.kind = .function
  glob : X.env.globals = mainGlobals
  blt : X.env.builtins = builtinsNs
  above : X.s_0.heap.objs.size ≤ X.env.locals
  inj : ∀ x y c, X.env.cells.lookup x = some c → X.env.cells.lookup y = some c → x = y
  has : ∀ x, (X.env.kindOf x = some .cell ∨ X.env.kindOf x = some .free) → ∃ c, X.env.cells.lookup x = some c
  cab : ∀ x c, X.fn x = true → X.env.cells.lookup x = some c → X.s_0.heap.objs.size ≤ c
  hd : X.calm = true → X.A.handled = none
  frames : X.A.frames = some X.stack
  stk : X.stack = X.outer ∨ (X.stack = X.env :: X.outer ∧ X.env.frame = some X.env.locals)
  exf : ∀ b ∈ X.ex, b ≠ X.env.locals ∧ ∀ x c, X.env.cells.lookup x = some c → c ≠ b
  bs : ∀ b o, X.base.get? b = some o → X.s_0.heap.get? b = some o ∧ X.H_0 b = none
  bsz : X.base.objs.size ≤ X.s_0.heap.objs.size
  noex : ∀ b o, X.base.get? b = some o → b ∉ X.ex
  exfs : ∀ b ∈ X.ex, b ∉ X.fs
  funs : X.s_0.heap.FunFrames X.base X.outer
  frf : ∀ b ∈ X.fs, X.H_0 b = none

structure Inv (X : Cx) (pins : List (Addr × Obj)) (σ : List (Option V)) (H : Hp) (s : Shared) : Prop where
  ok : X.Ok
  os : s.os = X.s_0.os
  bare : AllBare s.gens
  base : Un X.fs X.ex X.H_0 H X.s_0.heap s.heap
  loc : ∃ m, s.heap.Ns X.env.locals m ∧ ∀ (i : Nat) (x : Str) (v : V), X.N[i]? = some x → σ[i]? = some (some v) → Vis X.env.scope x → ∃ u, RelV v u ∧ Look X.env s.heap m x u
  cell : ∀ x c, X.env.cells.lookup x = some c → ∃ v, s.heap.IsCell c v
  free : H X.env.locals = none
  freeC : ∀ x c, X.env.cells.lookup x = some c → H c = none
  pin : ∀ p ∈ X.pn ++ pins, s.heap.get? p.1 = some p.2 ∧ H p.1 = none ∧ p.1 ≠ X.env.locals ∧ p.1 ∉ X.fs ∧ ∀ v, p.2.data ≠ .cell v
  hok : HOk X.prog X.w H s.heap
  len : σ.length = X.N.length

section
variable {X : Cx} {pins : List (Addr × Obj)} {σ : List (Option V)} {H H' : Hp} {s : Shared} {h' : Heap}

theorem Cx.Ok.nofr (ok : X.Ok) {b : Addr} {o : Obj} (e : X.base.get? b = some o) : b ∉ X.fs := fun hb => by
  have := (ok.funs.mem hb).1
  rw [e] at this; cases this
theorem Inv.bs (I : Inv X pins σ H s) : ∀ b o, X.base.get? b = some o → s.heap.get? b = some o ∧ H b = none := fun b o e =>
  ⟨I.base.keep b o (I.ok.bs b o e).1 (I.ok.bs b o e).2 (I.ok.nofr e) (I.ok.noex b o e), I.base.free b o (I.ok.bs b o e).1 (I.ok.bs b o e).2 (I.ok.noex b o e)⟩
theorem Inv.bk (I : Inv X pins σ H s) : ∀ b o, X.base.get? b = some o → s.heap.get? b = some o := fun b o e => (I.bs b o e).1
theorem Inv.mod (I : Inv X pins σ H s) : Mod X.K X.mg X.base := I.ok.mod
theorem Inv.kIn (I : Inv X pins σ H s) : X.K.In s.heap := I.ok.mod.kin.keeps I.bk
theorem Inv.nolimit (I : Inv X pins σ H s) : s.heap.NoLimit := I.ok.mod.nolimit.keeps I.bk
theorem Inv.lt (I : Inv X pins σ H s) : X.env.locals < s.heap.objs.size := let ⟨_, hn, _⟩ := I.loc; hn.lt
theorem Inv.sz (I : Inv X pins σ H s) : X.s_0.heap.objs.size ≤ s.heap.objs.size := Nat.le_trans I.ok.above (Nat.le_of_lt I.lt)
theorem Inv.nofs (I : Inv X pins σ H s) {a : Addr} (h : s.heap.objs.size ≤ a) : a ∉ X.fs := fun hb => by
  obtain ⟨_, o, ho, _⟩ := I.ok.funs.mem hb
  exact absurd (Nat.lt_of_lt_of_le (Heap.lt_size ho) (Nat.le_trans I.sz h)) (Nat.lt_irrefl _)
theorem Inv.cne (I : Inv X pins σ H s) : ∀ x c, X.env.cells.lookup x = some c → c ≠ X.env.locals := fun x c e z => by
  obtain ⟨v, o, ho, hd⟩ := I.cell x c e
  obtain ⟨m, ⟨o', es, ep, ho', hd', _⟩, _⟩ := I.loc
  rw [z, ho'] at ho; cases ho; rw [hd'] at hd; cases hd
theorem Inv.funs (I : Inv X pins σ H s) : s.heap.FunFrames X.base X.outer := by
  have all : ∀ (l : List Env), (∀ b ∈ frs l, b ∈ X.fs) → X.s_0.heap.FunFrames X.base l → s.heap.FunFrames X.base l := by
    intro l
    induction l with
    | nil => intro _ _; trivial
    | cons env r ih =>
      intro hs hl
      obtain ⟨hk, ⟨L, o, hf, hn, ho, hd⟩, hr⟩ := hl
      have hL : L ∈ X.fs := hs L (by unfold frs; rw [List.filterMap_cons, hf]; exact List.mem_cons_self)
      obtain ⟨sl, e⟩ := I.base.slot L o ho (I.ok.frf L hL) hL fun z => I.ok.exfs L z hL
      exact ⟨hk, ⟨L, _, hf, hn, e, hd⟩, ih (fun b hb => hs b (by unfold frs; rw [List.filterMap_cons, hf]; exact List.mem_cons_of_mem _ hb)) hr⟩
  exact all X.outer (fun _ hb => hb) I.ok.funs

/-- the frames that run, for a call -/
theorem Inv.stack (I : Inv X pins σ H s) : s.heap.FunFrames X.base X.stack := by
  rcases I.ok.stk with e | ⟨e, hf⟩
  · rw [e]; exact I.funs
  · rw [e]
    obtain ⟨m, hn, _⟩ := I.loc
    refine .cons (by rw [I.ok.kind]; decide) hf hn ?_ I.funs
    exact Heap.get?_none_of_le (Nat.le_trans I.ok.bsz I.ok.above)
theorem Inv.stkSub (I : Inv X pins σ H s) : ∀ b ∈ frs X.stack, b ∈ X.env.locals :: X.fs := fun b hb => by
  rcases I.ok.stk with e | ⟨e, hf⟩
  · rw [e] at hb; exact List.mem_cons_of_mem _ hb
  · rw [e] at hb
    unfold frs at hb
    rw [List.filterMap_cons, hf] at hb
    exact hb
theorem Inv.stkFree (I : Inv X pins σ H s) : ∀ b ∈ frs X.stack, H b = none := fun b hb => by
  rcases List.mem_cons.mp (I.stkSub b hb) with e | hb
  · rw [e]; exact I.free
  · obtain ⟨_, o, ho, _⟩ := I.ok.funs.mem hb
    exact I.base.free b o ho (I.ok.frf b hb) fun z => I.ok.exfs b z hb

/-- THE STEP: the untracked objects but the frame and the records at ch are kept (the callers' frames up to slots), the frame's map is kept, the new abstract heap is held -/
theorem Inv.step {g' : Array GenState} {t' : Nat} {d' : Drawn} {ch : List Addr} (I : Inv X pins σ H s)
    (hch : ∀ b ∈ ch, (b ∈ X.ex ∨ X.s_0.heap.objs.size ≤ b) ∧ b ≠ X.env.locals ∧ (∀ x c, X.env.cells.lookup x = some c → c ≠ b) ∧ ∀ p ∈ X.pn ++ pins, p.1 ≠ b)
    (keep : ∀ b o, b ≠ X.env.locals → b ∉ X.fs → b ∉ ch → s.heap.get? b = some o → H b = none → h'.get? b = some o)
    (slot : ∀ b o, b ≠ X.env.locals → b ∈ X.fs → b ∉ ch → s.heap.get? b = some o → H b = none → ∃ sl, h'.get? b = some { o with slots := sl }) (free : ∀ b o, b ∉ ch → s.heap.get? b = some o → H b = none → H' b = none)
    (there : ∀ b o, b ∉ ch → s.heap.get? b = some o → ∃ o', h'.get? b = some o')
    (tups : ∀ b xs, H b = some (.tup xs) → H' b = some (.tup xs)) (frzs : ∀ b o u, H b = some (.frz o u) → H' b = some (.frz o u)) (tbls : ∀ b ps, H b = some (.tbl ps) → ∃ more, H' b = some (.tbl (ps ++ more)))
    (ns : ∀ m, s.heap.Ns X.env.locals m → h'.Ns X.env.locals m) (hok : HOk X.prog X.w H' h') (hg : AllBare g') :
    Inv X pins σ H' { s with heap := h', gens := g', drawn := d', toks := t' } := by
  have neL : ∀ b o, X.s_0.heap.get? b = some o → b ≠ X.env.locals := fun b o e => Nat.ne_of_lt (Nat.lt_of_lt_of_le (Heap.lt_size e) I.ok.above)
  have neC : ∀ b o, X.s_0.heap.get? b = some o → b ∉ X.ex → b ∉ ch := fun b o e hx hb => by
    rcases (hch b hb).1 with z | z
    · exact hx z
    · exact absurd (Nat.lt_of_lt_of_le (Heap.lt_size e) z) (Nat.lt_irrefl _)
  have cellK : ∀ x c, X.env.cells.lookup x = some c → ∀ v, s.heap.IsCell c v → h'.IsCell c v := fun x c e v ⟨o, ho, hd⟩ => by
    have nch : c ∉ ch := fun z => (hch c z).2.2.1 x c e rfl
    by_cases hc : c ∈ X.fs
    · obtain ⟨sl, q⟩ := slot c o (I.cne x c e) hc nch ho (I.freeC x c e)
      exact ⟨_, q, hd⟩
    · exact ⟨o, keep c o (I.cne x c e) hc nch ho (I.freeC x c e), hd⟩
  refine ⟨I.ok, I.os, hg, ⟨fun b o e n hb hx => ?_, fun b o e n hb hx => ?_, fun b o e n hx => ?_, fun b o e hx => ?_, fun b xs e => tups b xs (I.base.tups b xs e), fun b o xs e => frzs b o xs (I.base.frzs b o xs e), fun b ps e => ?_⟩, ?_, fun x c e => ?_, ?_, fun x c e => ?_, fun p hp => ?_, hok, I.len⟩
  · exact keep b o (neL b o e) hb (neC b o e hx) (I.base.keep b o e n hb hx) (I.base.free b o e n hx)
  · obtain ⟨sl, e1⟩ := I.base.slot b o e n hb hx
    obtain ⟨sl', e2⟩ := slot b _ (neL b o e) hb (neC b o e hx) e1 (I.base.free b o e n hx)
    exact ⟨sl', e2⟩
  · obtain ⟨o', e1⟩ := I.base.there b o e hx
    exact free b o' (neC b o e hx) e1 (I.base.free b o e n hx)
  · obtain ⟨o', e1⟩ := I.base.there b o e hx
    exact there b o' (neC b o e hx) e1
  · obtain ⟨m1, e1⟩ := I.base.tbls b ps e
    obtain ⟨m2, e2⟩ := tbls b _ e1
    exact ⟨m1 ++ m2, by rw [e2, Array.append_assoc]⟩
  · obtain ⟨m, hn, hl⟩ := I.loc
    refine ⟨m, ns m hn, fun i x v e1 e2 e3 => ?_⟩
    obtain ⟨u, r, l⟩ := hl i x v e1 e2 e3
    refine ⟨u, r, ?_⟩
    rcases l with l | ⟨k, c, e, z⟩
    · exact .inl l
    · exact .inr ⟨k, c, e, cellK x c e _ z⟩
  · obtain ⟨v, z⟩ := I.cell x c e
    exact ⟨v, cellK x c e v z⟩
  · obtain ⟨m, ⟨o, _, _, ho, _⟩, _⟩ := I.loc
    exact free _ o (fun z => (hch _ z).2.1 rfl) ho I.free
  · obtain ⟨v, o, ho, hd⟩ := I.cell x c e
    exact free c o (fun z => (hch c z).2.2.1 x c e rfl) ho (I.freeC x c e)
  · obtain ⟨e, n, ne, nf, d⟩ := I.pin p hp
    have nch : p.1 ∉ ch := fun z => (hch p.1 z).2.2.2 p hp rfl
    exact ⟨keep p.1 p.2 ne nf nch e n, free p.1 p.2 nch e n, ne, nf, d⟩
/-- .. where the frame's own object is kept too -/
theorem Inv.un {t' : Nat} (I : Inv X pins σ H s) (u : Un X.fs [] H H' s.heap h') (hok : HOk X.prog X.w H' h') : Inv X pins σ H' { s with heap := h', toks := t' } := by
  obtain ⟨m, ⟨o, es, ep, ho, r⟩, _⟩ := id I.loc
  obtain ⟨sl, hL⟩ := u.any ho I.free (by simp)
  exact I.step (g' := s.gens) (d' := s.drawn) (ch := []) (fun _ z => nomatch z) (fun b o _ hb _ e n => u.keep b o e n hb (by simp)) (fun b o _ hb _ e n => u.slot b o e n hb (by simp)) (fun b o _ e n => u.free b o e n (by simp)) (fun b o _ e => u.there b o e (by simp)) u.tups u.frzs u.tbls (fun m' hm => by
    obtain ⟨o', es', ep', ho', r'⟩ := hm
    rw [ho] at ho'; cases ho'
    exact ⟨_, es', ep', hL, r'⟩) hok I.bare
/-- behind a call (or a comprehension's block): the slots of this frame may have changed too, the records at ch may have turned -/
theorem Inv.call {g' : Array GenState} {t' : Nat} {d' : Drawn} {ch : List Addr} (I : Inv X pins σ H s) (u : Un (frs X.stack) ch H H' s.heap h') (hok : HOk X.prog X.w H' h') (hg : AllBare g')
    (hch : ∀ b ∈ ch, (b ∈ X.ex ∨ X.s_0.heap.objs.size ≤ b) ∧ b ≠ X.env.locals ∧ (∀ x c, X.env.cells.lookup x = some c → c ≠ b) ∧ ∀ p ∈ X.pn ++ pins, p.1 ≠ b) :
    Inv X pins σ H' { s with heap := h', gens := g', drawn := d', toks := t' } := by
  obtain ⟨m, ⟨o, es, ep, ho, r⟩, _⟩ := id I.loc
  obtain ⟨sl, hL⟩ := u.any ho I.free fun z => (hch _ z).2.1 rfl
  exact I.step (ch := ch) hch (fun b o hL hb hc e n => u.keep b o e n (fun z => (List.mem_cons.mp (I.stkSub b z)).elim hL hb) hc) (fun b o _ _ hc e n => u.any e n hc) (fun b o hc e n => u.free b o e n hc) (fun b o hc e => u.there b o e hc) u.tups u.frzs u.tbls (fun m' hm => by
    obtain ⟨o', es', ep', ho', r'⟩ := hm
    rw [ho] at ho'; cases ho'
    exact ⟨_, es', ep', hL, r'⟩) hok hg
/-- an untracked record of ours (an iterator) has turned -/
theorem Inv.turned {t' : Nat} {it : Addr} (I : Inv X pins σ H s) (k : ∀ b o, b ≠ it → s.heap.get? b = some o → h'.get? b = some o) (hn : H it = none) (hL : it ≠ X.env.locals)
    (h1 : it ∈ X.ex ∨ X.s_0.heap.objs.size ≤ it) (h2 : ∀ x c, X.env.cells.lookup x = some c → c ≠ it) (h3 : ∀ p ∈ X.pn ++ pins, p.1 ≠ it) : Inv X pins σ H { s with heap := h', toks := t' } := by
  have nit : ∀ b u, H b = some u → b ≠ it := fun b u e z => by rw [z, hn] at e; cases e
  refine I.step (g' := s.gens) (d' := s.drawn) (ch := [it]) (fun b hb => ?_) (fun b o _ _ hc e _ => k b o (fun z => hc (by simp [z])) e) (fun b o _ _ hc e _ => ⟨o.slots, k b o (fun z => hc (by simp [z])) e⟩) (fun _ _ _ _ n => n)
    (fun b o hc e => ⟨o, k b o (fun z => hc (by simp [z])) e⟩) (fun _ _ e => e) (fun _ _ _ e => e) (fun b ps e => ⟨#[], by rw [e]; simp⟩) (fun m hm => ?_) (fun b u e => ?_) I.bare
  · have e : b = it := by simpa using hb
    subst e
    exact ⟨h1, hL, h2, h3⟩
  · obtain ⟨o, es, ep, ho, r⟩ := hm
    exact ⟨o, es, ep, k _ o (Ne.symm hL) ho, r⟩
  · refine (I.hok b u e).stay (fun c v hc q => k c v ?_ q) (fun _ q => q) fun _ _ q => q
    rcases hc with z | z
    · rw [z]; exact nit b u e
    · exact nit c _ z
theorem Inv.tok (I : Inv X pins σ H s) (t : Nat) : Inv X pins σ H { s with toks := t } := I.un (h' := s.heap) (t' := t) Un.refl I.hok
/-- all objects kept -/
theorem Inv.kept {t' : Nat} (I : Inv X pins σ H s) (k : ∀ b u, s.heap.get? b = some u → h'.get? b = some u) : Inv X pins σ H { s with heap := h', toks := t' } := I.un (Un.kept k) (I.hok.kept k)
/-- a new object laid and tracked -/
theorem Inv.laid {a : Addr} {o : HO} {t' : Nat} (I : Inv X pins σ H s) (k : ∀ b u, s.heap.get? b = some u → h'.get? b = some u) (hp : s.heap.objs.size ≤ a) (new : ObjOk X.prog X.w (upd H a o) h' a o) :
    Inv X pins σ (upd H a o) { s with heap := h', toks := t' } := I.un (Un.laid k hp (I.hok.fresh hp)) (I.hok.laid k hp new)
/-- an object written -/
theorem Inv.write {x e : Addr} {o : HO} {t' : Nat} (I : Inv X pins σ H s) (mu : Mut (H x)) (he : e = x ∨ H e = some (.own x)) (k : ∀ b u, b ≠ e → s.heap.get? b = some u → h'.get? b = some u) (heo : ∃ u, h'.get? e = some u)
    (new : ObjOk X.prog X.w (upd H x o) h' x o) : Inv X pins σ (upd H x o) { s with heap := h', toks := t' } := I.un (Un.write mu he k heo) (I.hok.write mu he k heo new)
/-- forgetting slots, pins -/
theorem Inv.weak {σ' : List (Option V)} (I : Inv X pins σ H s) (hl : σ'.length = σ.length) (w : ∀ (i : Nat) v, σ'[i]? = some (some v) → σ[i]? = some (some v)) : Inv X pins σ' H s :=
  ⟨I.ok, I.os, I.bare, I.base, let ⟨m, hn, hl'⟩ := I.loc; ⟨m, hn, fun i x v e1 e2 e3 => hl' i x v e1 (w i v e2) e3⟩, I.cell, I.free, I.freeC, I.pin, I.hok, hl.trans I.len⟩
theorem Inv.pins_of {pins' : List (Addr × Obj)} (I : Inv X pins σ H s) (h : ∀ p ∈ pins', s.heap.get? p.1 = some p.2 ∧ H p.1 = none ∧ p.1 ≠ X.env.locals ∧ p.1 ∉ X.fs ∧ ∀ v, p.2.data ≠ .cell v) : Inv X pins' σ H s :=
  ⟨I.ok, I.os, I.bare, I.base, I.loc, I.cell, I.free, I.freeC, fun p hp => (List.mem_append.mp hp).elim (fun z => I.pin p (List.mem_append_left _ z)) (h p), I.hok, I.len⟩

theorem nodup_ix {N : List Str} (hN : N.Nodup) {i j : Nat} {x : Str} (a : N[i]? = some x) (b : N[j]? = some x) : i = j := by
  obtain ⟨h1, e1⟩ := List.getElem?_eq_some_iff.mp a
  obtain ⟨h2, e2⟩ := List.getElem?_eq_some_iff.mp b
  exact (List.getElem_inj hN).mp (e1.trans e2.symm)

/-- a name is stored; what changed -/
theorem store_ok2 {M : Model} {A : Around} {E : Value → Shared → Prop} {i : Nat} {x : Str} {v : V} {u : Value} {Q : Unit → Shared → Prop} (I : Inv X pins σ H s) (hN : X.N.Nodup) (hi : X.N[i]? = some x) (hx : Loc X.env.scope x) (r : RelV v u)
    (h : ∀ s', Inv X pins (σ.set i (some v)) H s' → (∃ a, Heap.SameBut a s.heap s'.heap ∧ (a = X.env.locals ∨ X.env.cells.lookup x = some a)) → Q () s') (hf : X.fn x = true ∨ X.env.scope.names.lookup x = some .local := by first | exact .inl rfl | exact .inr rfl | assumption) : wpAny M A (storeName X.env x u) Q E s := by
  obtain ⟨m, hn, hl⟩ := id I.loc
  have hcls : (X.env.scope.kind == .class || (X.env.scope.kind == .module && X.env.locals != X.env.globals)) = false := by rw [I.ok.kind]; rfl
  have hiσ : i < σ.length := by rw [I.len]; exact (List.getElem?_eq_some_iff.mp hi).1
  have cne := I.cne
  have tracked : ∀ {a : Addr} {h' : Heap}, (∃ o, s.heap.get? a = some o ∧ H a = none) → Heap.SameBut a s.heap h' → HOk X.prog X.w H h' := fun {a h'} ha hs b ob e => by
    obtain ⟨_, _, hfree⟩ := ha
    refine (I.hok b ob e).stay (fun c w' hc q => (hs.2 c ?_).trans q) (fun _ q => q) fun _ _ q => q
    rintro rfl
    rcases hc with rfl | hc
    · rw [hfree] at e; cases e
    · rw [hfree] at hc; cases hc
  rcases hx with hk | hk
  · refine wpAny_storeName_local hk hn (fun h' hn' hs => ?_) hcls
    obtain ⟨oL, _, _, hoL, _⟩ := id hn
    refine h _ ⟨I.ok, I.os, I.bare, ⟨fun b o e n hb hx => ?_, fun b o e n hb hx => ?_, I.base.free, fun b o e hx => ?_, I.base.tups, I.base.frzs, I.base.tbls⟩, ⟨_, hn', fun j y v' e1 e2 e3 => ?_⟩, fun y c e => ?_, I.free, I.freeC, fun p hp => ?_, tracked ⟨oL, hoL, I.free⟩ hs, by simpa using I.len⟩ ⟨_, hs, .inl rfl⟩
    · exact (hs.2 b (Nat.ne_of_lt (Nat.lt_of_lt_of_le (Heap.lt_size e) I.ok.above))).trans (I.base.keep b o e n hb hx)
    · obtain ⟨sl, e1⟩ := I.base.slot b o e n hb hx
      exact ⟨sl, (hs.2 b (Nat.ne_of_lt (Nat.lt_of_lt_of_le (Heap.lt_size e) I.ok.above))).trans e1⟩
    · obtain ⟨o', e1⟩ := I.base.there b o e hx
      exact ⟨o', (hs.2 b (Nat.ne_of_lt (Nat.lt_of_lt_of_le (Heap.lt_size e) I.ok.above))).trans e1⟩
    · by_cases hj : j = i
      · subst hj
        rw [hi] at e1; cases e1
        rw [List.getElem?_set_self hiσ] at e2
        cases e2
        exact ⟨u, r, .inl ⟨hk, by simp⟩⟩
      · rw [List.getElem?_set_ne (Ne.symm hj)] at e2
        obtain ⟨u', r', q⟩ := hl j y v' e1 e2 e3
        refine ⟨u', r', ?_⟩
        rcases q with ⟨k, e⟩ | ⟨k, c, e, z⟩
        · refine .inl ⟨k, ?_⟩
          have : y ≠ x := fun e => hj (nodup_ix hN e1 (e ▸ hi))
          simp [this, e]
        · exact .inr ⟨k, c, e, z.sameBut hs (cne y c e)⟩
    · obtain ⟨w', z⟩ := I.cell y c e
      exact ⟨w', z.sameBut hs (cne y c e)⟩
    · obtain ⟨e, n, ne, nf, d⟩ := I.pin p hp
      exact ⟨(hs.2 p.1 ne).trans e, n, ne, nf, d⟩
  · have hfn : X.fn x = true := by
      rcases hf with z | z
      · exact z
      · rw [z] at hk; cases hk
    obtain ⟨c, hc⟩ := I.ok.has x (.inl hk)
    obtain ⟨w', z⟩ := I.cell x c hc
    refine wpAny_storeName_cell I.ok.kind hk hc z (fun h' hc' hs => ?_)
    obtain ⟨oc, hoc, hocd⟩ := id z
    refine h { s with heap := h' } ⟨I.ok, I.os, I.bare, ⟨fun b o e n hb hx => ?_, fun b o e n hb hx => ?_, I.base.free, fun b o e hx => ?_, I.base.tups, I.base.frzs, I.base.tbls⟩, ⟨m, hn.sameBut hs (Ne.symm (cne x c hc)), fun j y v' e1 e2 e3 => ?_⟩, fun y c' e => ?_, I.free, I.freeC, fun p hp => ?_, tracked ⟨oc, hoc, I.freeC x c hc⟩ hs, by simpa using I.len⟩ ⟨c, hs, .inr hc⟩
    · exact (hs.2 b (Nat.ne_of_lt (Nat.lt_of_lt_of_le (Heap.lt_size e) (I.ok.cab x c hfn hc)))).trans (I.base.keep b o e n hb hx)
    · obtain ⟨sl, e1⟩ := I.base.slot b o e n hb hx
      exact ⟨sl, (hs.2 b (Nat.ne_of_lt (Nat.lt_of_lt_of_le (Heap.lt_size e) (I.ok.cab x c hfn hc)))).trans e1⟩
    · obtain ⟨o', e1⟩ := I.base.there b o e hx
      exact ⟨o', (hs.2 b (Nat.ne_of_lt (Nat.lt_of_lt_of_le (Heap.lt_size e) (I.ok.cab x c hfn hc)))).trans e1⟩
    · by_cases hj : j = i
      · subst hj
        rw [hi] at e1; cases e1
        rw [List.getElem?_set_self hiσ] at e2
        cases e2
        exact ⟨u, r, .inr ⟨.inl hk, c, hc, hc'⟩⟩
      · rw [List.getElem?_set_ne (Ne.symm hj)] at e2
        obtain ⟨u', r', q⟩ := hl j y v' e1 e2 e3
        refine ⟨u', r', ?_⟩
        rcases q with q | ⟨k, c', e, z'⟩
        · exact .inl q
        · refine .inr ⟨k, c', e, z'.sameBut hs ?_⟩
          rintro rfl
          exact hj (nodup_ix hN e1 (I.ok.inj _ _ _ e hc ▸ hi))
    · by_cases hcc : c' = c
      · subst hcc; exact ⟨_, hc'⟩
      · obtain ⟨w2, z2⟩ := I.cell y c' e
        exact ⟨w2, z2.sameBut hs hcc⟩
    · obtain ⟨e, n, ne, nf, d⟩ := I.pin p hp
      refine ⟨(hs.2 p.1 ?_).trans e, n, ne, nf, d⟩
      intro q
      rw [q, hoc] at e
      have q' : oc = p.2 := Option.some.inj e
      exact d w' (by rw [← q']; exact hocd)
theorem store_ok {M : Model} {A : Around} {E : Value → Shared → Prop} {i : Nat} {x : Str} {v : V} {u : Value} {Q : Unit → Shared → Prop} (I : Inv X pins σ H s) (hN : X.N.Nodup) (hi : X.N[i]? = some x) (hx : Loc X.env.scope x) (r : RelV v u)
    (h : ∀ s', Inv X pins (σ.set i (some v)) H s' → Q () s') (hf : X.fn x = true ∨ X.env.scope.names.lookup x = some .local := by first | exact .inl rfl | exact .inr rfl | assumption) : wpAny M A (storeName X.env x u) Q E s :=
  store_ok2 I hN hi hx r (fun s' I' _ => h s' I') hf
/-- behind a call or a block, the state as it is -/
theorem Inv.call' {s' : Shared} {ch : List Addr} (I : Inv X pins σ H s) (ho : s'.os = s.os) (u : Un (frs X.stack) ch H H' s.heap s'.heap) (hok : HOk X.prog X.w H' s'.heap) (hg : AllBare s'.gens)
    (hch : ∀ b ∈ ch, (b ∈ X.ex ∨ X.s_0.heap.objs.size ≤ b) ∧ b ≠ X.env.locals ∧ (∀ x c, X.env.cells.lookup x = some c → c ≠ b) ∧ ∀ p ∈ X.pn ++ pins, p.1 ≠ b) : Inv X pins σ H' s' := by
  obtain ⟨h', g', d', t', o'⟩ := s'
  have e : o' = s.os := ho
  subst e
  exact I.call (g' := g') (t' := t') (d' := d') u hok hg hch
end

/-! ### the judgements -/
/-- an exception: its class, its own dict's address (where it has one), the abstract heap behind it -/
abbrev XK := Value → Option Addr → Hp → Prop
abbrev St := List (Option V)
abbrev VK := V → Hp → Prop
/-- an expression's reading; a test's; an argument list's -/
abbrev TE := St → Hp → VK → Prop
abbrev TT := St → Hp → (Bool → Hp → Prop) → Prop
abbrev TA := St → Hp → (List V → Hp → Prop) → Prop
/-- what is wanted behind a statement -/
structure Ends where
  nx : St → Hp → Prop
  rt : VK
  bk : St → Hp → Prop := fun _ _ => False
  ct : St → Hp → Prop := fun _ _ => False
abbrev TS := Ends → St → Hp → Prop

def EP (X : Cx) (pins : List (Addr × Obj)) (σ : St) (Q : VK) (u : Value) (s' : Shared) : Prop := ∃ v H', Inv X pins σ H' s' ∧ RelV v u ∧ Q v H'
def TP (X : Cx) (pins : List (Addr × Obj)) (σ : St) (Q : Bool → Hp → Prop) (b : Bool) (s' : Shared) : Prop := ∃ H', Inv X pins σ H' s' ∧ Q b H'
def AP (X : Cx) (pins : List (Addr × Obj)) (σ : St) (Q : List V → Hp → Prop) (us : List Value) (s' : Shared) : Prop := ∃ vs H', Inv X pins σ H' s' ∧ Vals vs us ∧ Q vs H'
def SP (X : Cx) (pins : List (Addr × Obj)) (D : Ends) (f : Flow) (s' : Shared) : Prop :=
  match f with
  | .next => ∃ σ' H', Inv X pins σ' H' s' ∧ D.nx σ' H'
  | .brk => ∃ σ' H', Inv X pins σ' H' s' ∧ D.bk σ' H'
  | .cont => ∃ σ' H', Inv X pins σ' H' s' ∧ D.ct σ' H'
  | .ret u => ∃ v σ' H', Inv X pins σ' H' s' ∧ RelV v u ∧ D.rt v H'

def PE (X : Cx) (e : Expr) (t : TE) : Prop :=
  ∀ (pins : List (Addr × Obj)) (s : Shared) (σ : St) (H : Hp) (Q : VK), Inv X pins σ H s → t σ H Q → wpAny (model X.prog X.w) X.A (eval e X.env) (EP X pins σ Q) X.xe s
def PT (X : Cx) (e : Expr) (t : TT) : Prop :=
  ∀ (pins : List (Addr × Obj)) (s : Shared) (σ : St) (H : Hp) (Q : Bool → Hp → Prop), Inv X pins σ H s → t σ H Q → wpAny (model X.prog X.w) X.A (isTrue e X.env (eval e X.env)) (TP X pins σ Q) X.xe s
/-- a test whatever its 'whole' is (and, or) -/
def PW (X : Cx) (e : Expr) (t : TT) : Prop :=
  ∀ (whole : Sem Value) (pins : List (Addr × Obj)) (s : Shared) (σ : St) (H : Hp) (Q : Bool → Hp → Prop), Inv X pins σ H s → t σ H Q → wpAny (model X.prog X.w) X.A (isTrue e X.env whole) (TP X pins σ Q) X.xe s
theorem PW.pt {X : Cx} {e : Expr} {t : TT} (h : PW X e t) : PT X e t := h _
/-- an argument list (no star), from the left -/
def PA (X : Cx) (es : List Expr) (t : TA) : Prop :=
  ∀ (pos : Pos) (pins : List (Addr × Obj)) (s : Shared) (σ : St) (H : Hp) (Q : List V → Hp → Prop), Inv X pins σ H s → t σ H Q → wpAny (model X.prog X.w) X.A (spliced (backTo pos (starEach es X.env))) (AP X pins σ Q) X.xe s
def PS (X : Cx) (st : Stmt) (t : TS) : Prop :=
  ∀ (pins : List (Addr × Obj)) (s : Shared) (σ : St) (H : Hp) (D : Ends), Inv X pins σ H s → t D σ H → wpAny (model X.prog X.w) X.A (exec st X.env) (SP X pins D) X.xe s
def PSs (X : Cx) (st : List Stmt) (t : TS) : Prop :=
  ∀ (pins : List (Addr × Obj)) (s : Shared) (σ : St) (H : Hp) (D : Ends), Inv X pins σ H s → t D σ H → wpAny (model X.prog X.w) X.A (execs st X.env) (SP X pins D) X.xe s
/-- weaken the end -/
theorem thn {α : Type} {t : Sem α} {Q Q' : α → Shared → Prop} {M : Model} {A : Around} {E : Value → Shared → Prop} {s : Shared} (h : wpAny M A t Q E s) (hQ : ∀ a s, Q a s → Q' a s) : wpAny M A t Q' E s := wpAny_mono h hQ fun _ _ x => x
end L2

namespace L2
open PySem PySem.Spec PyProof.Rows
section
variable {X : Cx}

/-! ### names and constants -/
def tVar (i : Nat) : TE := fun σ H Q => ∃ v, σ[i]? = some (some v) ∧ Q v H
def tC (v : V) : TE := fun _ H Q => Q v H
theorem pe_var {i : Nat} {x : Str} {pos : Pos} (hN : X.N[i]? = some x) (hv : Vis X.env.scope x) (hd : (x == ("__debug__" : Str)) = false := by decide) (hcd : (x == ("__classdict__" : Str)) = false := by decide) : PE X (.Name x pos) (tVar i) := by
  intro pins s σ H Q I h
  obtain ⟨v, e, h⟩ := h
  obtain ⟨m, hn, hl⟩ := I.loc
  obtain ⟨u, r, l⟩ := hl i x v hN e hv
  have fin : EP X pins σ Q u s := ⟨v, H, I, r, h⟩
  rcases l with ⟨hk, hm⟩ | ⟨hk, c, hc, hcell⟩
  · exact wpAny_Name (wpAny_loadName_local I.ok.kind hk hn hm fin) hd
  · rcases hk with hk | hk
    · exact wpAny_Name (wpAny_loadName_cell I.ok.kind hk hc hcell fin) hd
    · exact wpAny_Name (wpAny_loadName_free I.ok.kind hk hc hcell fin hcd) hd
theorem pe_int {i j pos} : PE X (.Constant (.int i) j pos) (tC (.int i)) := fun _ _ _ H _ I h => wpAny_Constant_int ⟨.int i, H, I.tok _, ⟨_, rfl⟩, h⟩
theorem pe_non {j pos} : PE X (.Constant .none j pos) (tC .non) := fun _ _ _ H _ I h => Constant_none ⟨.non, H, I, rfl, h⟩
/-- a global name of the def -/
def Gl (X : Cx) (x : Str) : Prop := X.env.kindOf x = some .globalImplicit
theorem ld_glob {E : Value → Shared → Prop} {pins : List (Addr × Obj)} {s : Shared} {σ : St} {H : Hp} {x : Str} {u : Value} {pos : Pos} {Q : Value → Shared → Prop} (I : Inv X pins σ H s) (hg : Gl X x) (hm : X.mg x = some u) (h : Q u s)
    (hd : (x == ("__debug__" : Str)) = false := by decide) : wpAny (model X.prog X.w) X.A (eval (.Name x pos) X.env) Q E s :=
  Calls.Name_function_global I.ok.kind hg (Calls.loadGlobal_global (by rw [I.ok.glob]; exact I.mod.glob.keeps I.bk) hm h) hd
theorem ld_blt {E : Value → Shared → Prop} {pins : List (Addr × Obj)} {s : Shared} {σ : St} {H : Hp} {x : Str} {u : Value} {pos : Pos} {Q : Value → Shared → Prop} (I : Inv X pins σ H s) (hg : Gl X x) (hm : X.mg x = none) (hv : bootBuiltins x = some u) (h : Q u s)
    (hn : x ≠ "__name__" := by decide) (hd : (x == ("__debug__" : Str)) = false := by decide) : wpAny (model X.prog X.w) X.A (eval (.Name x pos) X.env) Q E s := by
  obtain ⟨mb, h1, h2⟩ := I.mod.blt
  exact Calls.Name_function_global I.ok.kind hg (Calls.loadGlobal_builtin (by rw [I.ok.glob]; exact I.mod.glob.keeps I.bk) hm (by rw [I.ok.blt]; exact h1.keeps I.bk) ((h2 x hn).trans hv) h) hd
/-- a module's constant, a class, a function, as a value -/
theorem pe_glob {x : Str} {v : V} {u : Value} {pos : Pos} (hg : Gl X x) (hm : X.mg x = some u) (r : RelV v u) (hd : (x == ("__debug__" : Str)) = false := by decide) : PE X (.Name x pos) (tC v) :=
  fun _ _ _ H _ I h => ld_glob I hg hm ⟨v, H, I, r, h⟩ hd
/-! ### arithmetic -/
variable {a b : Expr} {ta tb : TE} {pos : Pos}
/-! ### comparisons -/
/-- a comparison as a value, as a test -/
def tB (t : TE) : TT := fun σ H Q => t σ H fun x H1 => ∃ c, x = .bl c ∧ Q c H1
/-- an expression whose value is a bool, as a test -/
theorem pt_val {e : Expr} {t : TE} (h : PE X e t) (he : ∀ whole, isTrue e X.env whole = (do let v ← whole; standAt e.pos; holding [v] (truthy v)) := by intro _; rfl) : PT X e (tB t) := by
  intro pins s σ H Q I hw
  refine isTrue_plain (thn (h pins s σ H _ I hw) fun v s1 ⟨x, H1, I1, r1, q1⟩ => ?_) (he _)
  obtain ⟨d, rfl, q⟩ := q1
  cases r1
  exact wpAny_truthy_bool ⟨H1, I1, q⟩

/-! ### and, or, not -/
variable {tA tB' : TT} {rest : List Expr}
def tOr (t u : TT) : TT := fun σ H Q => t σ H fun c H1 => if c = true then Q true H1 else u σ H1 Q
def tNot (t : TT) : TT := fun σ H Q => t σ H fun c H1 => Q (!c) H1
theorem pw_or1 (ha : PT X a tA) : PW X (.BoolOp .Or [a] pos) tA := by
  intro wh pins s σ H Q I h
  refine isTrue_or (thn (ha pins s σ H Q I h) fun c s1 e => ?_)
  cases c with
  | false => exact isTrue_or_nil e
  | true => exact e
theorem pw_or (ha : PT X a tA) (hb : PW X (.BoolOp .Or (b :: rest) pos) tB') : PW X (.BoolOp .Or (a :: b :: rest) pos) (tOr tA tB') := by
  intro wh pins s σ H Q I h
  refine isTrue_or (thn (ha pins s σ H _ I h) fun c s1 ⟨H1, I1, q1⟩ => ?_)
  cases c with
  | true => exact ⟨H1, I1, q1⟩
  | false => exact hb wh pins s1 σ H1 Q I1 q1
theorem pt_not (ha : PT X a tA) : PT X (.UnaryOp .Not a pos) (tNot tA) := by
  intro pins s σ H Q I h
  exact isTrue_not (ha pins s σ H (fun c H1 => Q (!c) H1) I h)
/-- .. as values (bools) -/
def tAndV (ta tb : TE) : TE := fun σ H Q => ta σ H fun x H1 => ∃ c, x = .bl c ∧ if c = true then tb σ H1 Q else Q (.bl false) H1
def tOrV (ta tb : TE) : TE := fun σ H Q => ta σ H fun x H1 => ∃ c, x = .bl c ∧ if c = true then Q (.bl true) H1 else tb σ H1 Q
theorem pe_one {op} {t : TE} (h : PE X a t) : PE X (.BoolOp op [a] pos) t := fun pins s σ H Q I hw => BoolOp_one (h pins s σ H Q I hw)
theorem pe_and (ha : PE X a ta) (hb : PE X (.BoolOp .And (b :: rest) pos) tb) : PE X (.BoolOp .And (a :: b :: rest) pos) (tAndV ta tb) := by
  intro pins s σ H Q I h
  refine BoolOp_and (thn (ha pins s σ H _ I h) fun v s1 ⟨x, H1, I1, r1, q1⟩ => ?_)
  obtain ⟨c, rfl, q1⟩ := q1
  cases r1
  refine wpAny_truthy_bool ?_
  cases c with
  | true => exact hb pins s1 σ H1 Q I1 q1
  | false => exact ⟨.bl false, H1, I1, rfl, q1⟩
theorem pe_or (ha : PE X a ta) (hb : PE X (.BoolOp .Or (b :: rest) pos) tb) : PE X (.BoolOp .Or (a :: b :: rest) pos) (tOrV ta tb) := by
  intro pins s σ H Q I h
  refine BoolOp_or (thn (ha pins s σ H _ I h) fun v s1 ⟨x, H1, I1, r1, q1⟩ => ?_)
  obtain ⟨c, rfl, q1⟩ := q1
  cases r1
  refine wpAny_truthy_bool ?_
  cases c with
  | false => exact hb pins s1 σ H1 Q I1 q1
  | true => exact ⟨.bl true, H1, I1, rfl, q1⟩
end
end L2

namespace L2
open PySem PySem.Spec PyProof.Rows

/-! ### a list, a tuple that is read: tracked, frozen, or an object of the module -/
def SqL (K : PySem.W.Frag) (H : Hp) (a : Addr) (xs : List V) : Prop :=
  Rd H a (.lst xs) ∨
    ∃ (o : Obj) (its : Array Value) (n : Nat), K.lookup a = some o ∧ o.cls = .type "list" ∧ o.dict = none ∧ o.data = .seq its n ∧ its.size ≤ sizeLine ∧ Vals xs its.toList
def SqT (K : PySem.W.Frag) (H : Hp) (a : Addr) (xs : List V) : Prop :=
  Rd H a (.tup xs) ∨
    ∃ (o : Obj) (its : Array Value) (n : Nat), K.lookup a = some o ∧ o.cls = .type "tuple" ∧ o.data = .seq its n ∧ its.size ≤ sizeLine ∧ Vals xs its.toList
def absV : Value → Option V
  | .none => some .non
  | .bool b => some (.bl b)
  | .int i _ => some (.int i)
  | .str x _ => some (.str x)
  | .bytes b _ => some (.byt b)
  | .float b _ => some (.flt b)
  | .ref a => some (.ref a)
  | .type n => some (.ty n)
  | _ => none
theorem RelV.abs {x : V} {u : Value} (r : RelV x u) : absV u = some x := by
  cases x with
  | non => cases r; rfl
  | bl _ => cases r; rfl
  | int _ => obtain ⟨t, rfl⟩ := r; rfl
  | str _ => obtain ⟨t, rfl⟩ := r; rfl
  | byt _ => obtain ⟨t, rfl⟩ := r; rfl
  | flt _ => obtain ⟨t, rfl⟩ := r; rfl
  | ref _ => cases r; rfl
  | ty _ => cases r; rfl
theorem RelV.inj {x y : V} {u : Value} (r : RelV x u) (q : RelV y u) : x = y := Option.some.inj (r.abs.symm.trans q.abs)
theorem Vals.inj : ∀ {xs ys : List V} {us : List Value}, Vals xs us → Vals ys us → xs = ys
  | _, _, _, .nil, .nil => rfl
  | _, _, _, .cons r t, .cons r' t' => by rw [r.inj r', Vals.inj t t']
section
variable {X : Cx} {pins : List (Addr × Obj)} {σ : St} {H : Hp} {s : Shared} {a : Addr} {xs ys : List V}
theorem SqL.of {K : PySem.W.Frag} (h : H a = some (.lst xs)) : SqL K H a xs := .inl (.inl h)
theorem SqT.of {K : PySem.W.Frag} (h : H a = some (.tup xs)) : SqT K H a xs := .inl (.inl h)
theorem Inv.list (I : Inv X pins σ H s) (h : SqL X.K H a xs) : ∃ its : List Value, Vals xs its ∧ PlainL s.heap a its.toArray ∧ xs.length ≤ sizeLine := by
  rcases h with h | ⟨o, its, n, hk, hc, hd, hs, hz, r⟩
  · obtain ⟨z, its, n, r, e⟩ := h.ok I.hok
    exact ⟨its, r, ⟨_, n, e, rfl, rfl, rfl⟩, z⟩
  · refine ⟨its.toList, r, ⟨o, n, I.kIn a o hk, hc, hd, by simpa using hs⟩, ?_⟩
    have e := r.length
    simp only [Array.length_toList] at e
    omega
theorem Inv.tuple (I : Inv X pins σ H s) (h : SqT X.K H a xs) : ∃ its : List Value, Vals xs its ∧ IsTup s.heap a its.toArray ∧ xs.length ≤ sizeLine := by
  rcases h with h | ⟨o, its, n, hk, hc, hs, hz, r⟩
  · obtain ⟨z, its, r, p⟩ := h.ok I.hok
    exact ⟨its, r, p, z⟩
  · refine ⟨its.toList, r, ⟨o, I.kIn a o hk, hc, n, by simpa using hs⟩, ?_⟩
    have e := r.length
    simp only [Array.length_toList] at e
    omega
theorem Inv.list_inj (I : Inv X pins σ H s) (h : SqL X.K H a xs) (h' : SqL X.K H a ys) : xs = ys := by
  obtain ⟨its, r, ⟨o, n, e, _, _, d⟩, _⟩ := I.list h
  obtain ⟨its', r', ⟨o', n', e', _, _, d'⟩, _⟩ := I.list h'
  rw [e] at e'; cases e'
  rw [d] at d'
  injection d' with d1 _
  have : its = its' := by simpa using congrArg Array.toList d1
  subst this
  exact r.inj r'
theorem Inv.tuple_inj (I : Inv X pins σ H s) (h : SqT X.K H a xs) (h' : SqT X.K H a ys) : xs = ys := by
  obtain ⟨its, r, ⟨o, e, _, n, d⟩, _⟩ := I.tuple h
  obtain ⟨its', r', ⟨o', e', _, n', d'⟩, _⟩ := I.tuple h'
  rw [e] at e'; cases e'
  rw [d] at d'
  injection d' with d1 _
  have : its = its' := by simpa using congrArg Array.toList d1
  subst this
  exact r.inj r'
end

/-! ### another wish about exceptions -/
abbrev Cx.wish (X : Cx) (E : Value → Shared → Prop) : Cx := { X with xe := E }
/-- no exception leaves -/
abbrev Cx.nox (X : Cx) : Cx := X.wish fun _ _ => False
theorem Cx.Ok.wish {X : Cx} (ok : X.Ok) (E : Value → Shared → Prop) : (X.wish E).Ok :=
  ⟨ok.mod, ok.kind, ok.glob, ok.blt, ok.above, ok.inj, ok.has, ok.cab, ok.hd, ok.frames, ok.stk, ok.exf, ok.bs, ok.bsz, ok.noex, ok.exfs, ok.funs, ok.frf⟩
theorem Cx.Ok.unwish {X : Cx} {E : Value → Shared → Prop} (ok : (X.wish E).Ok) : X.Ok :=
  ⟨ok.mod, ok.kind, ok.glob, ok.blt, ok.above, ok.inj, ok.has, ok.cab, ok.hd, ok.frames, ok.stk, ok.exf, ok.bs, ok.bsz, ok.noex, ok.exfs, ok.funs, ok.frf⟩
section
variable {X : Cx} {pins : List (Addr × Obj)} {σ : St} {H : Hp} {s : Shared} {E : Value → Shared → Prop}
theorem Inv.wish (I : Inv X pins σ H s) (E : Value → Shared → Prop) : Inv (X.wish E) pins σ H s := ⟨I.ok.wish E, I.os, I.bare, I.base, I.loc, I.cell, I.free, I.freeC, I.pin, I.hok, I.len⟩
theorem Inv.unwish (I : Inv (X.wish E) pins σ H s) : Inv X pins σ H s := ⟨I.ok.unwish, I.os, I.bare, I.base, I.loc, I.cell, I.free, I.freeC, I.pin, I.hok, I.len⟩
theorem SP.unwish {D : Ends} {f : Flow} {s' : Shared} (h : SP (X.wish E) pins D f s') : SP X pins D f s' := by
  cases f with
  | next => obtain ⟨σ', H', I, q⟩ := h; exact ⟨σ', H', I.unwish, q⟩
  | brk => obtain ⟨σ', H', I, q⟩ := h; exact ⟨σ', H', I.unwish, q⟩
  | cont => obtain ⟨σ', H', I, q⟩ := h; exact ⟨σ', H', I.unwish, q⟩
  | ret u => obtain ⟨v, σ', H', I, r, q⟩ := h; exact ⟨v, σ', H', I.unwish, r, q⟩
theorem PE.nox {e : Expr} {t : TE} (h : PE X.nox e t) : PE X e t := fun pins s σ H Q I hw =>
  wpAny_mono (h pins s σ H Q (I.wish _) hw) (fun _ _ ⟨v, H', I', r, q⟩ => ⟨v, H', I'.unwish, r, q⟩) fun _ _ z => False.elim z
theorem PT.nox {e : Expr} {t : TT} (h : PT X.nox e t) : PT X e t := fun pins s σ H Q I hw =>
  wpAny_mono (h pins s σ H Q (I.wish _) hw) (fun _ _ ⟨H', I', q⟩ => ⟨H', I'.unwish, q⟩) fun _ _ z => False.elim z
theorem PSs.nox {st : List Stmt} {t : TS} (h : PSs X.nox st t) : PSs X st t := fun pins s σ H D I hw =>
  wpAny_mono (h pins s σ H D (I.wish _) hw) (fun _ _ q => q.unwish) fun _ _ z => False.elim z
end

/-! ### blocks and small statements -/
section
variable {X : Cx} {st : Stmt} {rest : List Stmt} {t u : TS} {e : Expr} {te : TE} {pos : Pos}
def tNext : TS := fun D σ H => D.nx σ H
def tSeq (t u : TS) : TS := fun D σ H => t { D with nx := u D } σ H
theorem pss_nil : PSs X [] tNext := fun _ _ σ H _ I h => wpAny_execs_nil ⟨σ, H, I, h⟩
theorem pss_cons (h1 : PS X st t) (h2 : PSs X rest u) : PSs X (st :: rest) (tSeq t u) := by
  intro pins s σ H D I h
  refine wpAny_execs_cons (thn (h1 pins s σ H { D with nx := u D } I h) fun f s1 q => ?_)
  cases f with
  | next =>
    obtain ⟨σ', H', I', q⟩ := q
    exact h2 pins s1 σ' H' D I' q
  | ret v => exact q
  | brk => exact q
  | cont => exact q
theorem pss_one (h1 : PS X st t) : PSs X [st] t := by
  intro pins s σ H D I h
  refine wpAny_execs_cons (thn (h1 pins s σ H D I h) fun f s1 q => ?_)
  cases f with
  | next => exact wpAny_execs_nil q
  | ret v => exact q
  | brk => exact q
  | cont => exact q
/-- in a def's body nothing is shown -/
theorem Inv.quiet {pins : List (Addr × Obj)} {σ : St} {H : Hp} {s : Shared} (I : Inv X pins σ H s) : interactive X.env = false := by simp [interactive, I.ok.kind]
/-- an expression whose value is dropped -/
def tDrop (te : TE) : TS := fun D σ H => te σ H fun _ H1 => D.nx σ H1
theorem ps_expr (he : PE X e te) (hs : swapsWith e none pos.line X.env = pure false := by rfl) : PS X (.Expr e pos) (tDrop te) := by
  intro pins s σ H D I h
  exact wpAny_Expr_any (thn (he pins s σ H _ I h) fun v s1 ⟨x, H1, I1, r1, q1⟩ => ⟨σ, H1, I1, q1⟩) I.quiet hs
def tRet (te : TE) : TS := fun D σ H => te σ H D.rt
theorem ps_ret (he : PE X e te) : PS X (.Return (some e) pos) (tRet te) := by
  intro pins s σ H D I h
  exact wpAny_Return_some (thn (he pins s σ H _ I h) fun v s1 ⟨x, H1, I1, r1, q1⟩ => ⟨x, σ, H1, I1, r1, q1⟩)
def tIfS (c : TT) (t u : TS) : TS := fun D σ H => c σ H fun b H1 => if b = true then t D σ H1 else u D σ H1
theorem ps_if {c : Expr} {a b : List Stmt} {tc : TT} (hc : PT X c tc) (ha : PSs X a t) (hb : PSs X b u) : PS X (.If c a b pos) (tIfS tc t u) := by
  intro pins s σ H D I h
  refine wpAny_If (thn (hc pins s σ H _ I h) fun d s1 ⟨H1, I1, q1⟩ => ?_)
  cases d with
  | true => exact ha pins s1 σ H1 D I1 q1
  | false => exact hb pins s1 σ H1 D I1 q1
end

/-! ### targets -/
abbrev TG := V → St → Hp → (St → Hp → Prop) → Prop
abbrev TGs := List V → St → Hp → (St → Hp → Prop) → Prop
def PG (X : Cx) (target : Expr) (t : TG) : Prop :=
  ∀ (pins : List (Addr × Obj)) (s : Shared) (σ : St) (H : Hp) (v : V) (u : Value) (Q : St → Hp → Prop), Inv X pins σ H s → RelV v u → t v σ H Q →
    wpAny (model X.prog X.w) X.A (assign target X.env u) (fun _ s' => ∃ σ' H', Inv X pins σ' H' s' ∧ Q σ' H') X.xe s
/-- several targets, one after another -/
def PGs (X : Cx) (ts : List Expr) (t : TGs) : Prop :=
  ∀ (pins : List (Addr × Obj)) (s : Shared) (σ : St) (H : Hp) (vs : List V) (us : List Value) (Q : St → Hp → Prop), Inv X pins σ H s → Vals vs us → t vs σ H Q →
    wpAny (model X.prog X.w) X.A (assignInOrder ((assignEach ts X.env).map (·.2)) us) (fun _ s' => ∃ σ' H', Inv X pins σ' H' s' ∧ Q σ' H') X.xe s
section
variable {X : Cx} {pos : Pos}
def gName (i : Nat) : TG := fun v σ H Q => Q (σ.set i (some v)) H
theorem pg_name {i : Nat} {x : Str} (hN : X.N.Nodup) (hi : X.N[i]? = some x) (hx : Loc X.env.scope x) (hf : X.fn x = true ∨ X.env.scope.names.lookup x = some .local := by first | exact .inl rfl | exact .inr rfl | assumption) : PG X (.Name x pos) (gName i) := by
  intro pins s σ H v u Q I r h
  exact wpAny_assign_Name (store_ok I hN hi hx r (fun s' I' => ⟨_, H, I', h⟩) hf)
def gNil : TGs := fun vs σ H Q => vs = [] ∧ Q σ H
def gCons (t : TG) (u : TGs) : TGs := fun vs σ H Q => ∃ v r, vs = v :: r ∧ t v σ H fun σ' H' => u r σ' H' Q
theorem pgs_nil : PGs X [] gNil := by
  intro pins s σ H vs us Q I r h
  obtain ⟨e, h⟩ := h
  subst e
  cases r
  exact assignInOrder_nil ⟨σ, H, I, h⟩
theorem pgs_cons {e : Expr} {es : List Expr} {t : TG} {u : TGs} (h1 : PG X e t) (h2 : PGs X es u)
    (hs : (assignEach (e :: es) X.env).map (·.2) = assign e X.env :: (assignEach es X.env).map (·.2) := by rfl) : PGs X (e :: es) (gCons t u) := by
  intro pins s σ H vs us Q I r h
  obtain ⟨v, vr, e1, h⟩ := h
  subst e1
  cases r with
  | cons r rr =>
    rw [hs]
    refine assignInOrder_cons (thn (h1 pins s σ H _ _ _ I r h) fun _ s1 ⟨σ1, H1, I1, q1⟩ => ?_)
    exact h2 pins s1 σ1 H1 _ _ Q I1 rr q1
/-- (a, b, ..) = a tuple of that length -/
def gTup (K : PySem.W.Frag) (n : Nat) (t : TGs) : TG := fun v σ H Q => ∃ a xs, v = .ref a ∧ SqT K H a xs ∧ xs.length = n ∧ t xs σ H Q
theorem pg_tup {es : List Expr} {k : Nat} {t : TGs} {n : Nat} (hc : X.calm = true) (h : PGs X es t)
    (hn : (assignEach es X.env).length = n := by rfl) (hst : (assignEach es X.env).findIdx? (·.1) = none := by rfl) : PG X (.Tuple es k pos) (gTup X.K n t) := by
  intro pins s σ H v u Q I r hw
  obtain ⟨a, xs, e1, hq, hl, hw⟩ := hw
  subst e1
  cases r
  obtain ⟨its, rv, ht, hz⟩ := I.tuple hq
  refine assign_Tuple_tuple (I.ok.hd hc) ht (by simp [hn, ← hl, rv.length]) hst fun h' hx => ?_
  have I1 : Inv X pins σ H { s with heap := h' } := I.kept (t' := s.toks) fun b o e => hx b o (Nat.ne_of_lt (Heap.lt_size e)) e
  exact h pins _ σ H xs _ Q I1 (by simpa using rv) hw
/-- target = value -/
def tAsg (te : TE) (g : TG) : TS := fun D σ H => te σ H fun x H1 => g x σ H1 D.nx
/-- name = value -/
theorem ps_set {i : Nat} {x : Str} {e : Expr} {te : TE} {pos' : Pos} (hN : X.N.Nodup) (hi : X.N[i]? = some x) (hx : Loc X.env.scope x) (he : PE X e te) (hs : swapsWith e (some (.Name x pos')) pos.line X.env = pure false := by rfl) (hf : X.fn x = true ∨ X.env.scope.names.lookup x = some .local := by first | exact .inl rfl | exact .inr rfl | assumption) :
    PS X (.Assign [.Name x pos'] e pos) (tAsg te (gName i)) := by
  intro pins s σ H D I h
  refine wpAny_Assign_Name (thn (he pins s σ H _ I h) fun v s1 ⟨y, H1, I1, r1, q1⟩ => ?_) hs
  exact store_ok I1 hN hi hx r1 (fun s2 I2 => ⟨_, H1, I2, q1⟩) hf
end

/-! ### while -/
section
variable {X : Cx} {pos : Pos}
/-- the invariant W with its measure -/
def tWhile (c : TT) (tb : TS) : TS := fun D σ H => ∃ W : Nat → St → Hp → Prop, (∃ m, W m σ H) ∧ ∀ m σ H, W m σ H →
  c σ H fun b H1 => if b = true then ∃ N : St → Hp → Prop, (∀ σ' H', N σ' H' → ∃ m', m' < m ∧ W m' σ' H') ∧ tb { D with nx := N, ct := N, bk := D.nx } σ H1 else D.nx σ H1
theorem ps_while {c : Expr} {body : List Stmt} {tc : TT} {tb : TS} (hp : PassesOwn (model X.prog X.w) X.A X.env X.xe) (hc : PT X c tc) (hb : PSs X body tb) : PS X (.While c body [] pos) (tWhile tc tb) := by
  intro pins s σ H D I h
  obtain ⟨W, ⟨m0, w0⟩, turn⟩ := h
  refine wpAny_While (codeAny_whileLoop (fun n s' => ∃ σ' H', Inv X pins σ' H' s' ∧ W n σ' H') ?_ m0 ⟨σ, H, I, w0⟩)
  rintro n s1 ⟨σ1, H1, I1, w1⟩
  refine wpAny_passesOwn hp (thn (hc pins s1 σ1 H1 _ I1 (turn n σ1 H1 w1)) fun b s2 ⟨H2, I2, q2⟩ => ?_)
  cases b with
  | true =>
    obtain ⟨N, hN, q2⟩ := q2
    rw [if_pos rfl]
    refine wpAny_passesOwn hp (thn (hb pins s2 σ1 H2 _ I2 q2) fun f s3 q3 => ?_)
    cases f with
    | next =>
      obtain ⟨σ3, H3, I3, n3⟩ := q3
      obtain ⟨m', hm, w3⟩ := hN σ3 H3 n3
      exact ⟨m', hm, σ3, H3, I3, w3⟩
    | cont =>
      obtain ⟨σ3, H3, I3, n3⟩ := q3
      obtain ⟨m', hm, w3⟩ := hN σ3 H3 n3
      exact ⟨m', hm, σ3, H3, I3, w3⟩
    | brk => exact q3
    | ret v => exact q3
  | false =>
    rw [if_neg Bool.false_ne_true]
    exact wpAny_execs_nil ⟨σ1, H2, I2, q2⟩
end

/-! ### what a loop or a comprehension walks -/
/-- at turn i: it yields x (the heap may grow), or it stops -/
structure It where
  go : Nat → Hp → Prop
  yld : Nat → Hp → V → Hp → Prop
  stop : Nat → Hp → Prop
/-- the iterator's own objects may turn: they are not the frame's, not pinned, younger than the entry (or a comprehension's own) -/
def FpOk (X : Cx) (pins : List (Addr × Obj)) (H : Hp) (b : Addr) : Prop :=
  H b = none ∧ b ≠ X.env.locals ∧ b ∉ X.fs ∧ (b ∈ X.ex ∨ X.s_0.heap.objs.size ≤ b) ∧ (∀ x c, X.env.cells.lookup x = some c → c ≠ b) ∧ ∀ p ∈ X.pn ++ pins, p.1 ≠ b
theorem Inv.fpOk {X : Cx} {pins : List (Addr × Obj)} {σ : St} {H H' : Hp} {s : Shared} {b : Addr} (I : Inv X pins σ H s) (hb : s.heap.objs.size ≤ b) (hn : H' b = none) : FpOk X pins H' b := by
  refine ⟨hn, Nat.ne_of_gt (Nat.lt_of_lt_of_le I.lt hb), I.nofs hb, .inr (Nat.le_trans I.sz hb), fun x c e z => ?_, fun p hp z => ?_⟩
  · obtain ⟨v, q⟩ := I.cell x c e
    exact absurd (Nat.lt_of_lt_of_le q.lt (by rw [z]; exact hb)) (Nat.lt_irrefl _)
  · exact absurd (Nat.lt_of_lt_of_le (Heap.lt_size (I.pin p hp).1) (by rw [z]; exact hb)) (Nat.lt_irrefl _)
structure Turn (P : Program) (w : World) (K : PySem.W.Frag) (tg : Expr) (J : It) (fp : List Addr) (it : Addr) (tn : Nat → Heap → Prop) : Prop where
  mem : it ∈ fp
  obj : ∀ i h, tn i h → ∀ b ∈ fp, ∃ o, h.get? b = some o ∧ ∀ v, o.data ≠ .cell v
  keep : ∀ i h h', tn i h → (∀ b ∈ fp, ∀ o, h.get? b = some o → h'.get? b = some o) → tn i h'
  item : ∀ (X : Cx), X.prog = P → X.w = w → X.K = K → X.calm = true → ∀ (i : Nat) (pins : List (Addr × Obj)) (s : Shared) (σ : St) (H : Hp) (E : Value → Shared → Prop), Inv X pins σ H s → (∀ b ∈ fp, FpOk X pins H b) → tn i s.heap → J.go i H →
    wpAny (model P w) X.A (pyNext (.ref it)) (fun r s1 => ∃ u, r = some u ∧
      wpAny (model P w) X.A (letOwnedTupleGo tg (.ref it) u) (fun _ s2 => ∃ x H', Inv X pins σ H' s2 ∧ RelV x u ∧ J.yld i H x H' ∧ tn (i + 1) s2.heap ∧ ∀ b ∈ fp, H' b = none) E s1) E s
  done : ∀ (X : Cx), X.prog = P → X.w = w → X.K = K → X.calm = true → ∀ (i : Nat) (pins : List (Addr × Obj)) (s : Shared) (σ : St) (H : Hp) (E : Value → Shared → Prop), Inv X pins σ H s → (∀ b ∈ fp, FpOk X pins H b) → tn i s.heap → J.stop i H →
    wpAny (model P w) X.A (pyNext (.ref it)) (fun r s1 => r = none ∧ Inv X pins σ H s1) E s
  self : ∀ (A : Around) (i : Nat) (s : Shared) (Q : Value → Shared → Prop) (E : Value → Shared → Prop), tn i s.heap → Q (.ref it) s → wpAny (model P w) A (pyIter (.ref it)) Q E s
abbrev TI := St → Hp → (It → Hp → Prop) → Prop
/-- an iterator has come -/
def PIE (X : Cx) (pins : List (Addr × Obj)) (σ : St) (tg : Expr) (R : It → Hp → Prop) (itv : Value) (s2 : Shared) : Prop :=
  ∃ (it : Addr) (fp : List Addr) (tn : Nat → Heap → Prop) (J : It) (H' : Hp), itv = .ref it ∧ Inv X pins σ H' s2 ∧ Turn X.prog X.w X.K tg J fp it tn ∧ tn 0 s2.heap ∧ (∀ b ∈ fp, FpOk X pins H' b) ∧ R J H'
def PI (X : Cx) (tg iter : Expr) (wi : TI) : Prop :=
  ∀ (pins : List (Addr × Obj)) (s : Shared) (σ : St) (H : Hp) (R : It → Hp → Prop), Inv X pins σ H s → wi σ H R →
    wpAny (model X.prog X.w) X.A (eval iter X.env) (fun v s1 => wpAny (model X.prog X.w) X.A (pyIter v) (PIE X pins σ tg R) X.xe s1) X.xe s

/-- the step ahead of the store is nothing for an iterator that keeps no tuple -/
theorem go_of {M : Model} {A : Around} {E : Value → Shared → Prop} {s : Shared} {tg : Expr} {it : Addr} {u : Value} {o : Obj} {n : String} {vs : Array Value} {Q : Unit → Shared → Prop} (ho : s.heap.get? it = some o) (hc : o.cls = .type n) (hd : o.data = .fields vs)
    (hn : ["enumerate", "zip", "dict_itemiterator", "dict_reverseitemiterator", "odict_iterator", "itertools.zip_longest", "itertools.pairwise"].contains n = false) (hQ : Q () s) : wpAny M A (letOwnedTupleGo tg (.ref it) u) Q E s := by
  unfold letOwnedTupleGo
  cases tg <;> first
    | exact wpAny_pure hQ
    | (cases u <;> first
        | exact wpAny_pure hQ
        | (refine wpAny_bind (wpAny_load ho ?_)
           rw [hc, hd]
           show wpAny M A (if (["enumerate", "zip", "dict_itemiterator", "dict_reverseitemiterator", "odict_iterator", "itertools.zip_longest", "itertools.pairwise"].contains n && vs[0]? == some (rawInt _)) = true then _ else _) Q E s
           rw [if_neg (by intro h; rw [hn, Bool.false_and] at h; cases h)]
           exact wpAny_pure hQ))

/-- the list at a, as it stands at each turn (a loop may append to it) -/
def Itl (K : PySem.W.Frag) (a : Addr) : It :=
  ⟨fun i H => ∃ xs x, SqL K H a xs ∧ xs[i]? = some x, fun i H x H' => H' = H ∧ ∀ xs, SqL K H a xs → xs[i]? = some x, fun i H => ∃ xs, SqL K H a xs ∧ xs.length ≤ i⟩
def Itt (K : PySem.W.Frag) (a : Addr) : It :=
  ⟨fun i H => ∃ xs x, SqT K H a xs ∧ xs[i]? = some x, fun i H x H' => H' = H ∧ ∀ xs, SqT K H a xs → xs[i]? = some x, fun i H => ∃ xs, SqT K H a xs ∧ xs.length ≤ i⟩
/-- lo, lo + 1, .. (n of them) -/
def Itr (lo : Int) (n : Nat) : It := ⟨fun i _ => i < n, fun i H x H' => H' = H ∧ x = .int (lo + i), fun i _ => n ≤ i⟩
theorem turn_list {P : Program} {w : World} {K : PySem.W.Frag} {tg : Expr} (a it : Addr) : Turn P w K tg (Itl K a) [it] it (fun i h => h.IsListIter it a i) where
  mem := by simp
  obj := fun i h st b hb => by
    have e : b = it := by simpa using hb
    subst e
    obtain ⟨o, e, c, d⟩ := st
    exact ⟨o, e, fun v z => by rw [d] at z; cases z⟩
  keep := fun i h h' st k => st.at fun o e => k it (by simp) o e
  item := by
    intro X hP hw hK hc i pins s σ H E I hf st hg
    subst hP hw hK
    obtain ⟨xs, x, hq, hx⟩ := hg
    obtain ⟨its, rv, p, hz⟩ := I.list hq
    obtain ⟨u, hu, ru⟩ := rv.get hx
    obtain ⟨f0, f1, f2, f3, f4, f5⟩ := hf it (by simp)
    refine wpAny_pyNext_list_item st p.isList (x := u) (by simpa using hu) fun h' st' sb => ?_
    have I1 : Inv X pins σ H { s with heap := h' } := I.turned (t' := s.toks) (fun b o hb e => (sb.2 b hb).trans e) f0 f1 f3 f4 f5
    obtain ⟨o, e, c, d⟩ := id st'
    exact ⟨u, rfl, go_of (s := { s with heap := h' }) e c d (by decide) ⟨x, H, I1, ru, ⟨rfl, fun ys hy => by rw [I.list_inj hy hq]; exact hx⟩, st', fun b hb => (hf b hb).1⟩⟩
  done := by
    intro X hP hw hK hc i pins s σ H E I hf st hg
    subst hP hw hK
    obtain ⟨xs, hq, hx⟩ := hg
    obtain ⟨its, rv, p, hz⟩ := I.list hq
    obtain ⟨f0, f1, f2, f3, f4, f5⟩ := hf it (by simp)
    have hl := rv.length
    exact wpAny_pyNext_list_end (I.ok.hd hc) st p.isList (by simp; omega) fun h' eb => ⟨rfl, I.turned (t' := s.toks) (fun b o hb e => eb b o hb e) f0 f1 f3 f4 f5⟩
  self := fun _ _ _ _ _ st h => wpAny_pyIter_listiter st h
theorem turn_tuple {P : Program} {w : World} {K : PySem.W.Frag} {tg : Expr} (a it : Addr) : Turn P w K tg (Itt K a) [it] it (fun i h => h.IsTupleIter it a i) where
  mem := by simp
  obj := fun i h st b hb => by
    have e : b = it := by simpa using hb
    subst e
    obtain ⟨o, e, c, d⟩ := st
    exact ⟨o, e, fun v z => by rw [d] at z; cases z⟩
  keep := fun i h h' st k => st.at fun o e => k it (by simp) o e
  item := by
    intro X hP hw hK hc i pins s σ H E I hf st hg
    subst hP hw hK
    obtain ⟨xs, x, hq, hx⟩ := hg
    obtain ⟨its, rv, p, hz⟩ := I.tuple hq
    obtain ⟨u, hu, ru⟩ := rv.get hx
    obtain ⟨f0, f1, f2, f3, f4, f5⟩ := hf it (by simp)
    refine wpAny_pyNext_tuple_item st (show s.heap.IsTuple a its.toArray from p) (x := u) (by simpa using hu) fun h' st' sb => ?_
    have I1 : Inv X pins σ H { s with heap := h' } := I.turned (t' := s.toks) (fun b o hb e => (sb.2 b hb).trans e) f0 f1 f3 f4 f5
    obtain ⟨o, e, c, d⟩ := id st'
    exact ⟨u, rfl, go_of (s := { s with heap := h' }) e c d (by decide) ⟨x, H, I1, ru, ⟨rfl, fun ys hy => by rw [I.tuple_inj hy hq]; exact hx⟩, st', fun b hb => (hf b hb).1⟩⟩
  done := by
    intro X hP hw hK hc i pins s σ H E I hf st hg
    subst hP hw hK
    obtain ⟨xs, hq, hx⟩ := hg
    obtain ⟨its, rv, p, hz⟩ := I.tuple hq
    obtain ⟨f0, f1, f2, f3, f4, f5⟩ := hf it (by simp)
    have hl := rv.length
    exact wpAny_pyNext_tuple_end (I.ok.hd hc) st (show s.heap.IsTuple a its.toArray from p) (by simp; omega) fun h' eb => ⟨rfl, I.turned (t' := s.toks) (fun b o hb e => eb b o hb e) f0 f1 f3 f4 f5⟩
  self := fun _ _ _ _ _ st h => wpAny_pyIter_tupleiter st h
theorem turn_range {P : Program} {w : World} {K : PySem.W.Frag} {tg : Expr} (it : Addr) (lo : Int) (n : Nat) : Turn P w K tg (Itr lo n) [it] it (fun i h => IsRangeIter h it (lo + (i : Nat) * 1) ((n : Int) - (i : Nat)) 1) where
  mem := by simp
  obj := fun i h st b hb => by
    have e : b = it := by simpa using hb
    subst e
    exact ⟨_, st, fun v z => by
      have z' : Data.fields _ = Data.cell v := z
      cases z'⟩
  keep := fun i h h' st k => k it (by simp) _ st
  item := by
    intro X hP hw hK hc i pins s σ H E I hf st hg
    subst hP hw hK
    obtain ⟨f0, f1, f2, f3, f4, f5⟩ := hf it (by simp)
    have W := Walks.range (prog := X.prog) (w := X.w) (I.ok.hd hc) it lo 1 n
    refine W.item i s _ _ hg st fun v h' tk hv st' kk => ?_
    obtain ⟨t, rfl⟩ := hv
    have I1 : Inv X pins σ H { s with heap := h', toks := tk } := I.turned (fun b o hb e => kk b o (by simpa using hb) e) f0 f1 f3 f4 f5
    refine ⟨_, rfl, go_of (s := { s with heap := h', toks := tk }) (n := "range_iterator") st' rfl rfl (by decide) ⟨.int (lo + i), H, I1, ⟨t, ?_⟩, ⟨rfl, rfl⟩, st', fun b hb => (hf b hb).1⟩⟩
    rw [Int.mul_one]
  done := by
    intro X hP hw hK hc i pins s σ H E I hf st hg
    subst hP hw hK
    obtain ⟨f0, f1, f2, f3, f4, f5⟩ := hf it (by simp)
    exact wpAny_pyNext_range_end (I.ok.hd hc) st (by have : n ≤ i := hg; omega) fun h' eb => ⟨rfl, I.turned (t' := s.toks) (fun b o hb e => eb b o hb e) f0 f1 f3 f4 f5⟩
  self := fun _ _ _ _ _ st h => wpAny_pyIter_rangeiter st h
end L2

namespace L2
open PySem PySem.Spec PyProof.Rows
section
variable {X : Cx} {tg : Expr}
def iList (K : PySem.W.Frag) (tl : TE) : TI := fun σ H R => tl σ H fun x H1 => ∃ a, x = .ref a ∧ (∃ xs, SqL K H1 a xs) ∧ R (Itl K a) H1
def iTup (K : PySem.W.Frag) (tl : TE) : TI := fun σ H R => tl σ H fun x H1 => ∃ a, x = .ref a ∧ (∃ xs, SqT K H1 a xs) ∧ R (Itt K a) H1
theorem pi_list {l : Expr} {tl : TE} (hl : PE X l tl) : PI X tg l (iList X.K tl) := by
  intro pins s σ H R I h
  refine thn (hl pins s σ H _ I h) fun v s1 ⟨x, H1, I1, r1, q1⟩ => ?_
  obtain ⟨a, e, ⟨xs, hq⟩, q⟩ := q1
  subst e
  cases r1
  obtain ⟨its, rv, p, hz⟩ := I1.list hq
  refine wpAny_pyIter_list p.isList ?_
  refine ⟨s1.heap.objs.size, [s1.heap.objs.size], _, _, H1, rfl, I1.kept (t' := s1.toks) fun b o e => Heap.get?_push_of_some _ e, turn_list a _, ⟨_, Heap.get?_push_size _ rfl, rfl, rfl⟩, fun b hb => ?_, q⟩
  have e : b = s1.heap.objs.size := by simpa using hb
  subst e
  exact I1.fpOk (Nat.le_refl _) (I1.hok.fresh (Nat.le_refl _))
theorem pi_tup {l : Expr} {tl : TE} (hl : PE X l tl) : PI X tg l (iTup X.K tl) := by
  intro pins s σ H R I h
  refine thn (hl pins s σ H _ I h) fun v s1 ⟨x, H1, I1, r1, q1⟩ => ?_
  obtain ⟨a, e, ⟨xs, hq⟩, q⟩ := q1
  subst e
  cases r1
  obtain ⟨its, rv, p, hz⟩ := I1.tuple hq
  refine wpAny_pyIter_tuple (show s1.heap.IsTuple a its.toArray from p) ?_
  refine ⟨s1.heap.objs.size, [s1.heap.objs.size], _, _, H1, rfl, I1.kept (t' := s1.toks) fun b o e => Heap.get?_push_of_some _ e, turn_tuple a _, ⟨_, Heap.get?_push_size _ rfl, rfl, rfl⟩, fun b hb => ?_, q⟩
  have e : b = s1.heap.objs.size := by simpa using hb
  subst e
  exact I1.fpOk (Nat.le_refl _) (I1.hok.fresh (Nat.le_refl _))
/-- a range object just made, walked -/
theorem range_it {pins : List (Addr × Obj)} {σ : St} {H : Hp} {s : Shared} {R : It → Hp → Prop} {E : Value → Shared → Prop} {lo hi : Int} {t u v : Tok} {tk : Nat} (I : Inv X pins σ H s) (h1 : -(2 ^ 62) ≤ lo) (h2 : lo < 2 ^ 62) (h3 : -(2 ^ 62) ≤ hi) (h4 : hi < 2 ^ 62)
    (q : R (Itr lo (hi - lo).toNat) H) : wpAny (model X.prog X.w) X.A (pyIter (.ref s.heap.objs.size)) (PIE X pins σ tg R) E { s with heap := s.heap.push { cls := .type "range", data := .fields #[.int lo t, .int hi u, .int 1 v] }, toks := tk } := by
  refine wpAny_pyIter_range (IsRange.new ..) (small_one h1 h2 h3 h4) ?_
  have I1 : Inv X pins σ H { s with heap := s.heap.push { cls := .type "range", data := .fields #[.int lo t, .int hi u, .int 1 v] }, toks := tk } := I.kept fun b o e => Heap.get?_push_of_some _ e
  refine ⟨(s.heap.push { cls := .type "range", data := .fields #[.int lo t, .int hi u, .int 1 v] }).objs.size, [(s.heap.push { cls := .type "range", data := .fields #[.int lo t, .int hi u, .int 1 v] }).objs.size], _, _, H, rfl,
    I1.kept (t' := tk) fun b o e => Heap.get?_push_of_some _ e, turn_range _ lo (hi - lo).toNat, ?_, fun b hb => ?_, q⟩
  · have e1 : lo + ((0 : Nat) : Int) * 1 = lo := by simp
    have e2 : (((hi - lo).toNat : Nat) : Int) - ((0 : Nat) : Int) = Builtin.Range.rangeSize lo hi 1 := by rw [rangeSize_one]; split <;> omega
    show IsRangeIter _ _ (lo + ((0 : Nat) : Int) * 1) ((((hi - lo).toNat : Nat) : Int) - ((0 : Nat) : Int)) 1
    rw [e1, e2]
    exact Heap.get?_push_size _ rfl
  · have e : b = (s.heap.push { cls := .type "range", data := .fields #[.int lo t, .int hi u, .int 1 v] }).objs.size := by simpa using hb
    subst e
    exact I1.fpOk (Nat.le_refl _) (I1.hok.fresh (Nat.le_refl _))
def iRng1 (ta : TA) : TI := fun σ H R => ta σ H fun vs H1 => ∃ j : Int, vs = [.int j] ∧ -(2 ^ 62) ≤ j ∧ j < 2 ^ 62 ∧ R (Itr 0 j.toNat) H1
def iRng2 (ta : TA) : TI := fun σ H R => ta σ H fun vs H1 => ∃ i j : Int, vs = [.int i, .int j] ∧ (-(2 ^ 62) ≤ i ∧ i < 2 ^ 62 ∧ -(2 ^ 62) ≤ j ∧ j < 2 ^ 62) ∧ R (Itr i (j - i).toNat) H1
theorem pi_range1 {a : Expr} {ta : TA} {p pos : Pos} (hg : Gl X "range") (hm : X.mg "range" = none) (ha : PA X [a] ta) (hs : starEach [a] X.env = [(false, eval a X.env)] := by rfl) : PI X tg (.Call (.Name "range" p) [a] [] pos) (iRng1 ta) := by
  intro pins s σ H R I h
  refine Call_ (ld_blt I hg hm boot_range (PyProof.Rows.callWith_type1 (thn (ha pos pins s σ H _ I h) fun us s1 ⟨vs, H1, I1, r1, q1⟩ => ?_) hs rfl))
  obtain ⟨j, e, q1, q2, q⟩ := q1
  subst e
  cases r1 with
  | cons r rr =>
    cases rr
    obtain ⟨t, rfl⟩ := r
    exact call_range_1 (range_it I1 (by omega) (by omega) q1 q2 (by simpa using q))
theorem pi_range2 {a b : Expr} {ta : TA} {p pos : Pos} (hg : Gl X "range") (hm : X.mg "range" = none) (ha : PA X [a, b] ta) (hs : starEach [a, b] X.env = [(false, eval a X.env), (false, eval b X.env)] := by rfl) (hs2 : starEach [b] X.env = [(false, eval b X.env)] := by rfl) :
    PI X tg (.Call (.Name "range" p) [a, b] [] pos) (iRng2 ta) := by
  intro pins s σ H R I h
  refine Call_ (ld_blt I hg hm boot_range (PyProof.Rows.callWith_type1 (thn (ha pos pins s σ H _ I h) fun us s1 ⟨vs, H1, I1, r1, q1⟩ => ?_) (by rw [hs, hs2]) (by rw [hs2]; rfl)))
  obtain ⟨i, j, e, ⟨q1, q2, q3, q4⟩, q⟩ := q1
  subst e
  cases r1 with
  | cons r rr =>
    cases rr with
    | cons r' rr =>
      cases rr
      obtain ⟨t, rfl⟩ := r
      obtain ⟨t', rfl⟩ := r'
      exact call_range_2 (range_it I1 q1 q2 q3 q4 q)

/-! ### for -/
/-- W: the invariant by the turn and a measure; N: what the body is to reach -/
def tFor (wi : TI) (g : TG) (tb : TS) : TS := fun D σ H => wi σ H fun J H1 => ∃ W : Nat → Nat → St → Hp → Prop, (∃ m, W 0 m σ H1) ∧ ∀ i m σ H, W i m σ H →
  (J.stop i H ∧ D.nx σ H) ∨ (J.go i H ∧ ∃ N : St → Hp → Prop, (∀ σ' H', N σ' H' → ∃ m', m' < m ∧ W (i + 1) m' σ' H') ∧ ∀ x H', J.yld i H x H' → g x σ H' fun σ2 H2 => tb { D with nx := N, ct := N, bk := D.nx } σ2 H2)
/-- the records at fp as they stand -/
def pinsAt (fp : List Addr) (h : Heap) : List (Addr × Obj) := fp.filterMap fun b => (h.get? b).map fun o => (b, o)
theorem mem_pinsAt {fp : List Addr} {h : Heap} {b : Addr} {o : Obj} (hb : b ∈ fp) (e : h.get? b = some o) : (b, o) ∈ pinsAt fp h := List.mem_filterMap.mpr ⟨b, hb, by rw [e]; rfl⟩
theorem of_pinsAt {fp : List Addr} {h : Heap} {p : Addr × Obj} (hp : p ∈ pinsAt fp h) : p.1 ∈ fp ∧ h.get? p.1 = some p.2 := by
  obtain ⟨b, hb, e⟩ := List.mem_filterMap.mp hp
  cases q : h.get? b with
  | none => rw [q] at e; cases e
  | some o =>
    rw [q] at e
    have e' : (b, o) = p := Option.some.inj e
    subst e'
    exact ⟨hb, q⟩
theorem Inv.pinned {pins : List (Addr × Obj)} {σ : St} {H : Hp} {s : Shared} {fp : List Addr} (I : Inv X pins σ H s) (hf : ∀ b ∈ fp, FpOk X pins H b) (ho : ∀ b ∈ fp, ∃ o, s.heap.get? b = some o ∧ ∀ v, o.data ≠ .cell v) : Inv X (pins ++ pinsAt fp s.heap) σ H s :=
  I.pins_of fun p hp => (List.mem_append.mp hp).elim (fun z => I.pin p (List.mem_append_right _ z)) fun z => by
    obtain ⟨hb, e⟩ := of_pinsAt z
    obtain ⟨f0, f1, f2, _⟩ := hf p.1 hb
    obtain ⟨o, e', d⟩ := ho p.1 hb
    rw [e] at e'; cases e'
    exact ⟨e, f0, f1, f2, d⟩
theorem Inv.unpinned {pins pl : List (Addr × Obj)} {σ : St} {H : Hp} {s : Shared} (I : Inv X (pins ++ pl) σ H s) : Inv X pins σ H s := I.pins_of fun p hp => I.pin p (List.mem_append_right _ (List.mem_append_left _ hp))
theorem ps_for {iter : Expr} {body : List Stmt} {wi : TI} {g : TG} {tb : TS} {pos : Pos} (hp : PassesOwn (model X.prog X.w) X.A X.env X.xe) (hc : X.calm = true) (hi : PI X tg iter wi) (hg : PG X tg g) (hb : PSs X body tb)
    (hs : ∀ x, foldedSetIterable iter X.env x = pure x := by intro _; rfl) : PS X (.For tg iter body [] pos) (tFor wi g tb) := by
  intro pins s σ H D I h
  refine wpAny_For (thn (hi pins s σ H _ I h) fun v s1 h1 => thn h1 fun itv s2 h2 => ?_) hs
  obtain ⟨it, fp, tn, J, H2, e, I2, T, st2, f2, W, ⟨m0, w0⟩, turn⟩ := h2
  subst e
  -- what stays true of the iterator's objects through the loop
  have stat : ∀ {H' : Hp}, (∀ b ∈ fp, H' b = none) → ∀ b ∈ fp, FpOk X pins H' b := fun hn b hb => ⟨hn b hb, (f2 b hb).2⟩
  refine codeAny_forLoop_any (fun n s' => ∃ i σ' H', Inv X pins σ' H' s' ∧ tn i s'.heap ∧ (∀ b ∈ fp, H' b = none) ∧ W i n σ' H') ?_ m0 ⟨0, σ, H2, I2, st2, fun b hb => (f2 b hb).1, w0⟩
  rintro n s3 ⟨i, σ3, H3, I3, st3, fr3, w3⟩
  rcases turn i n σ3 H3 w3 with ⟨stop, qn⟩ | ⟨go, N, hN, step⟩
  · refine wpAny_passesOwn hp (thn (T.done X rfl rfl rfl hc i pins s3 σ3 H3 X.xe I3 (stat fr3) st3 stop) fun r s4 ⟨hr, I4⟩ => ?_)
    subst hr
    exact wpAny_execs_nil ⟨σ3, H3, I4, qn⟩
  · refine wpAny_passesOwn hp (thn (T.item X rfl rfl rfl hc i pins s3 σ3 H3 X.xe I3 (stat fr3) st3 go) fun r s4 ⟨u, hr, h4⟩ => ?_)
    subst hr
    refine wpAny_passesOwn hp (thn h4 fun _ s5 ⟨x, H5, I5, r5, y5, st5, fr5⟩ => ?_)
    have I5' := I5.pinned (stat fr5) (T.obj _ _ st5)
    refine wpAny_passesOwn hp (thn (hg _ s5 σ3 H5 x u _ I5' r5 (step x H5 y5)) fun _ s6 ⟨σ6, H6, I6, q6⟩ => ?_)
    refine wpAny_passesOwn hp (thn (hb _ s6 σ6 H6 _ I6 q6) fun f s7 q7 => ?_)
    have again : ∀ {σ7 : St} {H7 : Hp}, Inv X (pins ++ pinsAt fp s5.heap) σ7 H7 s7 → N σ7 H7 → ∃ m, m < n ∧ ∃ i σ' H', Inv X pins σ' H' s7 ∧ tn i s7.heap ∧ (∀ b ∈ fp, H' b = none) ∧ W i m σ' H' := fun {σ7 H7} I7 n7 => by
      obtain ⟨m', hm, w7⟩ := hN σ7 H7 n7
      refine ⟨m', hm, i + 1, σ7, H7, I7.unpinned, T.keep _ _ _ st5 fun b hb o e => (I7.pin (b, o) (List.mem_append_right _ (List.mem_append_right _ (mem_pinsAt hb e)))).1, fun b hb => ?_, w7⟩
      obtain ⟨o, e, d⟩ := T.obj _ _ st5 b hb
      exact (I7.pin (b, o) (List.mem_append_right _ (List.mem_append_right _ (mem_pinsAt hb e)))).2.1
    cases f with
    | next => obtain ⟨σ7, H7, I7, n7⟩ := q7; exact again I7 n7
    | cont => obtain ⟨σ7, H7, I7, n7⟩ := q7; exact again I7 n7
    | brk => obtain ⟨σ7, H7, I7, q7⟩ := q7; exact ⟨σ7, H7, I7.unpinned, q7⟩
    | ret v => obtain ⟨x7, σ7, H7, I7, r7, q7⟩ := q7; exact ⟨x7, σ7, H7, I7.unpinned, r7, q7⟩
end

/-! ### the forms one uses -/
/-- over a list that the body leaves as it is -/
theorem for_list {K : PySem.W.Frag} {a : Addr} {xs : List V} {g : TG} {tb : TS} {D : Ends} {σ : St} {H : Hp} (Pv : Nat → St → Hp → Prop) (h0 : Pv 0 σ H) (hl : ∀ i σ H, i ≤ xs.length → Pv i σ H → SqL K H a xs)
    (hs : ∀ i x σ H, xs[i]? = some x → Pv i σ H → g x σ H fun σ2 H2 => tb { D with nx := Pv (i + 1), ct := Pv (i + 1), bk := D.nx } σ2 H2) (hd : ∀ σ H, Pv xs.length σ H → D.nx σ H) :
    ∃ W : Nat → Nat → St → Hp → Prop, (∃ m, W 0 m σ H) ∧ ∀ i m σ H, W i m σ H →
      ((Itl K a).stop i H ∧ D.nx σ H) ∨ ((Itl K a).go i H ∧ ∃ N : St → Hp → Prop, (∀ σ' H', N σ' H' → ∃ m', m' < m ∧ W (i + 1) m' σ' H') ∧ ∀ x H', (Itl K a).yld i H x H' → g x σ H' fun σ2 H2 => tb { D with nx := N, ct := N, bk := D.nx } σ2 H2) := by
  refine ⟨fun i m σ H => m = xs.length - i ∧ i ≤ xs.length ∧ Pv i σ H, ⟨xs.length, by simp, Nat.zero_le _, h0⟩, ?_⟩
  rintro i m σ H ⟨rfl, hi, p⟩
  have q := hl i σ H hi p
  by_cases hlt : i < xs.length
  · refine .inr ⟨⟨xs, xs[i], q, by simp [hlt]⟩, Pv (i + 1), fun σ' H' p' => ⟨xs.length - (i + 1), by omega, rfl, hlt, p'⟩, fun x H' y => ?_⟩
    obtain ⟨e, y⟩ := y
    subst e
    exact hs i x σ _ (y xs q) p
  · have e : i = xs.length := by omega
    subst e
    exact .inl ⟨⟨xs, q, Nat.le_refl _⟩, hd σ H p⟩
theorem for_range {lo : Int} {n : Nat} {g : TG} {tb : TS} {D : Ends} {σ : St} {H : Hp} (Pv : Nat → St → Hp → Prop) (h0 : Pv 0 σ H)
    (hs : ∀ i σ H, i < n → Pv i σ H → g (.int (lo + i)) σ H fun σ2 H2 => tb { D with nx := Pv (i + 1), ct := Pv (i + 1), bk := D.nx } σ2 H2) (hd : ∀ σ H, Pv n σ H → D.nx σ H) :
    ∃ W : Nat → Nat → St → Hp → Prop, (∃ m, W 0 m σ H) ∧ ∀ i m σ H, W i m σ H →
      ((Itr lo n).stop i H ∧ D.nx σ H) ∨ ((Itr lo n).go i H ∧ ∃ N : St → Hp → Prop, (∀ σ' H', N σ' H' → ∃ m', m' < m ∧ W (i + 1) m' σ' H') ∧ ∀ x H', (Itr lo n).yld i H x H' → g x σ H' fun σ2 H2 => tb { D with nx := N, ct := N, bk := D.nx } σ2 H2) := by
  refine ⟨fun i m σ H => m = n - i ∧ i ≤ n ∧ Pv i σ H, ⟨n, by simp, Nat.zero_le _, h0⟩, ?_⟩
  rintro i m σ H ⟨rfl, hi, p⟩
  by_cases hlt : i < n
  · refine .inr ⟨hlt, Pv (i + 1), fun σ' H' p' => ⟨n - (i + 1), by omega, rfl, hlt, p'⟩, fun x H' y => ?_⟩
    obtain ⟨e, y⟩ := y
    subst e y
    exact hs i σ _ hlt p
  · have e : i = n := by omega
    subst e
    exact .inl ⟨Nat.le_refl _, hd σ H p⟩
/-- while, by a word and a measure of the state -/
theorem while_by {c : TT} {tb : TS} {D : Ends} {σ : St} {H : Hp} (Pv : St → Hp → Prop) (μ : St → Hp → Nat) (h0 : Pv σ H)
    (hs : ∀ σ H, Pv σ H → c σ H fun b H1 => if b = true then tb { D with nx := fun σ' H' => Pv σ' H' ∧ μ σ' H' < μ σ H, ct := fun σ' H' => Pv σ' H' ∧ μ σ' H' < μ σ H, bk := D.nx } σ H1 else D.nx σ H1)
    (mono : ∀ σ H Q Q', (∀ b H1, Q b H1 → Q' b H1) → c σ H Q → c σ H Q') : tWhile c tb D σ H := by
  refine ⟨fun m σ H => m = μ σ H ∧ Pv σ H, ⟨_, rfl, h0⟩, ?_⟩
  rintro m σ H ⟨rfl, p⟩
  refine mono σ H _ _ (fun b H1 q => ?_) (hs σ H p)
  cases b with
  | true => exact ⟨_, fun σ' H' ⟨p', l⟩ => ⟨_, l, rfl, p'⟩, q⟩
  | false => exact q
end L2

namespace L2
open PySem PySem.Spec PyProof.Rows

abbrev R2 := V → V → Hp → VK → Prop
/-- a two-place operation on values: f is binaryOp op, inplaceOp op or compareOp op -/
def OpR (X : Cx) (f : Value → Value → Sem Value) (r : R2) : Prop :=
  ∀ (pins : List (Addr × Obj)) (s : Shared) (σ : St) (H : Hp) (x y : V) (v u : Value) (Q : VK), Inv X pins σ H s → RelV x v → RelV y u → r x y H Q →
    wpAny (model X.prog X.w) X.A (f v u) (EP X pins σ Q) X.xe s
/-- a call of a value that is known (a builtin, a type) with values -/
def CallR (X : Cx) (f : Value) (r : List V → Hp → VK → Prop) : Prop :=
  ∀ (pins : List (Addr × Obj)) (s : Shared) (σ : St) (H : Hp) (xs : List V) (us : List Value) (Q : VK), Inv X pins σ H s → Vals xs us → r xs H Q →
    wpAny (model X.prog X.w) X.A (call f us) (EP X pins σ Q) X.xe s
def tOp (r : R2) (ta tb : TE) : TE := fun σ H Q => ta σ H fun x H1 => tb σ H1 fun y H2 => r x y H2 Q
/-- ints in, under C, and a value out -/
def rI (C : Int → Int → Prop) (g : Int → Int → V) : R2 := fun x y H Q => ∃ i j, x = .int i ∧ y = .int j ∧ C i j ∧ Q (g i j) H
def rI0 (g : Int → Int → V) : R2 := fun x y H Q => ∃ i j, x = .int i ∧ y = .int j ∧ Q (g i j) H
section
variable {X : Cx} {a b c : Expr} {ta tb tc : TE} {pos : Pos}

theorem binT (ha : PE X a ta) (hb : PE X b tb) {pins : List (Addr × Obj)} {s : Shared} {σ : St} {H : Hp} {R : V → V → Hp → Prop} (I : Inv X pins σ H s)
    (h : ta σ H fun x H1 => tb σ H1 fun y H2 => R x y H2) {Q : Value → Shared → Prop} {f : Value → Value → Sem Value}
    (hf : ∀ v u s2 x y H2, Inv X pins σ H2 s2 → RelV x v → RelV y u → R x y H2 → wpAny (model X.prog X.w) X.A (f v u) Q X.xe s2) :
    wpAny (model X.prog X.w) X.A (eval a X.env) (fun v s₁ => wpAny (model X.prog X.w) X.A (eval b X.env) (fun u s₂ => wpAny (model X.prog X.w) X.A (f v u) Q X.xe s₂) X.xe s₁) X.xe s := by
  refine thn (ha pins s σ H _ I h) fun v s1 ⟨x, H1, I1, r1, q1⟩ => ?_
  refine thn (hb pins s1 σ H1 _ I1 q1) fun u s2 ⟨y, H2, I2, r2, q2⟩ => ?_
  exact hf v u s2 x y H2 I2 r1 r2 q2

theorem pe_op {op : Operator} {r : R2} (ho : OpR X (binaryOp op) r) (ha : PE X a ta) (hb : PE X b tb) : PE X (.BinOp a op b pos) (tOp r ta tb) := by
  intro pins s σ H Q I h
  exact wpAny_BinOp (binT ha hb I h fun v u s2 x y H2 I2 rx ry q => ho pins s2 σ H2 x y v u Q I2 rx ry q)
/-! ### ints -/
theorem opI {f : Value → Value → Sem Value} {C : Int → Int → Prop} {g : Int → Int → Int}
    (rule : ∀ (i j : Int) (t u : Tok) (s : Shared) (Q : Value → Shared → Prop) (E : Value → Shared → Prop), C i j → Q (.int (g i j) s.toks) { s with toks := s.toks + 1 } → wpAny (model X.prog X.w) X.A (f (.int i t) (.int j u)) Q E s) :
    OpR X f (rI C fun i j => .int (g i j)) := by
  intro pins s σ H x y v u Q I rx ry h
  obtain ⟨i, j, rfl, rfl, hc, q⟩ := h
  obtain ⟨t, rfl⟩ := rx
  obtain ⟨t', rfl⟩ := ry
  exact rule i j t t' s _ _ hc ⟨.int (g i j), H, I.tok _, ⟨_, rfl⟩, q⟩
theorem opI0 {f : Value → Value → Sem Value} {g : Int → Int → Int}
    (rule : ∀ (i j : Int) (t u : Tok) (s : Shared) (Q : Value → Shared → Prop) (E : Value → Shared → Prop), Q (.int (g i j) s.toks) { s with toks := s.toks + 1 } → wpAny (model X.prog X.w) X.A (f (.int i t) (.int j u)) Q E s) :
    OpR X f (rI0 fun i j => .int (g i j)) := by
  intro pins s σ H x y v u Q I rx ry h
  obtain ⟨i, j, rfl, rfl, q⟩ := h
  obtain ⟨t, rfl⟩ := rx
  obtain ⟨t', rfl⟩ := ry
  exact rule i j t t' s _ _ ⟨.int (g i j), H, I.tok _, ⟨_, rfl⟩, q⟩
theorem opB0 {f : Value → Value → Sem Value} {g : Int → Int → Bool}
    (rule : ∀ (i j : Int) (t u : Tok) (s : Shared) (Q : Value → Shared → Prop) (E : Value → Shared → Prop), Q (.bool (g i j)) s → wpAny (model X.prog X.w) X.A (f (.int i t) (.int j u)) Q E s) :
    OpR X f (rI0 fun i j => .bl (g i j)) := by
  intro pins s σ H x y v u Q I rx ry h
  obtain ⟨i, j, rfl, rfl, q⟩ := h
  obtain ⟨t, rfl⟩ := rx
  obtain ⟨t', rfl⟩ := ry
  exact rule i j t t' s _ _ ⟨.bl (g i j), H, I, rfl, q⟩

def CDiv (i j : Int) : Prop := 0 < j ∧ j < 1073741824
def CMul (i j : Int) : Prop := (-(2 ^ 64) < i ∧ i < 2 ^ 64) ∨ (-(2 ^ 64) < j ∧ j < 2 ^ 64)
theorem CMul.ok {i j : Int} (h : CMul i j) : IntMulOk i j := by
  rcases h with ⟨h1, h2⟩ | ⟨h1, h2⟩
  · exact .of_left (intBits_le_64 h1 h2)
  · exact .of_right (intBits_le_64 h1 h2)
theorem op_add : OpR X (binaryOp .Add) (rI0 fun i j => .int (i + j)) := opI0 fun _ _ _ _ _ _ _ q => add_int q
theorem op_sub : OpR X (binaryOp .Sub) (rI0 fun i j => .int (i - j)) := opI0 fun _ _ _ _ _ _ _ q => sub_int q
theorem op_mul : OpR X (binaryOp .Mult) (rI CMul fun i j => .int (i * j)) := opI fun _ _ _ _ _ _ _ hc q => mul_int q hc.ok
/-- // by a positive divisor -/
theorem op_fdiv : OpR X (binaryOp .FloorDiv) (rI CDiv fun i j => .int (i / j)) := opI fun i j _ _ _ _ _ hc q => by
  have h1 : (0 : Int) < j := hc.1
  have h2 : j < 1073741824 := hc.2
  exact floordiv_int (by omega) (by rw [Int.fdiv_eq_ediv_of_nonneg i (by omega)]; exact q) (.inl (PyProof.noPylong_small (by omega)))
/-! ### bools among ints: n += (a < b) -/
end

/-! ### comparisons -/
/-- the scalars that == tells apart as data does -/
def scal : V → V → Bool
  | .non, .non => true | .non, .int _ => true | .int _, .non => true | .non, .bl _ => true | .bl _, .non => true | .non, .str _ => true | .str _, .non => true
  | .int _, .int _ => true | .bl _, .bl _ => true | .str _, .str _ => true | .byt _, .byt _ => true
  | .int _, .str _ => true | .str _, .int _ => true | .bl _, .str _ => true | .str _, .bl _ => true
  | _, _ => false
def rEq : R2 := fun x y H Q => scal x y = true ∧ Q (.bl (decide (x = y))) H
def rNe : R2 := fun x y H Q => scal x y = true ∧ Q (.bl (!decide (x = y))) H

theorem dec_int {i j : Int} : decide (V.int i = V.int j) = (i == j) := by
  rw [Bool.eq_iff_iff]
  simp
theorem dec_bl {i j : Bool} : decide (V.bl i = V.bl j) = (i == j) := by
  rw [Bool.eq_iff_iff]
  simp
theorem dec_str {i j : Str} : decide (V.str i = V.str j) = (i == j) := by
  rw [Bool.eq_iff_iff]
  simp
theorem dec_byt {i j : Array UInt8} : decide (V.byt i = V.byt j) = (i.toList == j.toList) := by
  rw [Bool.eq_iff_iff]
  cases i
  cases j
  simp

section
variable {X : Cx} {a b c : Expr} {ta tb tc : TE} {pos : Pos}
theorem fin_bl {pins : List (Addr × Obj)} {σ : St} {H : Hp} {s : Shared} {Q : VK} {k k' : Bool} (I : Inv X pins σ H s) (q : Q (.bl k) H) (e : k = k') : EP X pins σ Q (.bool k') s := by
  subst e
  exact ⟨.bl k, H, I, rfl, q⟩
theorem op_eq : OpR X (compareOp .Eq) rEq := by
  intro pins s σ H x y v u Q I rx ry h
  obtain ⟨hs, q⟩ := h
  cases x with
  | non =>
    cases rx
    cases y with
    | non => cases ry; exact PySem.EqNone.eq_none_none (fin_bl I q (by simp))
    | bl j => cases ry; exact PySem.EqNone.eq_none_bool (fin_bl I q (by simp))
    | int j => obtain ⟨t', rfl⟩ := ry; exact PySem.EqNone.eq_none_int (fin_bl I q (by simp))
    | str j => obtain ⟨t', rfl⟩ := ry; exact PySem.EqNone.eq_none_str (fin_bl I q (by simp))
    | _ => exact absurd (show false = true from hs) Bool.false_ne_true
  | bl i =>
    cases rx
    cases y with
    | non => cases ry; exact PySem.EqNone.eq_bool_none (fin_bl I q (by simp))
    | bl j => cases ry; exact eq_bool (fin_bl I q dec_bl)
    | str j => obtain ⟨t', rfl⟩ := ry; exact PySem.EqMixed.eq_bool_str (fin_bl I q (by simp))
    | _ => exact absurd (show false = true from hs) Bool.false_ne_true
  | int i =>
    obtain ⟨t, rfl⟩ := rx
    cases y with
    | non => cases ry; exact PySem.EqNone.eq_int_none (fin_bl I q (by simp))
    | int j => obtain ⟨t', rfl⟩ := ry; exact eq_int (fin_bl I q dec_int)
    | str j => obtain ⟨t', rfl⟩ := ry; exact PySem.EqMixed.eq_int_str (fin_bl I q (by simp))
    | _ => exact absurd (show false = true from hs) Bool.false_ne_true
  | str i =>
    obtain ⟨t, rfl⟩ := rx
    cases y with
    | non => cases ry; exact PySem.EqNone.eq_str_none (fin_bl I q (by simp))
    | bl j => cases ry; exact PySem.EqMixed.eq_str_bool (fin_bl I q (by simp))
    | int j => obtain ⟨t', rfl⟩ := ry; exact PySem.EqMixed.eq_str_int (fin_bl I q (by simp))
    | str j => obtain ⟨t', rfl⟩ := ry; exact eq_str (fin_bl I q dec_str)
    | _ => exact absurd (show false = true from hs) Bool.false_ne_true
  | byt i =>
    obtain ⟨t, rfl⟩ := rx
    cases y with
    | byt j => obtain ⟨t', rfl⟩ := ry; exact PySem.W.eq_bytes (fin_bl I q dec_byt)
    | _ => exact absurd (show false = true from hs) Bool.false_ne_true
  | _ => cases y <;> exact absurd (show false = true from hs) Bool.false_ne_true
theorem op_ne : OpR X (compareOp .NotEq) rNe := by
  intro pins s σ H x y v u Q I rx ry h
  obtain ⟨hs, q⟩ := h
  cases x with
  | non =>
    cases rx
    cases y with
    | non => cases ry; exact PySem.EqNone.ne_none_none (fin_bl I q (by simp))
    | bl j => cases ry; exact PySem.EqNone.ne_none_bool (fin_bl I q (by simp))
    | int j => obtain ⟨t', rfl⟩ := ry; exact PySem.EqNone.ne_none_int (fin_bl I q (by simp))
    | str j => obtain ⟨t', rfl⟩ := ry; exact PySem.EqNone.ne_none_str (fin_bl I q (by simp))
    | _ => exact absurd (show false = true from hs) Bool.false_ne_true
  | bl i =>
    cases rx
    cases y with
    | non => cases ry; exact PySem.EqNone.ne_bool_none (fin_bl I q (by simp))
    | bl j => cases ry; exact ne_bool (fin_bl I q (congrArg not dec_bl))
    | str j => obtain ⟨t', rfl⟩ := ry; exact PySem.EqMixed.ne_bool_str (fin_bl I q (by simp))
    | _ => exact absurd (show false = true from hs) Bool.false_ne_true
  | int i =>
    obtain ⟨t, rfl⟩ := rx
    cases y with
    | non => cases ry; exact PySem.EqNone.ne_int_none (fin_bl I q (by simp))
    | int j => obtain ⟨t', rfl⟩ := ry; exact ne_int (fin_bl I q (congrArg not dec_int))
    | str j => obtain ⟨t', rfl⟩ := ry; exact PySem.EqMixed.ne_int_str (fin_bl I q (by simp))
    | _ => exact absurd (show false = true from hs) Bool.false_ne_true
  | str i =>
    obtain ⟨t, rfl⟩ := rx
    cases y with
    | non => cases ry; exact PySem.EqNone.ne_str_none (fin_bl I q (by simp))
    | bl j => cases ry; exact PySem.EqMixed.ne_str_bool (fin_bl I q (by simp))
    | int j => obtain ⟨t', rfl⟩ := ry; exact PySem.EqMixed.ne_str_int (fin_bl I q (by simp))
    | str j => obtain ⟨t', rfl⟩ := ry; exact ne_str (fin_bl I q (congrArg not dec_str))
    | _ => exact absurd (show false = true from hs) Bool.false_ne_true
  | byt i =>
    obtain ⟨t, rfl⟩ := rx
    cases y with
    | byt j => obtain ⟨t', rfl⟩ := ry; exact PySem.W.ne_bytes (fin_bl I q (congrArg not dec_byt))
    | _ => exact absurd (show false = true from hs) Bool.false_ne_true
  | _ => cases y <;> exact absurd (show false = true from hs) Bool.false_ne_true

theorem op_lt : OpR X (compareOp .Lt) (rI0 fun i j => .bl (decide (i < j))) := opB0 fun _ _ _ _ _ _ _ q => lt_int q
theorem op_le : OpR X (compareOp .LtE) (rI0 fun i j => .bl (decide (i ≤ j))) := opB0 fun _ _ _ _ _ _ _ q => le_int q
theorem op_gt : OpR X (compareOp .Gt) (rI0 fun i j => .bl (decide (j < i))) := opB0 fun _ _ _ _ _ _ _ q => gt_int q
/-- is None, is not None: the right side a value none -/
theorem op_isN : OpR X (compareOp .Is) (fun x y H Q => y = .non ∧ Q (.bl (decide (x = .non))) H) := by
  intro pins s σ H x y v u Q I rx ry h
  obtain ⟨rfl, q⟩ := h
  cases ry
  refine is_none_gen (fin_bl I q ?_)
  cases x <;> first
    | (cases rx; rfl)
    | (obtain ⟨t, rfl⟩ := rx; rfl)
/-- two rules for one operation: by cases -/
theorem OpR.or {f : Value → Value → Sem Value} {r r' : R2} (h : OpR X f r) (h' : OpR X f r') : OpR X f (fun x y H Q => r x y H Q ∨ r' x y H Q) := by
  intro pins s σ H x y v u Q I rx ry q
  rcases q with q | q
  · exact h pins s σ H x y v u Q I rx ry q
  · exact h' pins s σ H x y v u Q I rx ry q

theorem nomark (b : Expr) {op : CmpOp} (h : op ≠ .In := by decide) (h2 : op ≠ .NotIn := by decide) : behindInMarks op b = false := by
  have e1 : (op == CmpOp.In) = false := by cases op <;> first | rfl | exact absurd rfl h
  have e2 : (op == CmpOp.NotIn) = false := by cases op <;> first | rfl | exact absurd rfl h2
  cases b <;> simp [behindInMarks, e1, e2]
/-- a comparison as a value; hm: nomark b, or (for in, not in) by with_unfolding_all rfl -/
theorem pe_cmpR {op : CmpOp} {r : R2} (ho : OpR X (compareOp op) r) (ha : PE X a ta) (hb : PE X b tb) (hm : behindInMarks op b = false) : PE X (.Compare a [op] [b] pos) (tOp r ta tb) := by
  intro pins s σ H Q I h
  exact wpAny_Compare1 (binT ha hb I h fun v u s2 x y H2 I2 rx ry q => ho pins s2 σ H2 x y v u Q I2 rx ry q) hm
/-- a reading of a value as a test -/
def tTest (t : TE) : TT := fun σ H Q => t σ H fun x H' => ∃ k, x = .bl k ∧ Q k H'
theorem pt_cmpR {op : CmpOp} {r : R2} (ho : OpR X (compareOp op) r) (ha : PE X a ta) (hb : PE X b tb) (hm : behindInMarks op b = false) : PT X (.Compare a [op] [b] pos) (tTest (tOp r ta tb)) := by
  intro pins s σ H Q I h
  refine wpAny_isTrue_Compare1 (thn (ha pins s σ H _ I h) fun v s1 ⟨x, H1, I1, r1, q1⟩ => thn (hb pins s1 σ H1 _ I1 q1) fun u s2 ⟨y, H2, I2, r2, q2⟩ =>
    thn (ho pins s2 σ H2 x y v u _ I2 r1 r2 q2) fun c s3 ⟨z, H3, I3, r3, k, e, q3⟩ => ?_) hm
  subst e
  cases r3
  exact wpAny_truthy_bool ⟨H3, I3, q3⟩
/-! ### truth -/
theorem line63 : (sizeLine : Nat) < 2 ^ 63 := by rw [sizeLine_eq]; decide
/-! ### strs and bytes -/
/-! ### scalar builtins, by CallR -/
theorem vals1 {x : V} {us : List Value} (r : Vals [x] us) : ∃ u, us = [u] ∧ RelV x u := by
  cases r with
  | cons r1 r2 => cases r2; exact ⟨_, rfl, r1⟩
theorem vals2 {x y : V} {us : List Value} (r : Vals [x, y] us) : ∃ u w', us = [u, w'] ∧ RelV x u ∧ RelV y w' := by
  cases r with
  | cons r1 r2 =>
    cases r2 with
    | cons r3 r4 => cases r4; exact ⟨_, _, rfl, r1, r3⟩
theorem call_min2 (hc : X.calm = true) : CallR X (.builtin "min") (fun xs H Q => ∃ i j, xs = [.int i, .int j] ∧ Q (.int (if j < i then j else i)) H) := by
  intro pins s σ H xs us Q I r h
  obtain ⟨i, j, rfl, q⟩ := h
  obtain ⟨u, w', rfl, ⟨t, rfl⟩, ⟨t', rfl⟩⟩ := vals2 r
  refine min_two_ints (I.ok.hd hc) fun h' tk k => ⟨_, H, I.kept k, ?_, q⟩
  by_cases hj : j < i
  · rw [if_pos hj, if_pos hj]; exact ⟨_, rfl⟩
  · rw [if_neg hj, if_neg hj]; exact ⟨_, rfl⟩
end
end L2

namespace L2
open PySem PySem.Spec PyProof.Rows

/-! ### an instance, its attributes a map -/
structure ObjM (h : Heap) (x dx C : Addr) (mA : Str → Option Value) : Prop where
  obj : h.get? x = some (PySem.W.instObj C dx)
  ns : h.Ns1 dx mA
  ne : dx ≠ x

theorem lookIn_ns {h : Heap} {dx : Addr} {mA : Str → Option Value} (n : h.Ns1 dx mA) : ∃ od, h.get? dx = some od ∧ ∀ name, PySem.W.lookIn name od = some (mA name) := by
  obtain ⟨o, es, ep, ho, hd, hk, _, hm⟩ := n
  refine ⟨o, ho, fun name => ?_⟩
  have e := hm name
  unfold nsFind findBy at e
  rw [← Array.find?_toList] at e
  unfold PySem.W.lookIn
  rw [hd]
  dsimp only
  split
  · rename_i y q
    rw [q] at e
    exact congrArg some e
  · rename_i q
    rw [q] at e
    have a : es.toList.any (·.refKey) = false := by
      rw [List.any_eq_false]
      intro y hy
      obtain ⟨z, t, hkey⟩ := hk y (Array.mem_toList_iff.mp hy)
      simp [DictEntry.refKey, hkey]
    have a' : ¬ es.toList.any (·.refKey) = true := by rw [a]; exact Bool.false_ne_true
    rw [if_neg a']
    exact congrArg some e

theorem ObjM.look {h : Heap} {x dx C : Addr} {mA : Str → Option Value} (I : ObjM h x dx C mA) : ∃ od, PySem.W.InstAt h x (PySem.W.instObj C dx) C (some od) ∧ ∀ name, PySem.W.lookIn name od = some (mA name) :=
  let ⟨od, ho, hl⟩ := lookIn_ns I.ns
  ⟨od, ⟨I.obj, rfl, rfl, ho⟩, hl⟩

section
variable {prog : Program} {w : World} {A : Around} {E : Value → Shared → Prop} {s : Shared} {K : PySem.W.Frag} {x dx C f : Addr} {mA : Str → Option Value} {name : Str} {v : Value}

theorem get_map {expr : Bool} {Q : Value → Shared → Prop} (X : K.In s.heap) (I : ObjM s.heap x dx C mA) (hg : PySem.W.plainGet K C name = true) (hh : PySem.W.hasDictIn K C = true)
    (ha : PySem.W.findIn K (.ref C) name = some none) (hv : mA name = some v) (hv' : PySem.W.handedIn v = true) (h : Q v { s with toks := s.toks + 1 }) :
    wpAny (model prog w) A (getAttr (.ref x) name expr) Q E s := by
  obtain ⟨od, J, hl⟩ := I.look
  exact PySem.W.get_value X J (PySem.W.plainGet_of hg).1 (PySem.W.findObj_own hh ha rfl (by rw [hl, hv])) hv' h

theorem get_meth {pl : Sem Bool} {Q : Value × List Value → Shared → Prop} (X : K.In s.heap) (I : ObjM s.heap x dx C mA) (hg : PySem.W.plainGet K C name = true)
    (hf : PySem.W.findIn K (.ref C) name = some (some (.ref f))) (ht : PySem.W.isFn K (.ref f) = true) (hv : mA name = none) (h : Q (.ref f, [.ref x]) s) :
    wpAny (model prog w) A (getMethod (.ref x) name pl) Q E s := by
  obtain ⟨od, J, hl⟩ := I.look
  exact PySem.W.method_fn X J (PySem.W.plainGet_of hg).1 (PySem.W.plainGet_of hg).2 hf (beq_iff_eq.mp ht) (by show (PySem.W.lookIn name od).map (·.isSome) = some false; rw [hl, hv]; rfl) h

theorem set_map {ns : List Str} {Q : Unit → Shared → Prop} (X : K.In s.heap) (I : ObjM s.heap x dx C mA)
    (hs : PySem.W.findIn K (.ref C) "__setattr__" = some (some (.builtin "object.__setattr__"))) (hp : PySem.W.plainOver K C = true) (ht : PySem.W.takerIn K C name = some none) (hh : PySem.W.hasDictIn K C = true)
    (hw : PySem.Within mA ns) (hsz : ns.length ≤ sizeLine)
    (h : ∀ h', ObjM h' x dx C (fun y => if y = name then some v else mA y) → Heap.SameBut dx s.heap h' → Q () { s with heap := h', toks := s.toks + 2 }) :
    wpAny (model prog w) A (setAttr (.ref x) name v) Q E s := by
  obtain ⟨od, J, hl⟩ := I.look
  refine PySem.W.set_plain X J hs (PySem.W.osa_open (s := { s with toks := s.toks + 1 }) (r := none) X J hp ht fun b => ?_)
  obtain ⟨cd, hc, hd'⟩ := PySem.W.any_some hh
  have hx : s.heap.get? x = some ⟨.ref C, some dx, .plain, #[]⟩ := I.obj
  refine wpAny_bind (wpAny_pure (wpAny_bind (wpAny_bind (wpAny_loadPart hx (wpAny_bind (PySem.W.Looks.here (s := { s with toks := s.toks + 1 }) (PySem.W.looks_clsIn X hc) ?_))))))
  rw [hd']
  refine wpAny_pure (a := some dx) (wpAny_bind (wpAny_pure (wpAny_bind ?_)))
  refine wpAny_nsSet1 (s := { s with toks := s.toks + 1 }) I.ns fun h' hn2 hs2 => ?_
  obtain ⟨oD, esD, epD, hoD, hdD, hcD⟩ := hn2.count (PySem.Within.cons name v hw)
  refine wpAny_bind (wpAny_lookBehind hoD (by rw [hdD]; exact pastItsLine_dict (Nat.le_trans hcD (by rw [List.length_cons]; omega))) ?_)
  exact wpAny_pure (h _ ⟨(hs2.2 _ (Ne.symm I.ne)).trans I.obj, hn2, I.ne⟩ hs2)

/-- C(..): the dict at the heap's end, the instance behind it; then its __init__ -/
theorem make_map {R : Result → Shared → Prop} {vs : List Value} {kw : List (Str × Value)} (X : K.In s.heap) (hm : PySem.W.makesIn K C = true)
    (hi : PySem.W.findIn K (.ref C) "__init__" = some (some (.ref f))) (hf : PySem.W.typeIn K (.ref f) = some (.type "function"))
    (h : codeAny (model prog w) (A.under (.builtin "type.__call__" ⟨.ref C :: vs, kw⟩)) (.call (.ref f) ⟨.ref (s.heap.objs.size + 1) :: vs, kw⟩) (PySem.W.InitBack (s.heap.objs.size + 1) R)
      { s with heap := (s.heap.push PySem.W.emptyDict).push (PySem.W.instObj C s.heap.objs.size) }) :
    codeAny (model prog w) A (.call (.ref C) ⟨vs, kw⟩) R s := by
  obtain ⟨hh, g, d, t, os⟩ := s
  exact PySem.W.make_core (PySem.W.makes_of X hm) (PySem.W.looks_findIn X hi) (fun self => PySem.W.bind_fn X self hf) (.inl rfl) h
end

/-! ### the attributes as a list of pairs -/
def putF (f : Str) (v : V) : List (Str × V) → List (Str × V)
  | [] => [(f, v)]
  | (g, x) :: r => if g = f then (g, v) :: r else (g, x) :: putF f v r
theorem lookup_putF (f g : Str) (v : V) : ∀ fs : List (Str × V), (putF f v fs).lookup g = if g = f then some v else fs.lookup g
  | [] => by
    show List.lookup g [(f, v)] = _
    by_cases h : g = f
    · have hb : (g == f) = true := beq_iff_eq.mpr h
      simp only [List.lookup, hb, if_pos h]
    · have hb : (g == f) = false := beq_eq_false_iff_ne.mpr h
      simp only [List.lookup, hb, if_neg h]
  | (k, x) :: r => by
    have ih := lookup_putF f g v r
    rw [show putF f v ((k, x) :: r) = (if k = f then (k, v) :: r else (k, x) :: putF f v r) from rfl]
    by_cases hk : k = f
    · rw [if_pos hk]
      by_cases h : g = k
      · have hb : (g == k) = true := beq_iff_eq.mpr h
        simp only [List.lookup, hb, if_pos (h.trans hk)]
      · have hb : (g == k) = false := beq_eq_false_iff_ne.mpr h
        simp only [List.lookup, hb, if_neg (fun e : g = f => h (e.trans hk.symm))]
    · rw [if_neg hk]
      by_cases h : g = k
      · have hb : (g == k) = true := beq_iff_eq.mpr h
        simp only [List.lookup, hb, if_neg (fun e : g = f => hk (h.symm.trans e))]
      · have hb : (g == k) = false := beq_eq_false_iff_ne.mpr h
        simp only [List.lookup, hb]
        exact ih
theorem keys_putF (f : Str) (v : V) : ∀ fs : List (Str × V), f ∈ (putF f v fs).map (·.1) ∧ ∀ g, g ∈ fs.map (·.1) → g ∈ (putF f v fs).map (·.1)
  | [] => ⟨by simp [putF], fun g h => by simp at h⟩
  | (k, x) :: r => by
    obtain ⟨i1, i2⟩ := keys_putF f v r
    rw [show putF f v ((k, x) :: r) = (if k = f then (k, v) :: r else (k, x) :: putF f v r) from rfl]
    by_cases hk : k = f
    · rw [if_pos hk]
      subst hk
      exact ⟨by simp, fun g h => by simpa using h⟩
    · rw [if_neg hk]
      refine ⟨?_, fun g h => ?_⟩
      · rw [List.map_cons]
        exact List.mem_cons_of_mem _ i1
      · rw [List.map_cons] at h ⊢
        rcases List.mem_cons.mp h with e | e
        · exact List.mem_cons.mpr (.inl e)
        · exact List.mem_cons_of_mem _ (i2 g e)
theorem length_putF (f : Str) (v : V) : ∀ fs : List (Str × V), (putF f v fs).length ≤ fs.length + 1
  | [] => by simp [putF]
  | (k, x) :: r => by
    have ih := length_putF f v r
    rw [show putF f v ((k, x) :: r) = (if k = f then (k, v) :: r else (k, x) :: putF f v r) from rfl]
    by_cases hk : k = f
    · rw [if_pos hk, List.length_cons, List.length_cons]; omega
    · rw [if_neg hk, List.length_cons, List.length_cons]; omega

theorem RelO.some_of {v : V} {o : Option Value} (r : RelO (some v) o) : ∃ u, o = some u ∧ RelV v u := by
  cases o with
  | none => exact (show False from r).elim
  | some u => exact ⟨u, rfl, r⟩
theorem RelO.none_of {o : Option Value} (r : RelO none o) : o = none := by
  cases o with
  | none => rfl
  | some u => exact (show False from r).elim
theorem handed_of {v : V} {u : Value} (r : RelV v u) : PySem.W.handedIn u = true := by
  cases v with
  | non => cases (show u = Value.none from r); rfl
  | bl b => cases (show u = Value.bool b from r); rfl
  | int i => obtain ⟨t, e⟩ := (show ∃ t, u = Value.int i t from r); cases e; rfl
  | str x => obtain ⟨t, e⟩ := (show ∃ t, u = Value.str x t from r); cases e; rfl
  | byt b => obtain ⟨t, e⟩ := (show ∃ t, u = Value.bytes b t from r); cases e; rfl
  | flt b => obtain ⟨t, e⟩ := (show ∃ t, u = Value.float b t from r); cases e; rfl
  | ref a => cases (show u = Value.ref a from r); rfl
  | ty n => cases (show u = Value.type n from r); rfl

section
variable {P : Program} {w : World} {H H' : Hp} {h h' : Heap} {a C dx : Addr} {fs fs' : List (Str × V)}
theorem ins_get (hok : HOk P w H h) (e : H a = some (.ins C dx fs)) : ∃ mA, ObjM h a dx C mA ∧ (∀ f, RelO (fs.lookup f) (mA f)) ∧ PySem.Within mA (fs.map (·.1)) ∧ fs.length ≤ 1000 ∧ H dx = some (.own a) := by
  obtain ⟨d, z, ne, ob, mA, n, r, q⟩ := (show ObjOk P w H h a (.ins C dx fs) from hok a _ e)
  exact ⟨mA, ⟨ob, n, ne⟩, r, q, z, d⟩
end

/-! ### what of the text a class must have -/
structure Cls (K : PySem.W.Frag) (C : Addr) : Prop where
  pg : PySem.W.plainGet K C Str.empty = true
  hd : PySem.W.hasDictIn K C = true
  po : PySem.W.plainOver K C = true
  sa : PySem.W.findIn K (.ref C) "__setattr__" = some (some (.builtin "object.__setattr__"))
theorem Cls.get {K : PySem.W.Frag} {C : Addr} (c : Cls K C) (f : Str) : PySem.W.plainGet K C f = true := c.pg
/-- no class of it has the name -/
def NoAttr (K : PySem.W.Frag) (C : Addr) (f : Str) : Prop := PySem.W.findIn K (.ref C) f = some none
theorem NoAttr.taker {K : PySem.W.Frag} {C : Addr} {f : Str} (n : NoAttr K C f) : PySem.W.takerIn K C f = some none := by
  unfold PySem.W.takerIn
  rw [show PySem.W.findIn K (.ref C) f = some none from n]
  rfl
/-- a method: a plain def of the class or of one above it -/
structure Meth (K : PySem.W.Frag) (C : Addr) (m : Str) (f : Addr) : Prop where
  at_ : PySem.W.findIn K (.ref C) m = some (some (.ref f))
  fn : PySem.W.isFn K (.ref f) = true
  kp : PySem.W.keepIn K (.ref f) = true

section
variable {X : Cx} {pins : List (Addr × Obj)} {σ : St} {H : Hp} {s : Shared} {a C dx : Addr} {fs : List (Str × V)} {f : Str} {v : V} {A : Around} {E : Value → Shared → Prop}

theorem getattr_ok {b : Bool} {Q : Value → Shared → Prop} (I : Inv X pins σ H s) (e : H a = some (.ins C dx fs)) (c : Cls X.K C) (n : NoAttr X.K C f) (l : fs.lookup f = some v)
    (h : ∀ u s', Inv X pins σ H s' → RelV v u → Q u s') : wpAny (model X.prog X.w) A (getAttr (.ref a) f b) Q E s := by
  obtain ⟨mA, O, r, _, _, _⟩ := ins_get I.hok e
  obtain ⟨u, hu, ru⟩ := RelO.some_of (v := v) (o := mA f) (by rw [← l]; exact r f)
  exact get_map I.kIn O (c.get f) c.hd n hu (handed_of ru) (h u _ (I.tok _) ru)

theorem getmeth_ok {m : Str} {g : Addr} {pl : Sem Bool} {Q : Value × List Value → Shared → Prop} (I : Inv X pins σ H s) (e : H a = some (.ins C dx fs)) (c : Cls X.K C) (k : Meth X.K C m g) (l : fs.lookup m = none)
    (h : Q (.ref g, [.ref a]) s) : wpAny (model X.prog X.w) A (getMethod (.ref a) m pl) Q E s := by
  obtain ⟨mA, O, r, _, _, _⟩ := ins_get I.hok e
  have hn : mA m = none := RelO.none_of (by rw [← l]; exact r m)
  exact get_meth I.kIn O (c.get m) k.at_ k.fn hn h

theorem setattr_ok {y : V} {u : Value} {Q : Unit → Shared → Prop} (I : Inv X pins σ H s) (e : H a = some (.ins C dx fs)) (c : Cls X.K C) (n : NoAttr X.K C f) (hl : fs.length < 1000) (ry : RelV y u)
    (h : ∀ s', Inv X pins σ (upd H a (.ins C dx (putF f y fs))) s' → Q () s') : wpAny (model X.prog X.w) A (setAttr (.ref a) f u) Q E s := by
  obtain ⟨mA, O, r, wi, _, ho⟩ := ins_get I.hok e
  have hz : (fs.map (·.1)).length ≤ sizeLine := by rw [List.length_map, sizeLine_eq]; omega
  refine set_map I.kIn O c.sa c.po n.taker c.hd wi hz fun h' O' sb => h _ ?_
  have hd : ∃ o, h'.get? dx = some o := let ⟨o, _, _, e', _⟩ := O'.ns; ⟨o, e'⟩
  refine I.write (x := a) (e := dx) (by rw [e]; exact True.intro) (.inr ho) (fun b q hb z => (sb.2 b hb).trans z) hd ?_
  refine ⟨by rw [upd_ne O.ne]; exact ho, ?_, O.ne, O'.obj, _, O'.ns, fun g => ?_, fun g hg => ?_⟩
  · have := length_putF f y fs; omega
  · show RelO ((putF f y fs).lookup g) (if g = f then some u else mA g)
    rw [lookup_putF]
    by_cases q : g = f
    · rw [if_pos q, if_pos q]; exact ry
    · rw [if_neg q, if_neg q]; exact r g
  · by_cases q : g = f
    · rw [q]; exact (keys_putF f y fs).1
    · refine (keys_putF f y fs).2 g (wi g fun z => hg ?_)
      show (if g = f then some u else mA g) = none
      rw [if_neg q]; exact z

/-- a new instance, tracked, without attributes -/
theorem Inv.made (I : Inv X pins σ H s) : Inv X pins σ (upd (upd H s.heap.objs.size (.own (s.heap.objs.size + 1))) (s.heap.objs.size + 1) (.ins C s.heap.objs.size []))
    { s with heap := (s.heap.push PySem.W.emptyDict).push (PySem.W.instObj C s.heap.objs.size) } := by
  have e1 : (s.heap.push PySem.W.emptyDict).get? s.heap.objs.size = some PySem.W.emptyDict := Heap.get?_push_size s.heap rfl
  have e2 : ((s.heap.push PySem.W.emptyDict).push (PySem.W.instObj C s.heap.objs.size)).get? (s.heap.objs.size + 1) = some (PySem.W.instObj C s.heap.objs.size) := by
    have := Heap.get?_push_size (s.heap.push PySem.W.emptyDict) (o := PySem.W.instObj C s.heap.objs.size) rfl
    rwa [Heap.size_push] at this
  have e3 : (s.heap.push PySem.W.emptyDict).Ns s.heap.objs.size (fun _ => none) := ⟨PySem.W.emptyDict, #[], _, e1, rfl, (fun e he => absurd he (by simp)), fun _ => rfl⟩
  have I1 := I.laid (a := s.heap.objs.size) (o := .own (s.heap.objs.size + 1)) (h' := s.heap.push PySem.W.emptyDict) (t' := s.toks) (fun b u q => Heap.get?_push_of_some _ q) (Nat.le_refl _) ⟨_, e1⟩
  refine I1.laid (a := s.heap.objs.size + 1) (o := .ins C s.heap.objs.size []) (t' := s.toks) (fun b u q => Heap.get?_push_of_some _ q) (Nat.le_of_eq (Heap.size_push _ _)) ?_
  have ne : s.heap.objs.size ≠ s.heap.objs.size + 1 := Nat.ne_of_lt (Nat.lt_succ_self _)
  refine ⟨by rw [upd_ne ne, upd_same], Nat.zero_le _, ne, e2, fun _ => none, (Heap.Ns1.of_empty e3).at fun o q => Heap.get?_push_of_some _ q, fun _ => True.intro, fun y hy => absurd rfl hy⟩

/-- e.f where nothing but the object is asked: through attributeBase (super) and the last hold -/
theorem attr_of {prog : Program} {w : World} {env : Env} {e : Expr} {f : Str} {pos : Pos} {s : Shared} {Q : Value → Shared → Prop} (hb : attributeBase e f env (eval e env) = eval e env)
    (h : wpAny (model prog w) A (eval e env) (fun o s₁ => wpAny (model prog w) A (getAttr o f true) Q E s₁) E s) : wpAny (model prog w) A (eval (.Attribute e f pos) env) Q E s :=
  Attribute_any_ h (by rw [arm_eval_Attribute, hb])
end

/-! ### readings and rules -/
/-- e.f, an attribute of the instance -/
def tFld (K : PySem.W.Frag) (ta : TE) (f : Str) : TE := fun σ H Q => ta σ H fun x H1 => ∃ a C dx fs v, x = .ref a ∧ H1 a = some (.ins C dx fs) ∧ Cls K C ∧ NoAttr K C f ∧ fs.lookup f = some v ∧ Q v H1
/-- e.f = value -/
def sFld (K : PySem.W.Frag) (ta tv : TE) (f : Str) : TS := fun D σ H => tv σ H fun y H1 => ta σ H1 fun x H2 => ∃ a C dx fs, x = .ref a ∧ H2 a = some (.ins C dx fs) ∧ Cls K C ∧ NoAttr K C f ∧ fs.length < 1000 ∧
  D.nx σ (upd H2 a (.ins C dx (putF f y fs)))
section
variable {X : Cx} {o e value : Expr} {f : Str} {pos pos' tpos : Pos} {ta tv : TE}
theorem pe_fld (he : PE X e ta) (hb : attributeBase e f X.env (eval e X.env) = eval e X.env) : PE X (.Attribute e f pos) (tFld X.K ta f) := by
  intro pins s σ H Q I h
  refine attr_of hb (thn (he pins s σ H _ I h) fun u s1 ⟨x, H1, I1, rx, a, C, dx, fs, v, ex, ea, c, n, l, q⟩ => ?_)
  subst ex
  obtain rfl : u = Value.ref a := rx
  exact getattr_ok I1 ea c n l fun u' s2 I2 ru => ⟨v, H1, I2, ru, q⟩
theorem ps_fld (ha : PE X o ta) (hv : PE X value tv) (hs : swapsWith value (some (.Attribute o f pos')) pos.line X.env = pure false) : PS X (.Assign [.Attribute o f pos'] value pos) (sFld X.K ta tv f) := by
  intro pins s σ H D I h
  refine plainObj_wpAny_Assign_Attribute (thn (hv pins s σ H _ I h) fun u s1 ⟨y, H1, I1, ry, q⟩ => thn (ha pins s1 σ H1 _ I1 q) fun ov s2 ⟨x, H2, I2, rx, a, C, dx, fs, ex, ea, c, n, l, q2⟩ => ?_) hs
  subst ex
  obtain rfl : ov = Value.ref a := rx
  exact setattr_ok I2 ea c n l ry fun s3 I3 => ⟨σ, _, I3, q2⟩
end

/-! ### isinstance -/
section
variable {X : Cx} {pins : List (Addr × Obj)} {σ : St} {H : Hp} {s : Shared} {A : Around} {E : Value → Shared → Prop} {Q : Value → Shared → Prop} {c : Value} {b : Bool}
end
end L2

namespace L2
open PySem PySem.Spec PyProof.Rows

/-! ### room -/
structure Room (k : Nat) (A : Around) : Prop where
  hd : A.handled = none
  dp : A.depth + 3 * k + 5 < recursionLimit
  un : A.units + 16 * k + 200 < cLine
theorem Room.mono {j k : Nat} {A : Around} (r : Room k A) (h : j ≤ k) : Room j A := ⟨r.hd, by have := r.dp; omega, by have := r.un; omega⟩
theorem Room.deeper {k : Nat} {A : Around} (r : Room (k + 1) A) (env : Env) : Room k (A.deeper env) :=
  ⟨r.hd, by have := r.dp; show A.depth + 1 + 3 * k + 5 < _; omega, by have := r.un; show A.units + 3 + 16 * k + 200 < _; omega⟩
theorem Room.in1 {k : Nat} {A : Around} (r : Room (k + 1) A) : Room k A.in1 :=
  ⟨r.hd, by have := r.dp; show A.depth + 3 * k + 5 < _; omega, by have := r.un; show A.units + 1 + 16 * k + 200 < _; omega⟩
theorem make_depth {A : Around} {C : Addr} {us : List Value} {kw : List (Str × Value)} : (A.under (.builtin "type.__call__" ⟨.ref C :: us, kw⟩)).depth = A.depth + 1 := by
  first | rfl | simp [Around.under, Code.weight, Code.isCreation, Code.isGuard, Code.isCaller, Code.frames, Code.isFrame, guardIds]
theorem make_units {A : Around} {C : Addr} {us : List Value} {kw : List (Str × Value)} : (A.under (.builtin "type.__call__" ⟨.ref C :: us, kw⟩)).units = A.units + 1 := by
  first | rfl | simp [Around.under, Code.cUnits, Code.frames, Code.isFrame]
theorem Room.make {k : Nat} {A : Around} (r : Room (k + 1) A) (C : Addr) (us : List Value) (kw : List (Str × Value)) : Room k (A.under (.builtin "type.__call__" ⟨.ref C :: us, kw⟩)) :=
  ⟨r.hd, by have := r.dp; rw [make_depth]; omega, by have := r.un; rw [make_units]; omega⟩
theorem Room.depth {k : Nat} {A : Around} (r : Room k A) : A.depth < recursionLimit := by have := r.dp; omega
theorem Room.units {k : Nat} {A : Around} (r : Room k A) : A.units + 64 < cLine := by have := r.un; omega
/-! ### argument lists and displays -/
def tNil : TA := fun _ H Q => Q [] H
def tCons (ta : TE) (tr : TA) : TA := fun σ H Q => ta σ H fun x H1 => tr σ H1 fun xs H2 => Q (x :: xs) H2
section
variable {X : Cx} {e : Expr} {es : List Expr} {te : TE} {t : TA} {pos : Pos}
theorem pa_nil : PA X [] tNil := fun _ _ _ _ H Q I h => Calls.spliced_nil ⟨[], H, I, .nil, h⟩
theorem pa_cons (ha : PE X e te) (hr : PA X es t) (hs : starEach (e :: es) X.env = (false, eval e X.env) :: starEach es X.env := by rfl) : PA X (e :: es) (tCons te t) := by
  intro pos pins s σ H Q I h
  rw [hs]
  show wpAny _ _ (spliced ((false, eval e X.env) :: backTo pos (starEach es X.env))) _ _ s
  refine Calls.spliced_cons (thn (ha pins s σ H _ I h) fun u s1 ⟨x, H1, I1, r1, q1⟩ => ?_)
  exact thn (hr pos pins s1 σ H1 _ I1 q1) fun us s2 ⟨xs, H2, I2, r2, q2⟩ => ⟨x :: xs, H2, I2, .cons r1 r2, q2⟩

/-- a tuple, a list of written items -/
def tTup (t : TA) : TE := fun σ H Q => t σ H fun xs H1 => xs.length ≤ sizeLine ∧ ∀ p, H1 p = none → Q (.ref p) (upd H1 p (.tup xs))
def tLst (t : TA) : TE := fun σ H Q => t σ H fun xs H1 => xs.length ≤ sizeLine ∧ ∀ p, H1 p = none → Q (.ref p) (upd H1 p (.lst xs))
theorem pe_tup {x1} (h : PA X es t) : PE X (.Tuple es x1 pos) (tTup t) := by
  intro pins s σ H Q I hq
  refine wpAny_Tuple_spliced (thn (h pos pins s σ H _ I hq) fun us s1 ⟨xs, H1, I1, r, z, q⟩ => ⟨by rw [← r.length]; exact z, ?_⟩)
  have hf : H1 s1.heap.objs.size = none := I1.hok.fresh (Nat.le_refl _)
  refine ⟨.ref s1.heap.objs.size, upd H1 s1.heap.objs.size (.tup xs), I1.laid (t' := s1.toks) (fun b u e => Heap.get?_push_of_some _ e) (Nat.le_refl _) ?_, rfl, q _ hf⟩
  exact ⟨z, us, r, ⟨_, Heap.get?_push_size _ rfl, rfl, _, rfl⟩⟩
theorem pe_lst (h : PA X es t) : PE X (.List es pos) (tLst t) := by
  intro pins s σ H Q I hq
  refine wpAny_List_spliced (thn (h pos pins s σ H _ I hq) fun us s1 ⟨xs, H1, I1, r, z, q⟩ => ⟨by rw [← r.length]; exact z, ?_⟩)
  have hf : H1 s1.heap.objs.size = none := I1.hok.fresh (Nat.le_refl _)
  refine ⟨.ref s1.heap.objs.size, upd H1 s1.heap.objs.size (.lst xs), I1.laid (t' := s1.toks) (fun b u e => Heap.get?_push_of_some _ e) (Nat.le_refl _) ?_, rfl, q _ hf⟩
  exact ⟨z, us, 0, r, Heap.get?_push_size _ rfl⟩
end

/-! ### what a def promises -/
/-- a def's promise: the bound arguments in the parameters' order, the heap, the wanted end, the wanted exception -/
abbrev Sp := List V → Hp → VK → XK → Prop
/-- how an exception lies behind a call (file 08 gives it): the callers' frames, abstract heap and state ahead of the call, the wish, the exception, the state -/
abbrev CXT := List Env → Hp → Shared → XK → Value → Shared → Prop

/-- the state at a call -/
structure Env0 (P : Program) (w : World) (K : PySem.W.Frag) (mg : Str → Option Value) (base : Heap) (A : Around) (outer : List Env) (s : Shared) (H : Hp) : Prop where
  frames : A.frames = some outer
  mod : Mod K mg base
  bs : ∀ b o, base.get? b = some o → s.heap.get? b = some o ∧ H b = none
  bsz : base.objs.size ≤ s.heap.objs.size
  funs : s.heap.FunFrames base outer
  frf : ∀ b ∈ frs outer, H b = none
  hok : HOk P w H s.heap
  bare : AllBare s.gens
/-- a call's end -/
def CE (outer : List Env) (P : Program) (w : World) (H : Hp) (s : Shared) (Q : VK) (u : Value) (s' : Shared) : Prop :=
  ∃ v H', s'.os = s.os ∧ AllBare s'.gens ∧ Un (frs outer) [] H H' s.heap s'.heap ∧ HOk P w H' s'.heap ∧ RelV v u ∧ Q v H'
def CR (CX : CXT) (outer : List Env) (P : Program) (w : World) (H : Hp) (s : Shared) (Q : VK) (E : XK) (r : Result) (s' : Shared) : Prop :=
  match r with
  | .ok (.ret u) => CE outer P w H s Q u s'
  | .ok _ => False
  | .error e => CX outer H s E e s'
structure FnOk (P : Program) (w : World) (K : PySem.W.Frag) (mg : Str → Option Value) (base : Heap) (CX : CXT) (k : Nat) (f : Addr) (fd : FuncData) (ps : List Str) (sp : Sp) : Prop where
  len : ∀ vs H Q E, sp vs H Q E → vs.length = ps.length
  run : ∀ (A : Around) (outer : List Env) (s : Shared) (H : Hp) (args : Args) (us : List Value) (vs : List V) (Q : VK) (E : XK), Room k A → Env0 P w K mg base A outer s H → BindsTo s fd args (ps.zip us) → Vals vs us → sp vs H Q E →
    codeAny (model P w) A (.call (.ref f) args) (CR CX outer P w H s Q E) s
theorem FnOk.mono {P : Program} {w : World} {K : PySem.W.Frag} {mg : Str → Option Value} {base : Heap} {CX : CXT} {j k : Nat} {f : Addr} {fd : FuncData} {ps : List Str} {sp : Sp} (F : FnOk P w K mg base CX j f fd ps sp) (h : j ≤ k) :
    FnOk P w K mg base CX k f fd ps sp := ⟨F.len, fun A outer s H args us vs Q E hr => F.run A outer s H args us vs Q E (hr.mono h)⟩
/-- a weaker promise -/
theorem FnOk.imp {P : Program} {w : World} {K : PySem.W.Frag} {mg : Str → Option Value} {base : Heap} {CX : CXT} {k : Nat} {f : Addr} {fd : FuncData} {ps : List Str} {sp sp' : Sp} (F : FnOk P w K mg base CX k f fd ps sp)
    (h : ∀ vs H Q E, sp' vs H Q E → sp vs H Q E) : FnOk P w K mg base CX k f fd ps sp' :=
  ⟨fun vs H Q E q => F.len vs H Q E (h _ _ _ _ q), fun A outer s H args us vs Q E hr he hb hv hs => F.run A outer s H args us vs Q E hr he hb hv (h _ _ _ _ hs)⟩

theorem Env0.make {P : Program} {w : World} {K : PySem.W.Frag} {mg : Str → Option Value} {base : Heap} {A : Around} {outer : List Env} {s : Shared} {H : Hp} (e : Env0 P w K mg base A outer s H) (C : Addr) (us : List Value) (kw : List (Str × Value)) :
    Env0 P w K mg base (A.under (.builtin "type.__call__" ⟨.ref C :: us, kw⟩)) outer s H := ⟨by first | exact e.frames | (simpa [Around.under, Code.envs, Code.isFrame, pushEnvs] using e.frames), e.mod, e.bs, e.bsz, e.funs, e.frf, e.hok, e.bare⟩
theorem Env0.in1 {P : Program} {w : World} {K : PySem.W.Frag} {mg : Str → Option Value} {base : Heap} {A : Around} {outer : List Env} {s : Shared} {H : Hp} (e : Env0 P w K mg base A outer s H) :
    Env0 P w K mg base A.in1 outer s H := ⟨e.frames, e.mod, e.bs, e.bsz, e.funs, e.frf, e.hok, e.bare⟩

section
variable {X : Cx} {pins : List (Addr × Obj)} {σ : St} {H : Hp} {s s' : Shared}
/-- from a body: what a callee wants -/
theorem Inv.env0 (I : Inv X pins σ H s) : Env0 X.prog X.w X.K X.mg X.base X.A X.stack s H :=
  ⟨I.ok.frames, I.ok.mod, I.bs, Nat.le_trans I.ok.bsz I.sz, I.stack, I.stkFree, I.hok, I.bare⟩
/-- behind a call -/
theorem Inv.after {Q : VK} {u : Value} (I : Inv X pins σ H s) (h : CE X.stack X.prog X.w H s Q u s') : EP X pins σ Q u s' := by
  obtain ⟨v, H', os, bare, un, hok, r, q⟩ := h
  obtain ⟨hh, g, d, t, os'⟩ := s'
  obtain rfl : os' = s.os := os
  exact ⟨v, H', I.call (h' := hh) (g' := g) (d' := d) (t' := t) (ch := []) un hok bare (fun b z => absurd z (by simp)), r, q⟩
end

/-! ### calls -/
/-- f(..): the written arguments, then the defaults dvs; E: what is wanted of an exception -/
def tCall (sp : Sp) (dvs : List V) (E : XK) (t : TA) : TE := fun σ H Q => t σ H fun vs H1 => sp (vs ++ dvs) H1 Q E
/-- o.m(..) of an instance of the class at C -/
def tMeth (C : Addr) (m : Str) (sp : Sp) (dvs : List V) (E : XK) (ta : TE) (t : TA) : TE := fun σ H Q => ta σ H fun x H1 => ∃ a dx fs, x = .ref a ∧ H1 a = some (.ins C dx fs) ∧ fs.lookup m = none ∧
  t σ H1 fun vs H2 => sp (x :: (vs ++ dvs)) H2 Q E
/-- C(..): a new instance and its dict, then __init__ -/
def tMake (C : Addr) (sp : Sp) (dvs : List V) (E : XK) (t : TA) : TE := fun σ H Q => t σ H fun vs H1 => ∀ x dx, H1 x = none → H1 dx = none → dx ≠ x →
  sp (.ref x :: (vs ++ dvs)) (upd (upd H1 dx (.own x)) x (.ins C dx [])) (fun v H2 => v = .non ∧ Q (.ref x) H2) E

/-- how the parameters are bound: us the positional arguments, kw the keywords' values by name, ds the defaults that fill up -/
def Binds (K : PySem.W.Frag) (fd : FuncData) (ps : List Str) (ds : List Value) : Prop :=
  ∀ (s : Shared) (us : List Value), K.In s.heap → (us ++ ds).length = ps.length → BindsTo s fd ⟨us, []⟩ (ps.zip (us ++ ds))
/-- every parameter is given -/
theorem Binds.all {K : PySem.W.Frag} {fd : FuncData} {ps : List Str} (h : ∀ us : List Value, us.length = ps.length → bindArgs fd ⟨us, []⟩ = pure (ps.zip us)) : Binds K fd ps [] := fun s us _ hl => by
  rw [List.append_nil] at hl ⊢
  exact .of_eq (h us hl)

/-- an exception of a callee reaches what this body wants of exceptions -/
def Passes (CX : CXT) (X : Cx) (E : XK) : Prop := ∀ (pins : List (Addr × Obj)) (σ : St) (H : Hp) (s : Shared) (e : Value) (s' : Shared), Inv X pins σ H s → CX X.stack H s E e s' → X.xe e s'

section
variable {X : Cx} {CX : CXT} {k : Nat} {f C : Addr} {fd : FuncData} {ps : List Str} {sp : Sp} {dvs : List V} {ds : List Value} {E : XK} {x m : Str} {p pos apos : Pos} {e o : Expr} {es : List Expr} {ta : TE} {t : TA}

/-- the callee runs -/
theorem run_fn {pins : List (Addr × Obj)} {σ : St} {H : Hp} {s : Shared} {Q : VK} {us : List Value} {vs : List V} (F : FnOk X.prog X.w X.K X.mg X.base CX k f fd ps sp) (hr : Room k X.A) (hb : Binds X.K fd ps ds) (hd : Vals dvs ds) (hx : Passes CX X E)
    (I : Inv X pins σ H s) (r : Vals vs us) (h : sp (vs ++ dvs) H Q E) : wpAny (model X.prog X.w) X.A (call (.ref f) us) (EP X pins σ Q) X.xe s := by
  have r2 : Vals (vs ++ dvs) (us ++ ds) := r.append hd
  have hl : (us ++ ds).length = ps.length := by rw [← r2.length]; exact F.len _ _ _ _ h
  refine wpAny_call (codeAny_mono (F.run X.A X.stack s H ⟨us, []⟩ (us ++ ds) (vs ++ dvs) Q E hr I.env0 (hb s us I.kIn hl) r2 h) fun r s' hq => ?_)
  cases r with
  | error e => exact hx pins σ H s e s' I hq
  | ok fl =>
    cases fl with
    | ret u => exact I.after hq
    | next => exact False.elim hq
    | brk => exact False.elim hq
    | cont => exact False.elim hq

theorem pe_call (F : FnOk X.prog X.w X.K X.mg X.base CX k f fd ps sp) (hr : Room k X.A) (hg : Gl X x) (hm : X.mg x = some (.ref f)) (hk : PySem.W.keepIn X.K (.ref f) = true) (hb : Binds X.K fd ps ds) (hd : Vals dvs ds) (hx : Passes CX X E)
    (ha : PA X (e :: es) t) (hdb : (x == ("__debug__" : Str)) = false := by decide) (he : starEach (e :: es) X.env = (false, eval e X.env) :: starEach es X.env := by rfl) (hpl : (backTo pos (starEach es X.env)).any (·.1) = false := by rfl) :
    PE X (.Call (.Name x p) (e :: es) [] pos) (tCall sp dvs E t) := by
  intro pins s σ H Q I h
  refine wpAny_Call_Name_kw (ld_glob I hg hm ?_ hdb)
  refine PySem.W.callWith_K (h₀ := X.base) I.ok.mod.kin hk (thn (ha pos pins s σ H _ I h) fun us s1 ⟨vs, H1, I1, r, q⟩ => ⟨I1.kIn, ?_⟩) he hpl
  exact run_fn F hr hb hd hx I1 r q
/-- o.m(e, ..) -/
theorem pe_meth {pl : Sem Bool} (he : PE X o ta) (c : Cls X.K C) (hm : Meth X.K C m f) (F : FnOk X.prog X.w X.K X.mg X.base CX k f fd ps sp) (hr : Room k X.A) (hb : Binds X.K fd ps ds) (hd : Vals dvs ds) (hx : Passes CX X E) (ha : PA X (e :: es) t)
    (hst : starEach (e :: es) X.env = (false, eval e X.env) :: starEach es X.env := by rfl) (hpl : (backTo pos (starEach es X.env)).any (·.1) = false := by rfl)
    (ht : eval (.Call (.Attribute o m apos) (e :: es) [] pos) X.env = (do
      let ov ← eval o X.env
      standAt apos.atName
      let (f, first) ← holding [ov] (getMethod ov m pl)
      callWith pos f first (backTo pos (starEach (e :: es) X.env)) (backToKw pos (keywordEach [] X.env))) := by rfl) :
    PE X (.Call (.Attribute o m apos) (e :: es) [] pos) (tMeth C m sp dvs E ta t) := by
  intro pins s σ H Q I h
  refine PySem.W.methodCall_KW (pl := pl) (thn (he pins s σ H _ I h) fun u s1 ⟨x, H1, I1, rx, a, dx, fs, ex, ea, l, q⟩ => ?_) ht
  subst ex
  obtain rfl : u = Value.ref a := rx
  refine getmeth_ok I1 ea c hm l ?_
  refine PySem.W.callWith_K (first := [.ref a]) (h₀ := X.base) I.ok.mod.kin hm.kp (thn (ha pos pins s1 σ H1 _ I1 q) fun us s2 ⟨vs, H2, I2, r, q2⟩ => ⟨I2.kIn, ?_⟩) hst hpl
  exact run_fn (us := .ref a :: us) (vs := .ref a :: vs) F hr hb hd hx I2 (.cons rfl r) q2
/-- o.m() -/
theorem pe_meth0 {pl : Sem Bool} (he : PE X o ta) (c : Cls X.K C) (hm : Meth X.K C m f) (F : FnOk X.prog X.w X.K X.mg X.base CX k f fd ps sp) (hr : Room k X.A) (hb : Binds X.K fd ps ds) (hd : Vals dvs ds) (hx : Passes CX X E)
    (ht : eval (.Call (.Attribute o m apos) [] [] pos) X.env = (do
      let ov ← eval o X.env
      standAt apos.atName
      let (f, first) ← holding [ov] (getMethod ov m pl)
      callWith pos f first (backTo pos (starEach [] X.env)) (backToKw pos (keywordEach [] X.env))) := by rfl) :
    PE X (.Call (.Attribute o m apos) [] [] pos) (tMeth C m sp dvs E ta tNil) := by
  intro pins s σ H Q I h
  refine PySem.W.methodCall_KW (pl := pl) (thn (he pins s σ H _ I h) fun u s1 ⟨x, H1, I1, rx, a, dx, fs, ex, ea, l, q⟩ => ?_) ht
  subst ex
  obtain rfl : u = Value.ref a := rx
  refine getmeth_ok I1 ea c hm l ?_
  exact PySem.W.callWith_K0 (first := [.ref a]) I1.kIn hm.kp (run_fn (us := [.ref a]) (vs := [.ref a]) F hr hb hd hx I1 (.cons rfl .nil) q)

/-- what a class must have to be made -/
structure Mk (K : PySem.W.Frag) (C f : Addr) : Prop where
  makes : PySem.W.makesIn K C = true
  init : PySem.W.findIn K (.ref C) "__init__" = some (some (.ref f))
  fn : PySem.W.isFn K (.ref f) = true
  kp : PySem.W.keepIn K (.ref C) = true

theorem run_make {pins : List (Addr × Obj)} {σ : St} {H : Hp} {s : Shared} {Q : VK} {us : List Value} {vs : List V} (M : Mk X.K C f) (F : FnOk X.prog X.w X.K X.mg X.base CX k f fd ps sp) (hr : Room (k + 1) X.A) (hb : Binds X.K fd ps ds) (hd : Vals dvs ds)
    (hx : Passes CX X E) (I : Inv X pins σ H s) (r : Vals vs us)
    (h : ∀ x dx, H x = none → H dx = none → dx ≠ x → sp (.ref x :: (vs ++ dvs)) (upd (upd H dx (.own x)) x (.ins C dx [])) (fun v H2 => v = .non ∧ Q (.ref x) H2) E) :
    wpAny (model X.prog X.w) X.A (call (.ref C) us) (EP X pins σ Q) X.xe s := by
  have hq := h (s.heap.objs.size + 1) s.heap.objs.size (I.hok.fresh (Nat.le_succ _)) (I.hok.fresh (Nat.le_refl _)) (Nat.ne_of_lt (Nat.lt_succ_self _))
  have I2 := Inv.made (C := C) I
  have r2 : Vals (V.ref (s.heap.objs.size + 1) :: (vs ++ dvs)) (Value.ref (s.heap.objs.size + 1) :: (us ++ ds)) := .cons rfl (r.append hd)
  have hl : (Value.ref (s.heap.objs.size + 1) :: us ++ ds).length = ps.length := by
    have e := r2.length
    rw [F.len _ _ _ _ hq] at e
    exact e.symm
  refine wpAny_call (make_map (f := f) I.kIn M.makes M.init (beq_iff_eq.mp M.fn) (codeAny_mono (F.run _ X.stack _ _ ⟨Value.ref (s.heap.objs.size + 1) :: us, []⟩ (Value.ref (s.heap.objs.size + 1) :: (us ++ ds)) _ _ E (hr.make C us [])
    (I2.env0.make C us []) (hb _ (Value.ref (s.heap.objs.size + 1) :: us) I2.kIn hl) r2 hq) fun r s' hq' => ?_))
  cases r with
  | error e => exact hx pins σ _ _ e s' I2 hq'
  | ok fl =>
    cases fl with
    | ret u =>
      obtain ⟨v, H', I3, rv, ev, q3⟩ := I2.after hq'
      subst ev
      exact ⟨rv, ⟨V.ref (s.heap.objs.size + 1), H', I3, rfl, q3⟩⟩
    | next => exact False.elim hq'
    | brk => exact False.elim hq'
    | cont => exact False.elim hq'
theorem pe_make (M : Mk X.K C f) (F : FnOk X.prog X.w X.K X.mg X.base CX k f fd ps sp) (hr : Room (k + 1) X.A) (hg : Gl X x) (hm : X.mg x = some (.ref C)) (hb : Binds X.K fd ps ds) (hd : Vals dvs ds) (hx : Passes CX X E)
    (ha : PA X (e :: es) t) (hdb : (x == ("__debug__" : Str)) = false := by decide) (he : starEach (e :: es) X.env = (false, eval e X.env) :: starEach es X.env := by rfl) (hpl : (backTo pos (starEach es X.env)).any (·.1) = false := by rfl) :
    PE X (.Call (.Name x p) (e :: es) [] pos) (tMake C sp dvs E t) := by
  intro pins s σ H Q I h
  refine wpAny_Call_Name_kw (ld_glob I hg hm ?_ hdb)
  refine PySem.W.callWith_K (h₀ := X.base) I.ok.mod.kin M.kp (thn (ha pos pins s σ H _ I h) fun us s1 ⟨vs, H1, I1, r, q⟩ => ⟨I1.kIn, ?_⟩) he hpl
  exact run_make M F hr hb hd hx I1 r q
end

/-! ### keywords -/
section
variable {X : Cx} {CX : CXT} {k : Nat} {f C : Addr} {fd : FuncData} {ps ks : List Str} {sp : Sp} {E : XK} {x m : Str} {p pos apos kpos : Pos} {e o : Expr} {es : List Expr} {kws : List Keyword} {te ta : TE} {t tk : TA} {nm : Option Str}
variable {g : List Value → List Value → List Value} {gV : List V → List V → List V}
end

/-! ### a def's body keeps its promise -/
/-- names: the parameters first -/
structure FnScope (N P : List Str) (sc : Scope) : Prop where
  kind : sc.kind = .function
  co : sc.isCoroutine = false
  gen : sc.isGenerator = false
  nd : N.Nodup
  pre : N.take P.length = P
  par : ∀ x ∈ P, sc.names.lookup x = some .local ∨ sc.names.lookup x = some .cell
  nofree : ∀ y ∈ sc.names, y.2 ≠ .free

theorem bindL_out {kindOf : Str → Option NameKind} {x : Str} : ∀ {binds : List (Str × Value)} {m : Str → Option Value}, (∀ v, (x, v) ∉ binds) → bindL kindOf binds m x = m x
  | [], _, _ => rfl
  | (n, v) :: r, m, h => by
    unfold bindL
    rw [bindL_out fun w hw => h w (List.mem_cons_of_mem _ hw)]
    split
    · have : x ≠ n := by rintro rfl; exact h v List.mem_cons_self
      simp [this]
    · rfl
theorem bindC_out {kindOf : Str → Option NameKind} {x : Str} : ∀ {binds : List (Str × Value)} {m : Str → Option Value}, (∀ v, (x, v) ∉ binds) → bindC kindOf binds m x = m x
  | [], _, _ => rfl
  | (n, v) :: r, m, h => by
    unfold bindC
    rw [bindC_out fun w hw => h w (List.mem_cons_of_mem _ hw)]
    split
    · rfl
    · have : x ≠ n := by rintro rfl; exact h v List.mem_cons_self
      simp [this]
theorem bindL_get {kindOf : Str → Option NameKind} {x : Str} {v : Value} : ∀ {P : List Str} {vs : List Value} {i : Nat} {m : Str → Option Value}, P.Nodup → P[i]? = some x → vs[i]? = some v → kindOf x = some .local →
    bindL kindOf (P.zip vs) m x = some v
  | [], _, _, _, _, h, _, _ => by simp at h
  | _ :: _, [], _, _, _, _, h, _ => by simp at h
  | p :: P, w :: vs, 0, m, nd, h1, h2, hk => by
    simp at h1 h2; subst h1; subst h2
    show bindL kindOf ((p, w) :: P.zip vs) m p = _
    unfold bindL
    rw [bindL_out fun v hv => (List.nodup_cons.mp nd).1 (List.of_mem_zip hv).1, if_pos hk]
    simp
  | p :: P, w :: vs, i + 1, m, nd, h1, h2, hk => by
    show bindL kindOf ((p, w) :: P.zip vs) m x = _
    unfold bindL
    exact bindL_get (i := i) (List.nodup_cons.mp nd).2 (by simpa using h1) (by simpa using h2) hk
theorem bindC_get {kindOf : Str → Option NameKind} {x : Str} {v : Value} : ∀ {P : List Str} {vs : List Value} {i : Nat} {m : Str → Option Value}, P.Nodup → P[i]? = some x → vs[i]? = some v → kindOf x ≠ some .local →
    bindC kindOf (P.zip vs) m x = some v
  | [], _, _, _, _, h, _, _ => by simp at h
  | _ :: _, [], _, _, _, _, h, _ => by simp at h
  | p :: P, w :: vs, 0, m, nd, h1, h2, hk => by
    simp at h1 h2; subst h1; subst h2
    show bindC kindOf ((p, w) :: P.zip vs) m p = _
    unfold bindC
    rw [bindC_out fun v hv => (List.nodup_cons.mp nd).1 (List.of_mem_zip hv).1, if_neg hk]
    simp
  | p :: P, w :: vs, i + 1, m, nd, h1, h2, hk => by
    show bindC kindOf ((p, w) :: P.zip vs) m x = _
    unfold bindC
    exact bindC_get (i := i) (List.nodup_cons.mp nd).2 (by simpa using h1) (by simpa using h2) hk

/-- the names' values at the entry -/
def start (N : List Str) (vs : List V) : St := vs.map some ++ List.replicate (N.length - vs.length) none

/-- the context of a def's body, at its entry; an exception leaves the frame, then lies as CX says -/
def cxOf (CX : CXT) (P : Program) (w : World) (K : PySem.W.Frag) (mg : Str → Option Value) (base : Heap) (N : List Str) (qual : Str) (scope : Scope) (f : Addr) (cd : Value) (A : Around) (outer : List Env) (s : Shared) (H : Hp) (E : XK) : Cx where
  prog := P
  w := w
  K := K
  mg := mg
  base := base
  A := A.deeper (envOfC qual scope s.heap.objs.size f cd)
  N := N
  s_0 := s
  H_0 := H
  env := envOfC qual scope s.heap.objs.size f cd
  outer := outer
  stack := envOfC qual scope s.heap.objs.size f cd :: outer
  ex := []
  calm := true
  fn := fun _ => true
  pn := []
  xe := fun e s' => wpAny (model P w) (A.deeper (envOfC qual scope s.heap.objs.size f cd)) (leaving (envOfC qual scope s.heap.objs.size f cd) e) (fun _ s'' => CX outer H s E e s'') (fun e' s'' => CX outer H s E e' s'') s'

theorem cell_has {sc : Scope} {n : Nat} {x : Str} (h : sc.names.lookup x = some .cell) : ∃ c, (cellsFrom n sc.names []).lookup x = some c := by
  have q := PySem.W.cellsFrom_some sc.names n [] (.inl h)
  exact Option.isSome_iff_exists.mp q

theorem inv_start {CX : CXT} {P : Program} {w : World} {K : PySem.W.Frag} {mg : Str → Option Value} {base : Heap} {N ps : List Str} {qual : Str} {scope : Scope} {f : Addr} {cd : Value} {A : Around} {outer : List Env} {s s1 : Shared} {H : Hp} {E : XK} {us : List Value} {vs : List V}
    (S : FnScope N ps scope) (hd : A.handled = none) (e0 : Env0 P w K mg base A outer s H) (hl : vs.length = ps.length) (r : Vals vs us)
    (x : InCallC s s.heap.objs.size (bindL (envOfC qual scope s.heap.objs.size f cd).kindOf (ps.zip us) fun _ => none) (cellsFrom (s.heap.objs.size + 1) scope.names []) (bindC (envOfC qual scope s.heap.objs.size f cd).kindOf (ps.zip us) fun _ => none) s1) :
    Inv (cxOf CX P w K mg base N qual scope f cd A outer s H E) [] (start N vs) H s1 := by
  have hpl : ps.length ≤ N.length := by have := congrArg List.length S.pre; rw [List.length_take] at this; omega
  obtain ⟨h1, tk, rfl, hk⟩ := x.done
  have noA : ∀ b : Addr, b ∉ (cxOf CX P w K mg base N qual scope f cd A outer s H E).ex := fun b z => absurd (show b ∈ ([] : List Addr) from z) (by simp)
  refine ⟨⟨e0.mod, S.kind, rfl, rfl, Nat.le_refl _, fun y z c h1 h2 => ?_, fun y hy => ?_, fun y c _ h => ?_, fun _ => hd, Around.frames_deeper e0.frames, .inr ⟨rfl, rfl⟩, fun b z => absurd z (noA b), e0.bs, e0.bsz, fun b _ _ => noA b, fun b z => absurd z (noA b), e0.funs, e0.frf⟩,
    rfl, e0.bare, Un.kept hk, ⟨_, x.toInCall.ns, fun i y v h1 h2 h3 => ?_⟩, fun y c h => ⟨_, x.cell y c h⟩, e0.hok.fresh (Nat.le_refl _), fun y c h => ?_, fun p hp => absurd (show p ∈ ([] : List (Addr × Obj)) from hp) (by simp), e0.hok.kept hk, ?_⟩
  · exact name_of_addr x.apart (PySem.mem_of_lookup h1) (PySem.mem_of_lookup h2)
  · have hy : scope.names.lookup y = some .cell ∨ scope.names.lookup y = some .free := hy
    rcases hy with hy | hy
    · exact cell_has hy
    · exact absurd rfl (S.nofree _ (PySem.mem_of_lookup hy))
  · exact Nat.le_of_lt (x.above y c (PySem.mem_of_lookup h))
  · have hi : i < vs.length := by
      unfold start at h2
      by_cases hi : i < vs.length
      · exact hi
      · rw [List.getElem?_append_right (by simpa using hi)] at h2
        rw [List.getElem?_replicate] at h2
        split at h2 <;> cases h2
    have ha : vs[i]? = some v := by
      unfold start at h2
      rw [List.getElem?_append_left (by simpa using hi), List.getElem?_map] at h2
      cases e : vs[i]? with
      | none => rw [e] at h2; cases h2
      | some a => rw [e] at h2; cases h2; rfl
    obtain ⟨u, hu, rv⟩ := r.get ha
    have hp : ps[i]? = some y := by
      rw [← S.pre, List.getElem?_take_of_lt (by omega)]; exact h1
    have ndP : ps.Nodup := by rw [← S.pre]; exact S.nd.sublist (List.take_sublist _ _)
    refine ⟨u, rv, ?_⟩
    rcases S.par y (List.mem_of_getElem? hp) with k | k
    · exact .inl ⟨k, bindL_get ndP hp hu k⟩
    · obtain ⟨c, e⟩ := cell_has (n := s.heap.objs.size + 1) k
      refine .inr ⟨.inl k, c, e, ?_⟩
      have q := x.cell y c e
      rw [bindC_get ndP hp hu (by show scope.names.lookup y ≠ _; rw [k]; decide)] at q
      exact q
  · exact e0.hok.fresh (Nat.le_of_lt (x.above y c (PySem.mem_of_lookup h)))
  · unfold start
    show _ = N.length
    rw [List.length_append, List.length_map, List.length_replicate]
    omega

/-- THE RULE: a def (or a method) of the text, by its body. The body's reading t is chosen for each entry; it is run at the parameters' values -/
theorem fn_of {CX : CXT} {P : Program} {w : World} {K : PySem.W.Frag} {mg : Str → Option Value} {base : Heap} {k : Nat} {f : Addr} {name qual : Str} {params : Arguments} {body : List Stmt} {scope : Scope} {dV kV doc pm cdv ct oc : Value} {an od : Option Addr}
    {osl : Array (Option Value)} {N ps : List Str} {sp : Sp} (lk : K.lookup f = some ⟨oc, od, .func (PySem.W.fnOf name qual params body scope dV kV doc pm an cdv ct), osl⟩) (hcd : PySem.W.codeIn K cdv qual = true) (S : FnScope N ps scope)
    (len : ∀ vs H Q E, sp vs H Q E → vs.length = ps.length)
    (hbody : ∀ (A : Around) (outer : List Env) (s : Shared) (H : Hp) (vs : List V) (Q : VK) (E : XK), Room k (A.deeper (envOfC qual scope s.heap.objs.size f cdv)) → sp vs H Q E →
      ∃ t, PSs (cxOf CX P w K mg base N qual scope f cdv A outer s H E) body t ∧ t { nx := fun _ H' => Q .non H', rt := Q } (start N vs) H) :
    FnOk P w K mg base CX (k + 1) f (PySem.W.fnOf name qual params body scope dV kV doc pm an cdv ct) ps sp := by
  refine ⟨len, fun A outer s H args us vs Q E hr e0 hb r hsp => ?_⟩
  have hl := len _ _ _ _ hsp
  have KX : K.In s.heap := e0.mod.kin.keeps fun b o e => (e0.bs b o e).1
  have lim : s.heap.NoLimit := e0.mod.nolimit.keeps fun b o e => (e0.bs b o e).1
  have hkind : ∀ y ∈ ps.zip us, scope.names.lookup y.1 = some .local ∨ (scope.names.lookup y.1 = some .cell ∧ ((cellsFrom (s.heap.objs.size + 1) scope.names []).lookup y.1).isSome = true) := fun ⟨n, v⟩ hy => by
    rcases S.par n (List.of_mem_zip hy).1 with q | q
    · exact .inl q
    · exact .inr ⟨q, PySem.W.cellsFrom_some _ _ _ (.inl q)⟩
  refine codeAny_call_function hr.depth (KX _ _ lk) rfl S.co S.gen rfl (PySem.W.codeRec_of KX hcd) (hb _ _ _ _ ?_)
  refine wpAny_newFunctionEnv_cells S.kind hkind fun env he s1 x => ?_
  subst he
  refine ⟨lim.keeps x.toInCall.keep, codeAny_func ?_⟩
  obtain ⟨t, ht, hq⟩ := hbody A outer s H vs Q E (hr.deeper _) hsp
  have I : Inv (cxOf CX P w K mg base N qual scope f cdv A outer s H E) [] (start N vs) H s1 := inv_start S hr.hd e0 hl r x
  refine wpAny_mono (ht [] s1 (start N vs) H _ I hq) (fun fl s' hs => ?_) fun e s' hs => hs
  have fin : ∀ {σ' : St} {H' : Hp} {v : V} {u : Value}, Inv (cxOf CX P w K mg base N qual scope f cdv A outer s H E) [] σ' H' s' → RelV v u → Q v H' → CE outer P w H s Q u s' :=
    fun {σ' H' v u} J rv q => ⟨v, H', J.os, J.bare, J.base, J.hok, rv, q⟩
  cases fl with
  | ret u =>
    obtain ⟨v, σ', H', J, rv, q⟩ := hs
    exact fin J rv q
  | next =>
    obtain ⟨σ', H', J, q⟩ := hs
    exact fin (v := V.non) (u := Value.none) J rfl q
  | brk =>
    obtain ⟨_, _, _, q⟩ := hs
    exact False.elim q
  | cont =>
    obtain ⟨_, _, _, q⟩ := hs
    exact False.elim q
end L2

namespace L2
open PySem PySem.Spec PyProof.Rows
section
variable {X : Cx} {x : Str} {p pos : Pos} {e : Expr} {es : List Expr} {t : TA} {id T : String} {r : List V → Hp → VK → Prop}

def tCB (r : List V → Hp → VK → Prop) (t : TA) : TE := fun σ H Q => t σ H fun vs H1 => r vs H1 Q
/-- f(e, ..), f a built-in function -/
theorem pe_callB (hc : CallR X (.builtin id) r) (hg : Gl X x) (hm : X.mg x = none) (hv : bootBuiltins x = some (.builtin id)) (ha : PA X (e :: es) t) (hn : x ≠ "__name__" := by decide) (hdb : (x == ("__debug__" : Str)) = false := by decide)
    (he : starEach (e :: es) X.env = (false, eval e X.env) :: starEach es X.env := by rfl) (hpl : (backTo pos (starEach es X.env)).any (·.1) = false := by rfl) : PE X (.Call (.Name x p) (e :: es) [] pos) (tCB r t) := by
  intro pins s σ H Q I h
  refine wpAny_Call_Name_kw (ld_blt I hg hm hv ?_ hn hdb)
  exact PyProof.Rows.callWith_builtin1 (thn (ha pos pins s σ H _ I h) fun us s1 ⟨vs, H1, I1, r1, q1⟩ => hc pins s1 σ H1 vs us Q I1 r1 q1) he hpl
/-- T(e, ..), T a built-in type -/
theorem pe_callTy (hc : CallR X (.type T) r) (hg : Gl X x) (hm : X.mg x = none) (hv : bootBuiltins x = some (.type T)) (ha : PA X (e :: es) t) (hn : x ≠ "__name__" := by decide) (hdb : (x == ("__debug__" : Str)) = false := by decide)
    (he : starEach (e :: es) X.env = (false, eval e X.env) :: starEach es X.env := by rfl) (hpl : (backTo pos (starEach es X.env)).any (·.1) = false := by rfl) : PE X (.Call (.Name x p) (e :: es) [] pos) (tCB r t) := by
  intro pins s σ H Q I h
  refine wpAny_Call_Name_kw (ld_blt I hg hm hv ?_ hn hdb)
  exact PyProof.Rows.callWith_type1 (thn (ha pos pins s σ H _ I h) fun us s1 ⟨vs, H1, I1, r1, q1⟩ => hc pins s1 σ H1 vs us Q I1 r1 q1) he hpl
end
end L2

namespace HT
open PySem PyProof.Rows

/-- t < u of tuples of ints -/
def lexLt : List Int → List Int → Bool
  | [], [] => false
  | [], _ :: _ => true
  | _ :: _, [] => false
  | x :: xs, y :: ys => if x = y then lexLt xs ys else decide (x < y)
theorem lexLt_cons (x y : Int) (xs ys : List Int) : lexLt (x :: xs) (y :: ys) = if x = y then lexLt xs ys else decide (x < y) := rfl
theorem lexLt_nil_nil : lexLt [] [] = false := rfl
theorem lexLt_nil_cons (y : Int) (ys : List Int) : lexLt [] (y :: ys) = true := rfl
theorem lexLt_cons_nil (x : Int) (xs : List Int) : lexLt (x :: xs) [] = false := rfl

theorem eqAt_int (A : Around) (s : Shared) (a : Int) (t : Tok) (c : Int) (u : Tok) : ∃ e, SeqAt.EqAt A s (.int a t) (.int c u) e ∧ (e = true ↔ a = c) :=
  ⟨(a == c), SeqAt.EqAt.int_int a t c u, by simp⟩
theorem rcLt_int (A : Around) (s : Shared) (a : Int) (t : Tok) (c : Int) (u : Tok) (prog : Program) (w : World) (E : Value → Shared → Prop) (Q : Value → Shared → Prop) (h : Q (.bool (decide (a < c))) s) :
    wpAny (model prog w) A (richCompare .Lt (.int a t) (.int c u)) Q E s :=
  (PyProof.Rows.lt_int h : wpAny (model prog w) A (compareOp .Lt (.int a t) (.int c u)) Q E s)

section
open PySem.SeqAt
open PySem.AutoSeq1 (wpAny_loadPart')
open PySem.MeetsSeq PySem.MeetsSeq2 PySem.MeetsSeq3

theorem tuple_lt_ints (l b : Addr) (items items2 : Array Value) (n n2 : Nat) (dd dd2 : Option Addr) (sl sl2 : Array (Option Value)) (ns ms : List Int) (hi : IntsAre items.toList ns) (hj : IntsAre items2.toList ms) :
    Meets (Builtin.«tuple.__lt__» ⟨[.ref l, .ref b], []⟩)
      (fun _ R s => s.heap.get? l = some { cls := .type "tuple", dict := dd, data := .seq items n, slots := sl } ∧ s.heap.get? b = some { cls := .type "tuple", dict := dd2, data := .seq items2 n2, slots := sl2 } ∧
        R (.ok (.ret (.bool (lexLt ns ms)))) s) :=
  .of_wp fun prog w A R s h => by
    obtain ⟨hp, g, d, tk, os⟩ := s; obtain ⟨hl, hb, h⟩ := h
    have f2 := AutoSeq1.sub_tuple_tuple
    have z1 : items.size = ns.length := by rw [← hi.length]; simp
    have z2 : items2.size = ms.length := by rw [← hj.length]; simp
    wp_walk using wpAny_loadPart' hl, wpAny_loadPart' hb, wpAny_forIn_list _ (fun rest b s' => b.1 = none ∧ s' = ⟨hp, g, d, tk, os⟩ ∧ ∃ (vs ws : List Value) (ns' ms' : List Int), rest = vs.zip ws ∧
      IntsAre vs ns' ∧ IntsAre ws ms' ∧ ns'.length + items2.size = ms'.length + items.size ∧ R (.ok (.ret (.bool (lexLt ns' ms')))) ⟨hp, g, d, tk, os⟩) _
    case turn =>
      rintro ⟨y, x⟩ rest b s' ⟨hb', rfl, vs, ws, ns', ms', hz, hvi, hwi, hlen, hR⟩
      cases hvi with
      | nil => rw [List.zip_nil_left] at hz; cases hz
      | cons a t hvi' =>
        cases hwi with
        | nil => rw [List.zip_nil_right] at hz; cases hz
        | cons c u hwi' =>
          rw [List.zip_cons_cons] at hz
          injection hz with hyx hrest
          injection hyx with hy hx
          subst hy hx
          rw [lexLt_cons] at hR
          simp only [List.length_cons] at hlen
          obtain ⟨e, he, hiff⟩ := eqAt_int A.in1 ⟨hp, g, d, tk, os⟩ a t c u
          refine wpAny_bind (he prog w _ _ ?_)
          cases e with
          | true =>
            rw [if_pos (hiff.mp rfl)] at hR
            wp_walk
            exact ⟨rfl, rfl, _, _, _, _, hrest, hvi', hwi', by omega, hR⟩
          | false =>
            rw [if_neg (fun q => absurd (hiff.mpr q) Bool.false_ne_true)] at hR
            have hri := rcLt_int A.in1 ⟨hp, g, d, tk, os⟩ a t c u prog w
            wp_walk using hri
            exact ⟨_, rfl, by simpa using hR⟩
    case fin =>
      rintro ⟨b1, b2⟩ s' ⟨hb', rfl, vs, ws, ns', ms', hz, hvi, hwi, hlen, hR⟩
      simp only at hb'
      subst hb'
      have hv : lexLt ns' ms' = decide (items.size < items2.size) := by
        cases hvi with
        | nil =>
          cases hwi with
          | nil =>
            simp only [List.length_nil] at hlen
            rw [lexLt_nil_nil]
            exact (decide_eq_false (by omega)).symm
          | cons c u hw =>
            simp only [List.length_nil, List.length_cons] at hlen
            rw [lexLt_nil_cons]
            exact (decide_eq_true (by omega)).symm
        | cons a t hv =>
          cases hwi with
          | nil =>
            simp only [List.length_nil, List.length_cons] at hlen
            rw [lexLt_cons_nil]
            exact (decide_eq_false (by omega)).symm
          | cons c u hw =>
            rw [List.zip_cons_cons] at hz
            cases hz
      rw [hv] at hR
      wp_walk
      exact ⟨_, rfl, by simpa [Builtin.Tuple.tupleCompareSizes] using hR⟩
    case h =>
      exact ⟨rfl, rfl, items.toList, items2.toList, ns, ms, rfl, hi, hj, by omega, h⟩
end

section
variable {prog : Program} {w : World} {A : Around} {E : Value → Shared → Prop} {s : Shared}

theorem lt_tupInts {l b : Addr} {items items2 : Array Value} {ns ms : List Int} {Q : Value → Shared → Prop} (hl : IsTup s.heap l items) (hb : IsTup s.heap b items2) (hi : IntsAre items.toList ns) (hj : IntsAre items2.toList ms)
    (hu : A.units < cLine) (h : Q (.bool (lexLt ns ms)) s) : wpAny (model prog w) A (compareOp .Lt (.ref l) (.ref b)) Q E s := by
  obtain ⟨⟨cls, dd, data, sl⟩, ho, hc, n, hd⟩ := id hl
  obtain ⟨⟨cls2, dd2, data2, sl2⟩, ho2, hc2, n2, hd2⟩ := id hb
  simp only at hc hd hc2 hd2
  subst hc hd hc2 hd2
  exact richCompare_meets_room (op := .Lt) ⟨_, ho, rfl⟩ ⟨_, ho2, rfl⟩ PySem.F.slot_tuple_lt PySem.F.entry_tuple_lt (PySem.F.args_tuple_lt_2 _ _) (tuple_lt_ints l b items items2 n n2 dd dd2 sl sl2 ns ms hi hj)
    ⟨ho, ho2, show Value.bool (lexLt ns ms) ≠ Value.notImplemented ∧ Q (.bool (lexLt ns ms)) s from ⟨(fun x => nomatch x), h⟩⟩ hu

/-- t + u, t not empty -/
theorem cat_tup {t b : Addr} {vs ws : List Value} {Q : Value → Shared → Prop} (ht : IsTup s.heap t vs.toArray) (hb : IsTup s.heap b ws.toArray) (hv : vs ≠ [])
    (h1 : ws = [] → Q (.ref t) s) (h2 : ws ≠ [] → Q (.ref s.heap.objs.size) { s with heap := s.heap.push { cls := .type "tuple", data := .seq (vs ++ ws).toArray } })
    (hsz : vs.length + ws.length ≤ sizeLine) : wpAny (model prog w) A (binaryOp .Add (.ref t) (.ref b)) Q E s := by
  obtain ⟨⟨cls, dd, data, sl⟩, ho, hc, n, hd⟩ := id ht
  obtain ⟨⟨cls2, dd2, data2, sl2⟩, ho2, hc2, n2, hd2⟩ := id hb
  simp only at hc hd hc2 hd2
  subst hc hd hc2 hd2
  have e : vs.toArray ++ ws.toArray = (vs ++ ws).toArray := by simp
  by_cases hw : ws = []
  · exact concat_meets ⟨_, ho, rfl⟩ ⟨_, ho2, rfl⟩ noFill_tuple_add seq_tuple_add PySem.F.slot_tuple_add PySem.F.entry_tuple_add (PySem.F.args_tuple_add_2 _ _)
      (tuple_addW1 t b vs.toArray ws.toArray n n2 dd dd2 sl sl2 (by simpa using hv) (by simp [hw])) ⟨ho, ho2, h1 hw⟩
  · refine concat_meets ⟨_, ho, rfl⟩ ⟨_, ho2, rfl⟩ noFill_tuple_add seq_tuple_add PySem.F.slot_tuple_add PySem.F.entry_tuple_add (PySem.F.args_tuple_add_2 _ _)
      (tuple_addW2 t b vs.toArray ws.toArray n n2 dd dd2 sl sl2 (by simpa using hv) (by simpa using hw) (by rw [List.size_toArray, List.size_toArray]; exact hsz)) ⟨ho, ho2, ?_⟩
    rw [e]
    exact h2 hw

/-! ### t[a:b], not the whole -/
/-- a slice's bound as a place among n (d where it is left out) -/
def sIx (n d : Nat) : Option Int → Nat
  | none => d
  | some v => if v < 0 then (v + (n : Int)).toNat else min v.toNat n
theorem sIx_none (n d : Nat) : sIx n d none = d := rfl
theorem sIx_nat (n d k : Nat) : sIx n d (some (k : Int)) = min k n := by
  show (if (k : Int) < 0 then ((k : Int) + (n : Int)).toNat else min (k : Int).toNat n) = min k n
  rw [if_neg (by omega), Int.toNat_natCast]
theorem sIx_le (n d : Nat) (hd : d ≤ n) (o : Option Int) : sIx n d o ≤ n := by
  cases o with
  | none => exact hd
  | some v =>
    show (if v < 0 then (v + (n : Int)).toNat else min v.toNat n) ≤ n
    by_cases hv : v < 0
    · rw [if_pos hv]; omega
    · rw [if_neg hv]; exact Nat.min_le_right _ _
theorem clip_eq (v : Int) (n d : Nat) : (if v < 0 then max (v + (n : Int)) 0 else min v (n : Int)) = ((sIx n d (some v) : Nat) : Int) := by
  show (if v < 0 then max (v + (n : Int)) 0 else min v (n : Int)) = (((if v < 0 then (v + (n : Int)).toNat else min v.toNat n) : Nat) : Int)
  by_cases hv : v < 0
  · simp only [if_pos hv]; omega
  · simp only [if_neg hv]; omega
theorem adjust_gen (lo hi : Option Int) (n : Nat) : Builtin.Slice.sliceAdjust lo hi 1 (n : Int) = (((sIx n 0 lo : Nat) : Int), ((sIx n n hi : Nat) : Int)) := by
  have h1 : ¬ ((1 : Int) < 0) := by omega
  unfold Builtin.Slice.sliceAdjust
  simp only [h1, if_false]
  refine Prod.ext ?_ ?_
  · cases lo with
    | none => rfl
    | some v => exact clip_eq v n 0
  · cases hi with
    | none => rfl
    | some v => exact clip_eq v n n
theorem places_gen (i j : Nat) : Builtin.Slice.slicePlaces (i : Int) (j : Int) 1 = j - i := by
  unfold Builtin.Slice.slicePlaces
  have h1 : (1 : Int) > 0 := by omega
  simp only [h1, if_true, Int.ediv_one]
  split <;> omega
theorem slicePart_ {v : Value} {o : Option Int} {Q : Option Int → Shared → Prop} (p : IsPart v o) (h : Q o s) : wpAny (model prog w) A (Builtin.Slice.slicePartIndex v) Q E s := by
  cases p with
  | none => exact slicePart_none h
  | int i t => exact slicePart_int h
theorem sliceApplied_gen {sl : Addr} {vl vu : Value} {lo hi : Option Int} {n : Nat} {Q : Int × Int × Nat → Shared → Prop} (hs : s.heap.IsSliceOf sl vl vu .none) (pl : IsPart vl lo) (pu : IsPart vu hi)
    (h : Q (((sIx n 0 lo : Nat) : Int), 1, sIx n n hi - sIx n 0 lo) s) : wpAny (model prog w) A (Builtin.Slice.sliceApplied (.ref sl) (pure (n : Int))) Q E s := by
  obtain ⟨os, hos, hcs, hds⟩ := id hs
  unfold Builtin.Slice.sliceApplied Builtin.Slice.sliceFields
  refine wpAny_bind (wpAny_bind (wpAny_field hos hds (x := vl) rfl (wpAny_bind (wpAny_field hos hds (x := vu) rfl (wpAny_bind (wpAny_field hos hds (x := .none) rfl (wpAny_pure ?_)))))))
  refine wpAny_bind (slicePart_none ?_)
  show wpAny _ _ (if ((1 : Int) == 0) = true then _ else _) _ _ s
  rw [if_neg (by decide)]
  refine wpAny_bind (slicePart_ pl (wpAny_bind (slicePart_ pu (wpAny_bind (wpAny_pure ?_)))))
  show wpAny _ _ (match Builtin.Slice.sliceAdjust lo hi 1 (n : Int) with | (lo, hi) => pure (lo, (1 : Int), Builtin.Slice.slicePlaces lo hi 1)) _ _ s
  rw [adjust_gen lo hi n]
  show wpAny _ _ (pure (((sIx n 0 lo : Nat) : Int), (1 : Int), Builtin.Slice.slicePlaces ((sIx n 0 lo : Nat) : Int) ((sIx n n hi : Nat) : Int) 1)) _ _ s
  rw [places_gen]
  exact wpAny_pure h
theorem pick_gen (xs : Array Value) (i k : Nat) : ((List.range k).filterMap fun (m : Nat) => xs[((i : Int) + (m : Int) * 1).toNat]?).toArray = ((xs.toList.drop i).take k).toArray := by
  have e : (fun (m : Nat) => xs[((i : Int) + (m : Int) * 1).toNat]?) = fun m => xs[i + m]? := by
    funext m
    have : ((i : Int) + (m : Int) * 1).toNat = i + m := by omega
    rw [this]
  rw [e]
  have := pick_run xs i k
  rw [List.filterMap_map] at this
  have e2 : ((fun x => xs[x]?) ∘ fun x => i + x) = fun m => xs[i + m]? := rfl
  rw [e2] at this
  rw [this]

theorem getItem_tuple_cut {t sl : Addr} {items : Array Value} {vl vu : Value} {lo hi : Option Int} {Q : Value → Shared → Prop} (ht : IsTup s.heap t items) (hs : s.heap.IsSliceOf sl vl vu .none) (pl : IsPart vl lo) (pu : IsPart vu hi)
    (hw : ¬ (sIx items.size 0 lo = 0 ∧ sIx items.size items.size hi = items.size))
    (h : Q (.ref s.heap.objs.size) { s with heap := s.heap.push { cls := .type "tuple", data := .seq ((items.toList.drop (sIx items.size 0 lo)).take (sIx items.size items.size hi - sIx items.size 0 lo)).toArray } })
    (hsz : items.size ≤ sizeLine) : wpAny (model prog w) A (getItem (.ref t) (.ref sl)) Q E s := by
  have htake : sizeOk (.seq ((items.toList.drop (sIx items.size 0 lo)).take (sIx items.size items.size hi - sIx items.size 0 lo)).toArray) := by
    show ((items.toList.drop (sIx items.size 0 lo)).take (sIx items.size items.size hi - sIx items.size 0 lo)).toArray.size ≤ sizeLine
    rw [List.size_toArray, List.length_take, List.length_drop, Array.length_toList]
    omega
  have hj : sIx items.size items.size hi ≤ items.size := sIx_le _ _ (Nat.le_refl _) hi
  obtain ⟨os, hos, hcs, hds⟩ := id hs
  have hTs : s.TypeIs (.ref sl) "slice" := ⟨os, hos, hcs⟩
  unfold getItem
  try with_reducible refine wpAny_holding ?_
  first | refine wpAny_bind (wpAny_pure ?_) | skip
  refine wpAny_bind (wpAny_sequenceKey ht.typeIs (by decide) ?_)
  refine wpAny_bind (wpAny_callSpecial?_slot (name := Str.ofString "__getitem__") ht.typeIs PyProof.Rows.slot_tuple_getitem
    (wpAny_call_entry PyProof.Rows.slot_tuple_getitem ht.typeIs entry_tuple_getitem ?_ (args_tuple_getitem _ _)))
  show wpAny _ _ (Builtin.Tuple.tupleItemsOf (.ref t) >>= _) _ _ s
  refine wpAny_bind (tupleItemsOf_ ht ?_)
  refine wpAny_bind (wpAny_typeOf hTs ?_)
  rw [if_pos (by decide)]
  refine wpAny_bind (sliceApplied_gen hs pl pu ?_)
  have hno : ¬ ((((sIx items.size 0 lo : Nat) : Int) == 0 && (1 : Int) == 1 && (sIx items.size items.size hi - sIx items.size 0 lo) == items.size) = true) := by
    intro q
    rw [Bool.and_eq_true, Bool.and_eq_true] at q
    have q1 : ((sIx items.size 0 lo : Nat) : Int) = 0 := eq_of_beq q.1.1
    have q2 : sIx items.size items.size hi - sIx items.size 0 lo = items.size := eq_of_beq q.2
    exact hw ⟨by omega, by omega⟩
  show wpAny _ _ (if (((sIx items.size 0 lo : Nat) : Int) == 0 && (1 : Int) == 1 && (sIx items.size items.size hi - sIx items.size 0 lo) == items.size) = true then _ else _) _ _ s
  rw [if_neg hno, pick_gen]
  first
    | exact wpAny_bind (m := Builtin.Tuple.tupleExact _) (wpAny_newObj_type (wpAny_pure ⟨_, rfl, wpAny_pure h⟩) htake)
    | exact wpAny_bind (m := Builtin.Tuple.tupleExact _) (wpAny_newObj_type (wpAny_bind (wpAny_pure (wpAny_pure ⟨_, rfl, wpAny_pure h⟩))) htake)
    | exact wpAny_bind (wpAny_bind (m := Builtin.Tuple.tupleExact _) (wpAny_newObj_type (wpAny_pure (wpAny_pure ⟨_, rfl, wpAny_pure h⟩)) htake))
    | exact wpAny_bind (wpAny_bind (m := Builtin.Tuple.tupleExact _) (wpAny_newObj_type (wpAny_pure ⟨_, rfl, wpAny_pure h⟩) htake))
end
end HT

namespace L2
open PySem PySem.Spec PyProof.Rows

/-! ### the parts of a slice -/
abbrev TO := St → Hp → (Option Int → Hp → Prop) → Prop
/-- a slice's part (left out, or an int) -/
def PO (X : Cx) (e : Option Expr) (t : TO) : Prop :=
  ∀ (pins : List (Addr × Obj)) (s : Shared) (σ : St) (H : Hp) (Q : Option Int → Hp → Prop), Inv X pins σ H s → t σ H Q →
    wpAny (model X.prog X.w) X.A (evalPart e X.env) (fun u s' => ∃ o H', Inv X pins σ H' s' ∧ IsPart u o ∧ Q o H') X.xe s
def tNoPart : TO := fun _ H Q => Q none H
def tPart (t : TE) : TO := fun σ H Q => t σ H fun x H1 => ∃ i, x = .int i ∧ Q (some i) H1

theorem intsAre_of {ns : List Int} : ∀ {us : List Value}, Vals (ns.map V.int) us → IntsAre us ns := by
  induction ns with
  | nil => intro us r; rw [List.map_nil] at r; cases r; exact .nil
  | cons n ns ih =>
    intro us r
    rw [List.map_cons] at r
    cases r with
    | cons r1 r2 =>
      obtain ⟨t, e⟩ := r1
      subst e
      exact .cons n t (ih r2)

section
variable {X : Cx} {e : Expr} {te : TE} {lo hi : Option Expr} {tl th : TO} {pos p2 : Pos}

theorem po_none : PO X none tNoPart := by
  intro pins s σ H Q I h
  rw [evalPart_none]
  exact wpAny_pure ⟨none, H, I, .none, h⟩
theorem po_some (h : PE X e te) : PO X (some e) (tPart te) := by
  intro pins s σ H Q I hw
  rw [evalPart_some]
  refine thn (h pins s σ H _ I hw) fun u s1 ⟨x, H1, I1, r1, q1⟩ => ?_
  obtain ⟨i, rfl, q⟩ := q1
  obtain ⟨t, rfl⟩ := r1
  exact ⟨some i, H1, I1, .int i t, q⟩

/-- what a slice of a value is, by values: the slice object stands at sl -/
def SlR (X : Cx) (r : V → Option Int → Option Int → Hp → VK → Prop) : Prop :=
  ∀ (pins : List (Addr × Obj)) (s : Shared) (σ : St) (H : Hp) (x : V) (v vl vu : Value) (lo hi : Option Int) (sl : Addr) (Q : VK), Inv X pins σ H s → RelV x v → s.heap.IsSliceOf sl vl vu .none → IsPart vl lo → IsPart vu hi → r x lo hi H Q →
    ∃ T id, typeLookup (.type T) "__getitem__" = pure (some (.builtin id)) ∧ s.TypeIs v T ∧ wpAny (model X.prog X.w) X.A (getItem v (.ref sl)) (EP X pins σ Q) X.xe s
theorem SlR.or {r r' : V → Option Int → Option Int → Hp → VK → Prop} (h : SlR X r) (h' : SlR X r') : SlR X (fun x lo hi H Q => r x lo hi H Q ∨ r' x lo hi H Q) := by
  intro pins s σ H x v vl vu lo hi sl Q I rx hs pl pu q
  rcases q with q | q
  · exact h pins s σ H x v vl vu lo hi sl Q I rx hs pl pu q
  · exact h' pins s σ H x v vl vu lo hi sl Q I rx hs pl pu q
def tSl (r : V → Option Int → Option Int → Hp → VK → Prop) (te : TE) (tl th : TO) : TE := fun σ H Q => te σ H fun x H1 => tl σ H1 fun l H2 => th σ H2 fun u H3 => r x l u H3 Q
/-- a[lo:hi], any a -/
theorem pe_slice {r : V → Option Int → Option Int → Hp → VK → Prop} (hr : SlR X r) (he : PE X e te) (hl : PO X lo tl) (hu : PO X hi th) : PE X (.Subscript e (.Slice lo hi none p2) pos) (tSl r te tl th) := by
  intro pins s σ H Q I h
  refine Subscript_ (thn (he pins s σ H _ I h) fun v s1 ⟨x, H1, I1, r1, q1⟩ => ?_)
  refine wpAny_Slice (thn (hl pins s1 σ H1 _ I1 q1) fun vl s2 ⟨l, H2, I2, pl, q2⟩ => thn (hu pins s2 σ H2 _ I2 q2) fun vu s3 ⟨u, H3, I3, pu, q3⟩ => ?_)
  rw [evalPart_none]
  refine wpAny_pure ?_
  have I4 : Inv X pins σ H3 { s3 with heap := s3.heap.push { cls := .type "slice", data := .fields #[vl, vu, .none] } } := I3.kept (t' := s3.toks) fun b ob q => Heap.get?_push_of_some _ q
  obtain ⟨T, id, hT, ht, hg⟩ := hr pins { s3 with heap := s3.heap.push { cls := .type "slice", data := .fields #[vl, vu, .none] } } σ H3 x v vl vu l u s3.heap.objs.size Q I4 r1 (Heap.IsSliceOf.new ..) pl pu q3
  show wpAny (model X.prog X.w) X.A (subscriptTail e (.Slice lo hi none p2) v (.ref s3.heap.objs.size)) (EP X pins σ Q) X.xe { s3 with heap := s3.heap.push { cls := .type "slice", data := .fields #[vl, vu, .none] } }
  exact tail_any (ops := [.ref s3.heap.objs.size, v]) ht hT hg (by with_unfolding_all rfl)

/-- the items of xs[lo:hi] -/
def cutV (xs : List V) (lo hi : Option Int) : List V := (xs.drop (HT.sIx xs.length 0 lo)).take (HT.sIx xs.length xs.length hi - HT.sIx xs.length 0 lo)
theorem cutV_length (xs : List V) (lo hi : Option Int) : (cutV xs lo hi).length ≤ xs.length := by
  unfold cutV
  rw [List.length_take, List.length_drop]
  omega
/-- t[lo:hi], not the whole of it (the whole would be t itself) -/
def rSlT (K : PySem.W.Frag) : V → Option Int → Option Int → Hp → VK → Prop := fun x lo hi H Q => ∃ a xs, x = .ref a ∧ SqT K H a xs ∧
  ¬ (HT.sIx xs.length 0 lo = 0 ∧ HT.sIx xs.length xs.length hi = xs.length) ∧ ∀ p, H p = none → Q (.ref p) (upd H p (.tup (cutV xs lo hi)))
theorem sl_tup : SlR X (rSlT X.K) := by
  intro pins s σ H x v vl vu lo hi sl Q I rx hs pl pu h
  obtain ⟨a, xs, rfl, hx, hw, q⟩ := h
  cases rx
  obtain ⟨its, r, ht, hz⟩ := I.tuple hx
  have hlen : its.toArray.size = xs.length := by rw [List.size_toArray]; exact r.length.symm
  refine ⟨"tuple", _, PyProof.Rows.slot_tuple_getitem.lookup, ht.typeIs, ?_⟩
  refine HT.getItem_tuple_cut ht hs pl pu (by rw [hlen]; exact hw) ?_ (by rw [hlen]; exact hz)
  rw [hlen]
  refine ⟨.ref s.heap.objs.size, _, I.laid (t' := s.toks) (o := .tup (cutV xs lo hi)) (fun b ob q => Heap.get?_push_of_some _ q) (Nat.le_refl _) ?_, rfl, q _ (I.hok.fresh (Nat.le_refl _))⟩
  exact ⟨Nat.le_trans (cutV_length xs lo hi) hz, _, (r.drop (HT.sIx xs.length 0 lo)).take (HT.sIx xs.length xs.length hi - HT.sIx xs.length 0 lo), IsTupD.new _ _⟩

/-! ### t < u, t + u -/
def rLtT (K : PySem.W.Frag) : R2 := fun x y H Q => ∃ a b ns ms, x = .ref a ∧ y = .ref b ∧ SqT K H a (ns.map V.int) ∧ SqT K H b (ms.map V.int) ∧ Q (.bl (HT.lexLt ns ms)) H
theorem op_ltT (hu : X.A.units < cLine) : OpR X (compareOp .Lt) (rLtT X.K) := by
  intro pins s σ H x y v u Q I rx ry h
  obtain ⟨a, b, ns, ms, rfl, rfl, ha, hb, q⟩ := h
  cases rx
  cases ry
  obtain ⟨its, r1, p1, _⟩ := I.tuple ha
  obtain ⟨its2, r2, p2, _⟩ := I.tuple hb
  have i1 : IntsAre its.toArray.toList ns := intsAre_of r1
  have i2 : IntsAre its2.toArray.toList ms := intsAre_of r2
  exact HT.lt_tupInts p1 p2 i1 i2 hu ⟨.bl (HT.lexLt ns ms), H, I, rfl, q⟩
/-- t + u, t not empty: u empty gives t itself -/
def rCatT (K : PySem.W.Frag) : R2 := fun x y H Q => ∃ a b xs ys, x = .ref a ∧ y = .ref b ∧ SqT K H a xs ∧ SqT K H b ys ∧ xs ≠ [] ∧ xs.length + ys.length ≤ sizeLine ∧
  (ys = [] → Q (.ref a) H) ∧ (ys ≠ [] → ∀ p, H p = none → Q (.ref p) (upd H p (.tup (xs ++ ys))))
theorem Vals.nil_iff {xs : List V} {us : List Value} (r : Vals xs us) : us = [] ↔ xs = [] := by
  cases r with
  | nil => simp
  | cons _ _ => simp
theorem op_catT : OpR X (binaryOp .Add) (rCatT X.K) := by
  intro pins s σ H x y v u Q I rx ry h
  obtain ⟨a, b, xs, ys, rfl, rfl, ha, hb, hx, hz, q1, q2⟩ := h
  cases rx
  cases ry
  obtain ⟨its, r1, p1, _⟩ := I.tuple ha
  obtain ⟨its2, r2, p2, _⟩ := I.tuple hb
  refine HT.cat_tup p1 p2 (fun z => hx (r1.nil_iff.mp z)) (fun z => ⟨.ref a, H, I, rfl, q1 (r2.nil_iff.mp z)⟩) (fun z => ?_) (by rw [← r1.length, ← r2.length]; exact hz)
  refine ⟨.ref s.heap.objs.size, _, I.laid (t' := s.toks) (o := .tup (xs ++ ys)) (fun b ob q => Heap.get?_push_of_some _ q) (Nat.le_refl _) ?_, rfl, q2 (fun w => z (r2.nil_iff.mpr w)) _ (I.hok.fresh (Nat.le_refl _))⟩
  exact ⟨by rw [List.length_append]; exact hz, _, r1.append r2, IsTupD.new _ _⟩
end
end L2

namespace L2
open PySem PySem.Spec PyProof.Rows

/-! ### places -/
/-- the place that an index of any sign means -/
def ixN (n : Nat) (i : Int) : Option Nat := if 0 ≤ i then (if i < n then some i.toNat else none) else if -(n : Int) ≤ i then some (i + n).toNat else none
def atI {α : Type} (xs : List α) (i : Int) : Option α := (ixN xs.length i).bind fun j => xs[j]?
theorem ixN_seq {n : Nat} {i : Int} {j : Nat} (h : ixN n i = some j) : seqIndex? i n = some j ∧ j < n ∧ -(n : Int) ≤ i ∧ i < n := by
  unfold ixN at h
  by_cases h0 : 0 ≤ i
  · rw [if_pos h0] at h
    by_cases h1 : i < n
    · rw [if_pos h1] at h
      have e : i.toNat = j := Option.some.inj h
      exact ⟨by rw [seqIndex_of h0 h1, e], by omega, by omega, h1⟩
    · rw [if_neg h1] at h; cases h
  · rw [if_neg h0] at h
    by_cases h1 : -(n : Int) ≤ i
    · rw [if_pos h1] at h
      have e : (i + n).toNat = j := Option.some.inj h
      exact ⟨by rw [seqIndex_neg (by omega) h1, e], by omega, h1, by omega⟩
    · rw [if_neg h1] at h; cases h
theorem atI_get {α : Type} {xs : List α} {i : Int} {v : α} (h : atI xs i = some v) : ∃ j, seqIndex? i xs.length = some j ∧ xs[j]? = some v ∧ j < xs.length ∧ -(xs.length : Int) ≤ i ∧ i < xs.length := by
  unfold atI at h
  cases e : ixN xs.length i with
  | none => rw [e] at h; cases h
  | some j =>
    rw [e] at h
    obtain ⟨h1, h2, h3, h4⟩ := ixN_seq e
    exact ⟨j, h1, h, h2, h3, h4⟩
theorem atI_nat {α : Type} {xs : List α} {j : Nat} {v : α} (h : xs[j]? = some v) : atI xs (j : Int) = some v := by
  have hj : j < xs.length := (List.getElem?_eq_some_iff.mp h).1
  have e : ixN xs.length (j : Int) = some j := by
    unfold ixN
    rw [if_pos (by omega), if_pos (by omega)]; simp
  unfold atI; rw [e]; exact h
/-! ### what may be subscripted -/
/-- what stands as an index of a plain subscript -/
def PlainIx (b : Expr) : Prop := ∀ o i, subscripted b false o i = operate [o, i] (getItem o i)
/-- a subscript by values -/
def IxR (X : Cx) (r : R2) : Prop :=
  ∀ (value slice : Expr) (pins : List (Addr × Obj)) (s : Shared) (σ : St) (H : Hp) (x y : V) (v u : Value) (Q : VK), Inv X pins σ H s → RelV x v → RelV y u → r x y H Q →
    subscripted slice false v u = operate [v, u] (getItem v u) → wpAny (model X.prog X.w) X.A (subscriptTail value slice v u) (EP X pins σ Q) X.xe s
/-- a call of a builtin's method by values: the receiver, the arguments -/
def MtR (X : Cx) (id : String) (r : V → List V → Hp → VK → Prop) : Prop :=
  ∀ (pins : List (Addr × Obj)) (s : Shared) (σ : St) (H : Hp) (x : V) (xs : List V) (v : Value) (us : List Value) (Q : VK), Inv X pins σ H s → RelV x v → Vals xs us → r x xs H Q →
    wpAny (model X.prog X.w) X.A (call (.builtin id) (v :: us)) (EP X pins σ Q) X.xe s
section
variable {X : Cx} {a b : Expr} {ta tb : TE} {pos : Pos}
theorem IxR.or {r r' : R2} (h : IxR X r) (h' : IxR X r') : IxR X (fun x y H Q => r x y H Q ∨ r' x y H Q) := by
  intro value slice pins s σ H x y v u Q I rx ry q hs
  rcases q with q | q
  · exact h value slice pins s σ H x y v u Q I rx ry q hs
  · exact h' value slice pins s σ H x y v u Q I rx ry q hs
theorem MtR.or {id : String} {r r' : V → List V → Hp → VK → Prop} (h : MtR X id r) (h' : MtR X id r') : MtR X id (fun x xs H Q => r x xs H Q ∨ r' x xs H Q) := by
  intro pins s σ H x xs v us Q I rx rs q
  rcases q with q | q
  · exact h pins s σ H x xs v us Q I rx rs q
  · exact h' pins s σ H x xs v us Q I rx rs q
/-- a[b] -/
theorem pe_ix {r : R2} (hr : IxR X r) (ha : PE X a ta) (hb : PE X b tb) (hs : PlainIx b) : PE X (.Subscript a b pos) (tOp r ta tb) := by
  intro pins s σ H Q I h
  exact Subscript_ (binT ha hb I h fun v u s2 x y H2 I2 rx ry q => hr a b pins s2 σ H2 x y v u Q I2 rx ry q (hs _ _))

def rIxL (K : PySem.W.Frag) : R2 := fun x y H Q => ∃ p xs i v, x = .ref p ∧ y = .int i ∧ SqL K H p xs ∧ atI xs i = some v ∧ Q v H
def rIxT (K : PySem.W.Frag) : R2 := fun x y H Q => ∃ p xs i v, x = .ref p ∧ y = .int i ∧ SqT K H p xs ∧ atI xs i = some v ∧ Q v H
theorem ix_list : IxR X (rIxL X.K) := by
  intro value slice pins s σ H x y v u Q I rx ry h hs
  obtain ⟨p, xs, i, z, rfl, rfl, hq, he, q⟩ := h
  cases rx
  obtain ⟨t, rfl⟩ := ry
  obtain ⟨its, r, pl, hz⟩ := I.list hq
  obtain ⟨j, h1, h2, h3, h4, h5⟩ := atI_get he
  obtain ⟨w, ew, rw'⟩ := r.get h2
  have hl := r.length
  have hn := line63
  have fin : EP X pins σ Q w s := ⟨z, H, I, rw', q⟩
  by_cases h0 : 0 ≤ i
  · have hj : i.toNat = j := by
      rw [seqIndex_of h0 h5] at h1
      exact Option.some.inj h1
    exact item_listR pl.isList h0 (by omega) (by rw [hj]; simpa using ew) fin hs
  · have hj : (i + (its.toArray.size : Int)).toNat = j := by
      rw [seqIndex_neg (by omega) h4] at h1
      rw [List.size_toArray, ← hl]
      exact Option.some.inj h1
    exact subscriptTail_builtinR (x := w) pl.isList.typeIs slot_list_getitem.lookup
      (wpAny_getItem_list_neg (Q := fun r s' => r = w ∧ EP X pins σ Q r s') pl.isList (by omega) (by rw [List.size_toArray] <;> omega) (by omega) (by rw [hj]; simpa using ew) ⟨rfl, fin⟩) hs
theorem ix_tup : IxR X (rIxT X.K) := by
  intro value slice pins s σ H x y v u Q I rx ry h hs
  obtain ⟨p, xs, i, z, rfl, rfl, hq, he, q⟩ := h
  cases rx
  obtain ⟨t, rfl⟩ := ry
  obtain ⟨its, r, pl, hz⟩ := I.tuple hq
  obtain ⟨j, h1, h2, h3, h4, h5⟩ := atI_get he
  obtain ⟨w, ew, rw'⟩ := r.get h2
  have hl := r.length
  have hn := line63
  have fin : EP X pins σ Q w s := ⟨z, H, I, rw', q⟩
  exact subscriptTail_builtinR (x := w) pl.typeIs slot_tuple_getitem.lookup
    (getItem_tuple (j := j) (Q := fun r s' => r = w ∧ EP X pins σ Q r s') pl (by omega) (by omega) (by rw [List.size_toArray, ← hl]; exact h1) (by simpa using ew) ⟨rfl, fin⟩) hs
/-! ### xs[i] = v, any sign -/
theorem Inv.lst {pins : List (Addr × Obj)} {σ : St} {H : Hp} {s : Shared} {p : Addr} {xs : List V} (I : Inv X pins σ H s) (h : H p = some (.lst xs)) :
    ∃ (its : List Value) (n : Nat), Vals xs its ∧ s.heap.get? p = some { cls := .type "list", data := .seq its.toArray n } ∧ xs.length ≤ sizeLine := by
  obtain ⟨z, its, n, r, e⟩ := I.hok p _ h
  exact ⟨its, n, r, e, z⟩
/-! ### slices -/
theorem slice_bounds (lo hi : Option Int) (n : Nat) : (sliceBounds lo hi none n).1 = ((HT.sIx n 0 lo : Nat) : Int) ∧ (sliceBounds lo hi none n).2.1 = ((HT.sIx n n hi : Nat) : Int) ∧ (sliceBounds lo hi none n).2.2 = 1 := by
  refine ⟨?_, ?_, rfl⟩
  · cases lo with
    | none => simp [sliceBounds, HT.sIx]
    | some i =>
      simp only [sliceBounds, HT.sIx, Option.getD_none, show (1 : Int) > 0 by decide, if_true]
      by_cases h : i < 0
      · simp only [h, if_true] <;> omega
      · simp only [h, if_false] <;> omega
  · cases hi with
    | none => simp [sliceBounds, HT.sIx]
    | some i =>
      simp only [sliceBounds, HT.sIx, Option.getD_none, show (1 : Int) > 0 by decide, if_true]
      by_cases h : i < 0
      · simp only [h, if_true] <;> omega
      · simp only [h, if_false] <;> omega
theorem slicePick_cut (its : List Value) (lo hi : Option Int) : slicePick its.toArray lo hi none = ((its.drop (HT.sIx its.length 0 lo)).take (HT.sIx its.length its.length hi - HT.sIx its.length 0 lo)).toArray := by
  obtain ⟨h1, h2, h3⟩ := slice_bounds lo hi its.toArray.size
  unfold slicePick
  rw [h1, h2, h3]
  simp only [sliceRange_one, pick_run, List.size_toArray] <;> rfl
/-- xs[lo:hi] of a list: a new list -/
def rSlL (K : PySem.W.Frag) : V → Option Int → Option Int → Hp → VK → Prop := fun x lo hi H Q => ∃ a xs, x = .ref a ∧ SqL K H a xs ∧ ∀ p, H p = none → Q (.ref p) (upd H p (.lst (cutV xs lo hi)))
theorem sl_list : SlR X (rSlL X.K) := by
  intro pins s σ H x v vl vu lo hi sl Q I rx hs pl pu h
  obtain ⟨a, xs, rfl, hx, q⟩ := h
  cases rx
  obtain ⟨its, r, ht, hz⟩ := I.list hx
  have hlen := r.length
  refine ⟨"list", _, slot_list_getitem.lookup, ht.isList.typeIs, ?_⟩
  refine wpAny_getItem_list_slice ht.isList hs pl pu .none (by simp) ?_ (by rw [List.size_toArray] <;> omega)
  rw [slicePick_cut, ← hlen]
  refine ⟨.ref s.heap.objs.size, _, I.laid (t' := s.toks) (o := .lst (cutV xs lo hi)) (fun b ob q => Heap.get?_push_of_some _ q) (Nat.le_refl _) ?_, rfl, q _ (I.hok.fresh (Nat.le_refl _))⟩
  exact ⟨Nat.le_trans (cutV_length xs lo hi) hz, _, 0, (r.drop (HT.sIx xs.length 0 lo)).take (HT.sIx xs.length xs.length hi - HT.sIx xs.length 0 lo), Heap.get?_push_size _ rfl⟩

/-! ### in, not in: flat items -/
def flatV : V → Bool
  | .non => true
  | .bl _ => true
  | .int _ => true
  | .str _ => true
  | _ => false
/-- == of flat values -/
def eqV : V → V → Bool
  | .non, .non => true
  | .bl a, .bl b => a == b
  | .bl a, .int b => (if a then 1 else 0) == b
  | .int a, .bl b => a == (if b then 1 else 0)
  | .int a, .int b => a == b
  | .str a, .str b => a == b
  | _, _ => false
theorem eqAt_V {A : Around} {s : Shared} {y x : V} {u v : Value} (ry : RelV y u) (rx : RelV x v) (fy : flatV y = true) (fx : flatV x = true) : SeqAt.EqAt A s u v (eqV y x) := by
  cases y with
  | non =>
    cases ry
    cases x with
    | non => cases rx; exact SeqAt.EqAt.same _
    | bl b => cases rx; exact SeqAt.EqAt.none_bool b
    | int b => obtain ⟨t, rfl⟩ := rx; exact SeqAt.EqAt.none_int b t
    | str b => obtain ⟨t, rfl⟩ := rx; exact SeqAt.EqAt.none_str b t
    | _ => exact absurd (show false = true from fx) Bool.false_ne_true
  | bl a =>
    cases ry
    cases x with
    | non => cases rx; exact SeqAt.EqAt.bool_none a
    | bl b => cases rx; exact SeqAt.EqAt.bool_bool a b
    | int b => obtain ⟨t, rfl⟩ := rx; exact SeqAt.EqAt.bool_int a b t
    | str b => obtain ⟨t, rfl⟩ := rx; exact SeqAt.EqAt.bool_str a b t
    | _ => exact absurd (show false = true from fx) Bool.false_ne_true
  | int a =>
    obtain ⟨t', rfl⟩ := ry
    cases x with
    | non => cases rx; exact SeqAt.EqAt.int_none a t'
    | bl b => cases rx; exact SeqAt.EqAt.int_bool a t' b
    | int b => obtain ⟨t, rfl⟩ := rx; exact SeqAt.EqAt.int_int a t' b t
    | str b => obtain ⟨t, rfl⟩ := rx; exact SeqAt.EqAt.int_str a t' b t
    | _ => exact absurd (show false = true from fx) Bool.false_ne_true
  | str a =>
    obtain ⟨t', rfl⟩ := ry
    cases x with
    | non => cases rx; exact SeqAt.EqAt.str_none a t'
    | bl b => cases rx; exact SeqAt.EqAt.str_bool a t' b
    | int b => obtain ⟨t, rfl⟩ := rx; exact SeqAt.EqAt.str_int a t' b t
    | str b => obtain ⟨t, rfl⟩ := rx; exact SeqAt.EqAt.str_str a t' b t
    | _ => exact absurd (show false = true from fx) Bool.false_ne_true
  | _ => exact absurd (show false = true from fy) Bool.false_ne_true
/-- the items' answers, read off the values (a value's own answer does not lean on its token) -/
def eqU (x : V) (u : Value) : Bool := match u with
  | .none => eqV .non x
  | .bool b => eqV (.bl b) x
  | .int i _ => eqV (.int i) x
  | .str z _ => eqV (.str z) x
  | _ => false
theorem eqU_of {x y : V} {u : Value} (r : RelV y u) (f : flatV y = true) : eqU x u = eqV y x := by
  cases y with
  | non => cases r; rfl
  | bl b => cases r; rfl
  | int i => obtain ⟨t, rfl⟩ := r; rfl
  | str z => obtain ⟨t, rfl⟩ := r; rfl
  | _ => exact absurd (show false = true from f) Bool.false_ne_true
theorem mem_eqAt {A : Around} {s : Shared} {x : V} {v : Value} (rx : RelV x v) (fx : flatV x = true) : ∀ {xs : List V} {us : List Value}, Vals xs us → xs.all flatV = true → ∀ u ∈ us, SeqAt.EqAt A s u v (eqU x u)
  | _, _, .nil, _ => fun u hu => by cases hu
  | y :: xs, u :: us, .cons r t, f => fun u' hu => by
    rw [List.all_cons, Bool.and_eq_true] at f
    rcases List.mem_cons.mp hu with rfl | hu
    · rw [eqU_of r f.1]; exact eqAt_V r rx f.1 fx
    · exact mem_eqAt rx fx t f.2 u' hu
/-! ### len, list(x), tuple(x) of any list or tuple that is read -/
theorem call_len_seq : CallR X (.builtin "len") (fun xs H Q => ∃ p ys, xs = [.ref p] ∧ (SqL X.K H p ys ∨ SqT X.K H p ys) ∧ Q (.int ys.length) H) := by
  intro pins s σ H xs us Q I r h
  obtain ⟨p, ys, rfl, hq, q⟩ := h
  obtain ⟨u, rfl, rx⟩ := vals1 r
  cases rx
  have hn := line63
  rcases hq with hq | hq
  · obtain ⟨its, r', pl, hz⟩ := I.list hq
    have hlen := r'.length
    exact Calls.call_len_list pl.isList (by simp only [List.size_toArray] <;> omega) ⟨.int ys.length, H, I.tok _, ⟨s.toks + 1, by rw [List.size_toArray, hlen]⟩, q⟩
  · obtain ⟨its, r', pl, hz⟩ := I.tuple hq
    have hlen := r'.length
    exact len_tuple pl (by simp only [List.size_toArray] <;> omega) ⟨.int ys.length, H, I.tok _, ⟨s.toks + 1, by rw [List.size_toArray, hlen]⟩, q⟩
theorem CallR.or {f : Value} {r r' : List V → Hp → VK → Prop} (h : CallR X f r) (h' : CallR X f r') : CallR X f (fun xs H Q => r xs H Q ∨ r' xs H Q) := by
  intro pins s σ H xs us Q I rs q
  rcases q with q | q
  · exact h pins s σ H xs us Q I rs q
  · exact h' pins s σ H xs us Q I rs q
theorem call_list_of : CallR X (.type "list") (fun xs H Q => ∃ p ys, xs = [.ref p] ∧ (SqL X.K H p ys ∨ SqT X.K H p ys) ∧ ∀ l, H l = none → Q (.ref l) (upd H l (.lst ys))) := by
  intro pins s σ H xs us Q I r h
  obtain ⟨p, ys, rfl, hq, q⟩ := h
  obtain ⟨u, rfl, rx⟩ := vals1 r
  cases rx
  have fin : ∀ (its : List Value), Vals ys its → ys.length ≤ sizeLine → ∀ (h' : Heap) (c' : Nat), (∀ b o', s.heap.get? b = some o' → h'.get? b = some o') →
      h'.get? s.heap.objs.size = some { cls := .type "list", dict := none, data := .seq its.toArray c', slots := #[] } → EP X pins σ Q (.ref s.heap.objs.size) { s with heap := h' } := fun its r' hz h' c' kp e =>
    ⟨.ref s.heap.objs.size, _, I.laid (t' := s.toks) kp (Nat.le_refl _) (show ObjOk X.prog X.w _ h' _ (.lst ys) from ⟨hz, its, c', r', e⟩), rfl, q _ (I.hok.fresh (Nat.le_refl _))⟩
  rcases hq with hq | hq
  · obtain ⟨its, r', pl, hz⟩ := I.list hq
    have hlen := r'.length
    obtain ⟨o, ho, hc, n, hd⟩ := pl.isList
    exact call_list_seq p (.inl rfl) ho hc hd (fun h' c' kp e => fin its r' hz h' c' kp e) (by simp only [List.size_toArray] <;> omega)
  · obtain ⟨its, r', pl, hz⟩ := I.tuple hq
    have hlen := r'.length
    obtain ⟨o, ho, hc, n, hd⟩ := pl
    exact call_list_seq p (.inr rfl) ho hc hd (fun h' c' kp e => fin its r' hz h' c' kp e) (by simp only [List.size_toArray] <;> omega)
theorem call_tuple_of : CallR X (.type "tuple") (fun xs H Q => ∃ p ys, xs = [.ref p] ∧ ((SqL X.K H p ys ∧ ∀ l, H l = none → Q (.ref l) (upd H l (.tup ys))) ∨ (SqT X.K H p ys ∧ Q (.ref p) H))) := by
  intro pins s σ H xs us Q I r h
  obtain ⟨p, ys, rfl, h⟩ := h
  obtain ⟨u, rfl, rx⟩ := vals1 r
  cases rx
  rcases h with ⟨hq, q⟩ | ⟨hq, q⟩
  · obtain ⟨its, r', pl, hz⟩ := I.list hq
    have hlen := r'.length
    refine call_tuple_list pl.isList (fun h' kp => ?_) (by simp only [List.size_toArray] <;> omega)
    have I1 : Inv X pins σ H { s with heap := h' } := I.kept (t' := s.toks) kp
    have I2 : Inv X pins σ (upd H h'.objs.size (.tup ys)) { s with heap := h'.push { cls := .type "tuple", data := .seq its.toArray } } :=
      I1.laid (t' := s.toks) (fun b o e => Heap.get?_push_of_some _ e) (Nat.le_refl _) (show ObjOk X.prog X.w _ _ _ (.tup ys) from ⟨hz, its, r', IsTupD.new _ _⟩)
    exact ⟨.ref h'.objs.size, _, I2, rfl, q _ (I1.hok.fresh (Nat.le_refl _))⟩
  · obtain ⟨its, r', pl, hz⟩ := I.tuple hq
    exact call_tuple_same pl ⟨.ref p, H, I, rfl, q⟩

/-! ### the call of a builtin's method: o.m(..) -/
/-- the value is of that builtin type -/
def tyV (K : PySem.W.Frag) (T : String) (x : V) (H : Hp) : Prop := match x with
  | .str _ => T = "str"
  | .int _ => T = "int"
  | .ref p => (T = "list" ∧ ∃ xs, SqL K H p xs) ∨ (T = "tuple" ∧ ∃ o, K.lookup p = some o ∧ o.cls = .type "tuple" ∧ o.dict = none) ∨
      (T = "dict" ∧ ((∃ kvs, H p = some (.dK kvs)) ∨ ∃ kvs, H p = some (.dT kvs))) ∨ (T = "set" ∧ ∃ S n, H p = some (.set S n))
  | _ => False
theorem tyV_is {pins : List (Addr × Obj)} {σ : St} {H : Hp} {s : Shared} {T : String} {x : V} {v : Value} (I : Inv X pins σ H s) (r : RelV x v) (ty : tyV X.K T x H) :
    s.TypeIs v T ∧ ∀ a, v = .ref a → ∃ ob, s.heap.get? a = some ob ∧ ob.dict = none := by
  cases x with
  | str z =>
    obtain ⟨t, rfl⟩ := r
    cases (show T = "str" from ty)
    exact ⟨typeIs_str s z t, fun _ e => nomatch e⟩
  | int i =>
    obtain ⟨t, rfl⟩ := r
    cases (show T = "int" from ty)
    exact ⟨typeIs_int s i t, fun _ e => nomatch e⟩
  | ref p =>
    cases r
    rcases ty with ⟨rfl, xs, hq⟩ | ⟨rfl, o, hk, hc, hd⟩ | ⟨rfl, hk⟩ | ⟨rfl, S, n, hk⟩
    · obtain ⟨its, _, pl, _⟩ := I.list hq
      refine ⟨pl.isList.typeIs, fun a e => ?_⟩
      cases e
      obtain ⟨o, n, e, c, hd, _⟩ := pl
      exact ⟨o, e, hd⟩
    · refine ⟨⟨o, I.kIn p o hk, hc⟩, fun a e => ?_⟩
      cases e
      exact ⟨o, I.kIn _ o hk, hd⟩
    · have z : ∃ o, s.heap.get? p = some o ∧ o.ExactDict := by
        rcases hk with ⟨kvs, hk⟩ | ⟨kvs, hk⟩
        · obtain ⟨_, _, _, _, o, _, _, e, ex, _⟩ := I.hok p _ hk
          exact ⟨o, e, ex⟩
        · obtain ⟨_, _, _, _, o, _, _, e, ex, _⟩ := I.hok p _ hk
          exact ⟨o, e, ex⟩
      obtain ⟨o, e, ex⟩ := z
      refine ⟨⟨o, e, ex.1⟩, fun a e2 => ?_⟩
      cases e2
      exact ⟨o, e, ex.2.1⟩
    · obtain ⟨o, _, _, _, e, ex, _⟩ := I.hok p _ hk
      refine ⟨⟨o, e, ex.1⟩, fun a e2 => ?_⟩
      cases e2
      exact ⟨o, e, ex.2.1⟩
  | _ => exact False.elim ty
def tBM (K : PySem.W.Frag) (T : String) (r : V → List V → Hp → VK → Prop) (to : TE) (t : TA) : TE := fun σ H Q => to σ H fun x H1 => tyV K T x H1 ∧ t σ H1 fun xs H2 => r x xs H2 Q
variable {o e : Expr} {es : List Expr} {to : TE} {t : TA} {name : Str} {apos cpos : Pos} {T id : String} {r : V → List V → Hp → VK → Prop}
theorem pe_bm (pa : PlainAttrs T) (slot : Slot T name id) (hty : typeOf (.builtin id) = pure (.type "method_descriptor")) (hm : MtR X id r) (ho : PE X o to) (ha : PA X (e :: es) t)
    (hbase : attributeBase o name X.env (eval o X.env) = eval o X.env := by rfl)
    (hfew : ((backTo cpos (starEach (e :: es) X.env)).all (fun x => !x.1) && (backToKw cpos (keywordEach [] X.env)).all (fun x => x.1.isSome)
      && decide ((e :: es).length + ([] : List Keyword).length + (if ([] : List Keyword).isEmpty then 0 else 1) < 30)) = true := by rfl)
    (hline : (apos.endLine == cpos.line) = true := by rfl) (hs : starEach (e :: es) X.env = (false, eval e X.env) :: starEach es X.env := by rfl) (hplain : (backTo cpos (starEach es X.env)).any (·.1) = false := by rfl) :
    PE X (.Call (.Attribute o name apos) (e :: es) [] cpos) (tBM X.K T r to t) := by
  intro pins s σ H Q I h
  refine wpAny_Call_method_late hbase hfew hline rfl (thn (ho pins s σ H _ I h) fun v s1 ⟨x, H1, I1, r1, ty, q1⟩ => ?_)
  obtain ⟨h1, h2⟩ := tyV_is I1 r1 ty
  refine ⟨T, id, pa, slot, hty, h1, h2, ?_⟩
  have hA := ha cpos pins s1 σ H1 _ I1 q1
  rw [hs] at hA ⊢
  refine Calls.callWith_builtin (by show (false || (backTo cpos (starEach es X.env)).any (·.1)) = false; rw [hplain] <;> rfl) (Calls.evalArgs_plain ?_)
  exact thn hA fun us s2 ⟨vs, H2, I2, r2, q2⟩ => hm pins s2 σ H2 x vs v us Q I2 r1 r2 q2
/- xs.append(e), list.index on a module's tuple .. are MtR facts of 06m -/
end
end L2

namespace L2
open PySem PySem.Spec PyProof.Rows

def MtM (X : Cx) (id : String) (r : V → List V → Hp → VK → Prop) : Prop :=
  ∀ (pins : List (Addr × Obj)) (s : Shared) (σ : St) (H : Hp) (x : V) (xs : List V) (v : Value) (us : List Value) (Q : VK), Inv X pins σ H s → RelV x v → Vals xs us → r x xs H Q →
    wpAny (model X.prog X.w) X.A (call (.builtin id) (v :: us)) (EP X pins σ Q) X.xe s

/-! ### lists of values -/
theorem Vals.one : ∀ {x : V} {us : List Value}, Vals [x] us → ∃ u, us = [u] ∧ RelV x u
  | _, _, .cons r .nil => ⟨_, rfl, r⟩
theorem Vals.two : ∀ {x y : V} {us : List Value}, Vals [x, y] us → ∃ u v, us = [u, v] ∧ RelV x u ∧ RelV y v
  | _, _, _, .cons r (.cons q .nil) => ⟨_, _, rfl, r, q⟩
theorem Vals.zero : ∀ {us : List Value}, Vals [] us → us = []
  | _, .nil => rfl
theorem Vals.eraseIdx : ∀ {xs : List V} {us : List Value} (i : Nat), Vals xs us → Vals (xs.eraseIdx i) (us.eraseIdx i)
  | _, _, _, .nil => .nil
  | _, _, 0, .cons _ t => t
  | _, _, i + 1, .cons r t => .cons r (Vals.eraseIdx i t)
theorem Vals.reverse {xs : List V} {us : List Value} (h : Vals xs us) : Vals xs.reverse us.reverse := by
  induction h with
  | nil => exact .nil
  | cons r t ih => rw [List.reverse_cons, List.reverse_cons]; exact Vals.append ih (.cons r .nil)
theorem Vals.rep {xs : List V} {us : List Value} (h : Vals xs us) : ∀ k : Nat, Vals (List.replicate k xs).flatten (List.replicate k us).flatten
  | 0 => .nil
  | k + 1 => by
    rw [List.replicate_succ, List.replicate_succ, List.flatten_cons, List.flatten_cons]
    exact Vals.append h (Vals.rep h k)
section
variable {X : Cx} {pins : List (Addr × Obj)} {σ : St} {H : Hp} {s : Shared} {l b : Addr} {xs ys zs : List V}

/-! ### the two steps: a tracked list is rewritten, a new list is laid -/
theorem Inv.lset {its its' : List Value} {n : Nat} {f : Array Value → Array Value} {t' : Nat} (I : Inv X pins σ H s) (hH : H l = some (.lst xs))
    (e : s.heap.get? l = some { cls := .type "list", data := .seq its.toArray n }) (hf : f its.toArray = its'.toArray) (hv : Vals ys its') (hz : ys.length ≤ sizeLine) :
    Inv X pins σ (upd H l (.lst ys)) { s with heap := s.heap.update l (Obj.mapSeq f), toks := t' } := by
  have q := PySem.IsL.update e f
  rw [hf] at q
  refine I.write (x := l) (e := l) (by rw [hH]; exact trivial) (.inl rfl) (fun b' u hb hu => (Heap.get?_update_other s.heap (Obj.mapSeq f) (Ne.symm hb)).trans hu) ⟨_, q⟩ ?_
  exact ⟨hz, its', _, hv, q⟩
theorem Inv.lnew {its : List Value} {t' : Nat} (I : Inv X pins σ H s) (hv : Vals ys its) (hz : ys.length ≤ sizeLine) :
    Inv X pins σ (upd H s.heap.objs.size (.lst ys)) { s with heap := s.heap.push { cls := .type "list", data := .seq its.toArray }, toks := t' } :=
  I.laid (fun _ _ q => Heap.get?_push_of_some _ q) (Nat.le_refl _) ⟨hz, its, 0, hv, Heap.get?_push_size _ rfl⟩
theorem Inv.fresh (I : Inv X pins σ H s) : H s.heap.objs.size = none := I.hok.fresh (Nat.le_refl _)
theorem Inv.lstM (I : Inv X pins σ H s) (hH : H l = some (.lst xs)) : xs.length ≤ sizeLine ∧ ∃ (its : List Value) (n : Nat), Vals xs its ∧ xs.length = its.length ∧ s.heap.get? l = some { cls := .type "list", data := .seq its.toArray n } := by
  obtain ⟨z, its, n, r, e⟩ := I.hok l _ hH
  exact ⟨z, its, n, r, r.length, e⟩

theorem notLongL {n : Nat} (h : n ≤ sizeLine) : Builtin.List.listTooLong n = false := by
  unfold Builtin.List.listTooLong
  exact decide_eq_false (by omega)
end

section
variable {X : Cx}

/-! ### methods -/
def rAppend : V → List V → Hp → VK → Prop := fun x vs H Q => ∃ l xs y, x = .ref l ∧ vs = [y] ∧ H l = some (.lst xs) ∧ xs.length < sizeLine ∧ Q .non (upd H l (.lst (xs ++ [y])))
theorem mt_append : MtM X "list.append" rAppend := by
  intro pins s σ H x vs v us Q I rx rv h
  obtain ⟨l, xs, y, rfl, rfl, hH, hz, q⟩ := h
  cases rx
  obtain ⟨u, rfl, ru⟩ := rv.one
  obtain ⟨z, its, n, r, hl, e⟩ := I.lstM hH
  refine call_meets F.slot_list_append ⟨_, e, rfl⟩ F.entry_list_append (F.args_list_append_2 _ _) (PySem.list_append l its.toArray n u (by rw [List.size_toArray]; omega)) ⟨e, ?_⟩
  refine ⟨.non, _, I.lset (its' := its ++ [u]) hH e (by simp) (r.append (.cons ru .nil)) ?_, rfl, q⟩
  rw [List.length_append, List.length_singleton]
  omega

def rExtend : V → List V → Hp → VK → Prop := fun x vs H Q => ∃ l b xs zs, x = .ref l ∧ vs = [.ref b] ∧ H l = some (.lst xs) ∧ H b = some (.lst zs) ∧ xs.length + zs.length ≤ sizeLine ∧ Q .non (upd H l (.lst (xs ++ zs)))
theorem mt_extend : MtM X "list.extend" rExtend := by
  intro pins s σ H x vs v us Q I rx rv h
  obtain ⟨l, b, xs, zs, rfl, rfl, hH, hB, hz, q⟩ := h
  cases rx
  obtain ⟨u, rfl, ru⟩ := rv.one
  cases ru
  obtain ⟨z, its, n, r, hl, e⟩ := I.lstM hH
  obtain ⟨z2, its2, n2, r2, hl2, e2⟩ := I.lstM hB
  have hsz : its.toArray.size + its2.toArray.size ≤ sizeLine := by rw [List.size_toArray, List.size_toArray]; omega
  have hlong : ¬ (!its.toArray.isEmpty && Builtin.List.listTooLong (its.toArray.size + its2.toArray.size)) = true := by
    rw [notLongL hsz, Bool.and_false]
    exact Bool.false_ne_true
  refine call_meets F.slot_list_extend ⟨_, e, rfl⟩ F.entry_list_extend (F.args_list_extend_2 _ _)
    (AutoSeq1.list_extend_list_list_0 l its.toArray n b its2.toArray n2 hlong (by rw [List.size_toArray]; omega) (by omega)) ⟨e, e2, ?_⟩
  refine ⟨.non, _, I.lset (its' := its ++ its2) hH e (by simp) (r.append r2) ?_, rfl, q⟩
  rw [List.length_append]
  omega

/-! ### list + list, list += list, list * int -/
def rCat : R2 := fun x y H Q => ∃ l b xs zs, x = .ref l ∧ y = .ref b ∧ H l = some (.lst xs) ∧ H b = some (.lst zs) ∧ xs.length + zs.length ≤ sizeLine ∧ ∀ p, H p = none → Q (.ref p) (upd H p (.lst (xs ++ zs)))
theorem op_cat : OpR X (binaryOp .Add) rCat := by
  intro pins s σ H x y v u Q I rx ry h
  obtain ⟨l, b, xs, zs, rfl, rfl, hH, hB, hz, q⟩ := h
  cases rx
  cases ry
  obtain ⟨z, its, n, r, hl, e⟩ := I.lstM hH
  obtain ⟨z2, its2, n2, r2, hl2, e2⟩ := I.lstM hB
  refine PySem.P.add_list e e2 ?_ (by rw [List.size_toArray, List.size_toArray]; omega)
  have ea : its.toArray ++ its2.toArray = (its ++ its2).toArray := by simp
  rw [ea]
  exact ⟨.ref _, _, I.lnew (t' := s.toks) (r.append r2) (by rw [List.length_append]; omega), rfl, q _ I.fresh⟩
/-! ### del xs[i] -/
end

/-! ### xs[a:b] = ys -/
section
variable {prog : Program} {w : World} {A : Around} {E : Value → Shared → Prop} {s : Shared}
set_option maxRecDepth 100000 in
end

section
variable {X : Cx}
end
end L2

namespace L2
open PySem PySem.Spec PyProof.Rows

theorem Vals.ints : ∀ {ns : List Int} {us : List Value}, Vals (ns.map V.int) us → IntsAre us ns
  | [], us, h => by
    rw [List.map_nil] at h
    cases h
    exact IntsAre.nil
  | n :: ns, us, h => by
    rw [List.map_cons] at h
    cases h with
    | cons r t =>
      obtain ⟨k, rfl⟩ := r
      exact IntsAre.cons n k (Vals.ints t)
theorem vals_of_ints : ∀ {us : List Value} {ns : List Int}, IntsAre us ns → Vals (ns.map V.int) us
  | _, _, .nil => by rw [List.map_nil]; exact Paired.nil
  | _, _, .cons n t h => by rw [List.map_cons]; exact Paired.cons (show RelV (V.int n) (Value.int n t) from ⟨t, rfl⟩) (vals_of_ints h)
theorem Vals.strs : ∀ {xs : List Str} {us : List Value}, Vals (xs.map V.str) us → StrsAre us xs
  | [], us, h => by
    rw [List.map_nil] at h
    cases h
    exact StrsAre.nil
  | x :: xs, us, h => by
    rw [List.map_cons] at h
    cases h with
    | cons r t =>
      obtain ⟨k, rfl⟩ := r
      exact StrsAre.cons x k (Vals.strs t)
theorem Vals.bls : ∀ {bs : List Bool} {us : List Value}, Vals (bs.map V.bl) us → us = bs.map Value.bool
  | [], us, h => by
    rw [List.map_nil] at h
    cases h
    rfl
  | b :: bs, us, h => by
    rw [List.map_cons] at h
    cases h with
    | cons r t =>
      cases r
      rw [Vals.bls t, List.map_cons]
theorem Vals.ref1 {a : Addr} {us : List Value} (r : Vals [V.ref a] us) : us = [Value.ref a] := by
  cases r with
  | cons r t =>
    cases t
    cases r
    rfl
/-! ### the library's walks over a list of ints, kept objects alone -/
section
variable {prog : Program} {w : World} {A : Around} {E : Value → Shared → Prop} {s : Shared} {l : Addr} {its : List Value} {ns : List Int} {Q : Value → Shared → Prop}
end

/-! ### the calls, by values (CallR of 03t; MtR of 06l) -/
section
variable {X : Cx}
/-! sorted, sort (fewer than 64 items: the library's own bound) -/
theorem small64 {n : Nat} (h : n < 64) : n ≤ sizeLine := by rw [sizeLine_eq]; omega
end

/-! ### list.index, flat items -/
section
variable {X : Cx}
end

/-! ### type(x) of an own instance; is, is not of a module's class -/
section
variable {X : Cx}
end

/-! ### any(xs), all(xs) of a list of bools -/
theorem iter_any {prog : Program} {w : World} {A : Around} {E : Value → Shared → Prop} {s : Shared} {l : Addr} {items : Array Value} {Q : Value → Shared → Prop} (hl : s.heap.IsList l items)
    (h : ∀ s₂ : Shared, s₂ = { s with heap := s.heap.push { cls := .type "list_iterator", data := .fields #[.ref l, .int 0 0] } } →
      (s₂.heap.IsListIter s.heap.objs.size l 0 ∧ s₂.heap.IsList l items) → l ≠ s.heap.objs.size → Q (.ref s.heap.objs.size) s₂) : wpAny (model prog w) A (pyIter (.ref l)) Q E s := by
  have hlt : l < s.heap.objs.size := by obtain ⟨_, e, _⟩ := hl; exact Heap.lt_size e
  exact wpAny_pyIter_list hl (h _ rfl ⟨⟨_, Heap.get?_push_size _ rfl, rfl, rfl⟩, hl.push _⟩ (Nat.ne_of_lt hlt))
theorem truth_bools {prog : Program} {w : World} {A : Around} {bs : List Bool} {its : List Value} (e : its = bs.map Value.bool) :
    TruthOf prog w A (fun i v => its.toArray[i]? = some v) (fun i => bs.getD i false) := fun i v s Q E hv hq => by
  have hv' : its[i]? = some v := by simpa using hv
  rw [e, List.getElem?_map] at hv'
  obtain ⟨b, hb, rfl⟩ := Option.map_eq_some_iff.mp hv'
  have hg : bs.getD i false = b := by rw [List.getD_eq_getElem?_getD, hb] <;> rfl
  have hq' : Q (bs.getD i false) s := hq
  rw [hg] at hq'
  exact wpAny_truthy_bool hq'
theorem any_range : ∀ bs : List Bool, (List.range bs.length).any (fun i => bs.getD i false) = bs.any id
  | [] => rfl
  | b :: bs => by
    rw [List.length_cons, List.range_succ_eq_map, List.any_cons, List.any_map, List.any_cons, ← any_range bs]
    all_goals rfl
section
variable {X : Cx}
def rAny (K : PySem.W.Frag) : List V → Hp → VK → Prop := fun vs H Q => ∃ (a : Addr) (bs : List Bool), vs = [V.ref a] ∧ SqL K H a (bs.map V.bl) ∧ Q (.bl (bs.any id)) H
theorem cr_any (hc : X.calm = true) : CallR X (.builtin "any") (rAny X.K) := by
  intro pins s σ H vs us Q I r h
  obtain ⟨a, bs, rfl, hs, q⟩ := h
  obtain ⟨its, rv, hl, _⟩ := I.list hs
  rw [Vals.ref1 r]
  have hb := rv.bls
  refine call_any_walk (iter_any hl.isList fun s₂ e2 st hne => ?_)
  subst e2
  refine ⟨_, _, _, _, _, _, _, rfl, Walks.list (A := X.A.in1) (I.ok.hd hc) _ a hne its.toArray, st, truth_bools hb, fun h' tk hk => ?_⟩
  refine ⟨.bl _, H, I.kept fun b o eo => hk b o (fun hmem => ?_) (Heap.get?_push_of_some _ eo), ?_, q⟩
  · rcases List.mem_cons.mp hmem with e1 | hmem
    · exact absurd (e1 ▸ Heap.lt_size eo) (Nat.lt_irrefl _)
    · cases hmem
  · show Value.bool _ = Value.bool _
    rw [← any_range, hb, List.size_toArray, List.length_map]
end

/-! ### == and != of data at any depth: none, bools, ints, texts, lists, tuples -/
mutual
inductive Dp (K : PySem.W.Frag) (H : Hp) : V → PyData → Prop
  | non : Dp K H .non .none
  | bl (b : Bool) : Dp K H (.bl b) (.bool b)
  | int (i : Int) : Dp K H (.int i) (.int i)
  | str (x : Str) : Dp K H (.str x) (.str x)
  | lst {a : Addr} {xs : List V} {ds : List PyData} : SqL K H a xs → DpAll K H xs ds → Dp K H (.ref a) (.list ds)
  | tup {a : Addr} {xs : List V} {ds : List PyData} : SqT K H a xs → DpAll K H xs ds → Dp K H (.ref a) (.tuple ds)
inductive DpAll (K : PySem.W.Frag) (H : Hp) : List V → List PyData → Prop
  | nil : DpAll K H [] []
  | cons {v : V} {vs : List V} {d : PyData} {ds : List PyData} : Dp K H v d → DpAll K H vs ds → DpAll K H (v :: vs) (d :: ds)
end
section
variable {X : Cx} {pins : List (Addr × Obj)} {σ : St} {H : Hp} {s : Shared}
mutual
theorem Dp.reads (I : Inv X pins σ H s) : ∀ (d : PyData) (v : V) (u : Value), Dp X.K H v d → RelV v u → ∃ as, Reads s.heap u d as
  | .none, _, _, h, r => by
    cases h
    cases r
    exact ⟨_, Reads.none⟩
  | .bool b, _, _, h, r => by
    cases h
    cases r
    exact ⟨_, Reads.bool b⟩
  | .int i, _, _, h, r => by
    cases h
    obtain ⟨t, rfl⟩ := r
    exact ⟨_, Reads.int i t⟩
  | .str x, _, _, h, r => by
    cases h
    obtain ⟨t, rfl⟩ := r
    exact ⟨_, Reads.str x t⟩
  | .list ds, _, _, h, r => by
    cases h with
    | lst hs ha =>
      cases r
      obtain ⟨its, rv, ⟨o, n, ho, hc, _, hd⟩, _⟩ := I.list hs
      obtain ⟨as, hr⟩ := Dp.readsAll I ds _ its ha rv
      exact ⟨_, Reads.list ho hc hd hr⟩
  | .tuple ds, _, _, h, r => by
    cases h with
    | tup hs ha =>
      cases r
      obtain ⟨its, rv, ⟨o, ho, hc, n, hd⟩, _⟩ := I.tuple hs
      obtain ⟨as, hr⟩ := Dp.readsAll I ds _ its ha rv
      exact ⟨_, Reads.tuple ho hc hd hr⟩
  | .dict _, _, _, h, _ => by cases h
theorem Dp.readsAll (I : Inv X pins σ H s) : ∀ (ds : List PyData) (vs : List V) (us : List Value), DpAll X.K H vs ds → Vals vs us → ∃ as, ReadsAll s.heap us ds as
  | [], _, _, h, r => by
    cases h
    cases r
    exact ⟨_, ReadsAll.nil⟩
  | d :: ds, _, _, h, r => by
    cases h with
    | cons h1 h2 =>
      cases r with
      | cons r1 r2 =>
        obtain ⟨as, q1⟩ := Dp.reads I d _ _ h1 r1
        obtain ⟨bs, q2⟩ := Dp.readsAll I ds _ _ h2 r2
        exact ⟨_, ReadsAll.cons q1 q2⟩
end
end
section
variable {X : Cx}
end
end L2

namespace L2
open PySem PySem.Spec PyProof.Rows
abbrev CellAt (h : Heap) (c : Addr) (v : Option Value) : Prop := h.IsCell c v
def relS (scope sc : Scope) : Scope :=
  { scope with names := scope.names.map fun (n, k) => if (k == .free && sc.kind == .function && sc.names.lookup n == some .cell) then (n, .cell) else (n, k) }

def cloFrom (cells : List (Str × Addr)) : List (Str × NameKind) → List (Str × Addr) → List (Str × Addr)
  | [], acc => acc
  | (n, k) :: r, acc => if k == .free then cloFrom cells r ((n, (cells.lookup n).getD 0) :: acc) else cloFrom cells r acc

theorem closure_loop (env : Env) (f : Str × NameKind → List (Str × Addr) → Sem (ForInStep (List (Str × Addr))))
    (hf : ∀ n k c, f (n, k) c = if k == .free then (do let a ← cellOf env n; pure (.yield ((n, a) :: c))) else pure (.yield c)) :
    ∀ (names : List (Str × NameKind)) (acc : List (Str × Addr)), (∀ y ∈ names, y.2 = .free → ∃ c, env.cells.lookup y.1 = some c) → forIn names acc f = pure (cloFrom env.cells names acc)
  | [], acc, _ => by rw [List.forIn_nil]; rfl
  | (n, k) :: r, acc, h => by
    rw [List.forIn_cons, hf]
    have ih := fun acc => closure_loop env f hf r acc fun y hy => h y (List.mem_cons_of_mem _ hy)
    unfold cloFrom
    by_cases hk : (k == NameKind.free) = true
    · rw [if_pos hk, if_pos hk]
      obtain ⟨c, hc⟩ := h (n, k) List.mem_cons_self (by simpa using hk)
      have e : cellOf env n = pure c := by unfold cellOf; rw [hc]
      rw [e]
      have e2 : (env.cells.lookup n).getD 0 = c := by rw [hc]; rfl
      rw [e2]
      exact ih _
    · rw [if_neg hk, if_neg hk]
      exact ih _
theorem closure_ok {scope : Scope} {env : Env} (h : ∀ y ∈ scope.names, y.2 = .free → ∃ c, env.cells.lookup y.1 = some c) : closureFor scope env = pure (cloFrom env.cells scope.names []) := by
  simp only [closureFor]
  rw [closure_loop env _ (fun n k c => rfl) scope.names [] h]
  rfl

theorem mem_lookup {α : Type} : ∀ {l : List (Str × α)} {n : Str} {c : α}, (n, c) ∈ l → ∃ c', l.lookup n = some c'
  | (k, v) :: r, n, c, h => by
    rw [List.lookup_cons]
    cases hb : n == k with
    | true => exact ⟨_, rfl⟩
    | false =>
      rcases List.mem_cons.mp h with e | h
      · cases e; simp at hb
      · exact mem_lookup h

theorem cloFrom_mem {cells : List (Str × Addr)} : ∀ {names : List (Str × NameKind)} {acc : List (Str × Addr)} {n : Str} {c : Addr}, (n, c) ∈ cloFrom cells names acc → (n, c) ∈ acc ∨ ((n, .free) ∈ names ∧ c = (cells.lookup n).getD 0)
  | [], _, _, _, h => .inl h
  | (m, k) :: r, acc, n, c, h => by
    unfold cloFrom at h
    split at h
    · rename_i hk
      have hk : k = .free := by simpa using hk
      rcases cloFrom_mem h with h | ⟨h1, h2⟩
      · rcases List.mem_cons.mp h with e | h
        · cases e; exact .inr ⟨hk ▸ List.mem_cons_self, rfl⟩
        · exact .inl h
      · exact .inr ⟨List.mem_cons_of_mem _ h1, h2⟩
    · rcases cloFrom_mem h with h | ⟨h1, h2⟩
      · exact .inl h
      · exact .inr ⟨List.mem_cons_of_mem _ h1, h2⟩
theorem cloFrom_acc {cells : List (Str × Addr)} : ∀ {names : List (Str × NameKind)} {acc : List (Str × Addr)} {p : Str × Addr}, p ∈ acc → p ∈ cloFrom cells names acc
  | [], _, _, h => h
  | (m, k) :: r, acc, p, h => by
    unfold cloFrom
    split
    · exact cloFrom_acc (List.mem_cons_of_mem _ h)
    · exact cloFrom_acc h
theorem cloFrom_has {cells : List (Str × Addr)} : ∀ {names : List (Str × NameKind)} {acc : List (Str × Addr)} {n : Str}, (n, .free) ∈ names → (n, (cells.lookup n).getD 0) ∈ cloFrom cells names acc
  | (m, k) :: r, acc, n, h => by
    unfold cloFrom
    rcases List.mem_cons.mp h with e | h
    · cases e
      exact cloFrom_acc List.mem_cons_self
    · split
      · exact cloFrom_has h
      · exact cloFrom_has h

theorem cells_mem : ∀ {names : List (Str × NameKind)} {h : Heap} {acc : List (Str × Addr)} {x : Str} {c : Addr}, (x, c) ∈ cellsFrom h.objs.size names acc →
    (x, c) ∈ acc ∨ ((x, .cell) ∈ names ∧ h.objs.size ≤ c ∧ CellAt (pushCells h names) c none)
  | [], _, _, _, _, h => .inl h
  | (n, k) :: r, h, acc, x, c, hm => by
    unfold cellsFrom at hm
    unfold pushCells
    split at hm
    · rename_i hk
      rw [if_pos hk]
      have hk : k = .cell := by simpa using hk
      rw [← Heap.size_push h { cls := .type "cell", data := .cell none }] at hm
      rcases cells_mem hm with hm | ⟨h1, h2, h3⟩
      · rcases List.mem_cons.mp hm with e | hm
        · cases e
          exact .inr ⟨hk ▸ List.mem_cons_self, Nat.le_refl _, _, pushCells_keeps r _ _ _ (Heap.get?_push_size _ rfl), rfl⟩
        · exact .inl hm
      · rw [Heap.size_push] at h2
        exact .inr ⟨List.mem_cons_of_mem _ h1, Nat.le_of_succ_le h2, h3⟩
    · rename_i hk
      rw [if_neg hk]
      rcases cells_mem hm with hm | ⟨h1, h2, h3⟩
      · exact .inl hm
      · exact .inr ⟨List.mem_cons_of_mem _ h1, h2, h3⟩
theorem cells_acc : ∀ {names : List (Str × NameKind)} {n : Nat} {acc : List (Str × Addr)} {p : Str × Addr}, p ∈ acc → p ∈ cellsFrom n names acc
  | [], _, _, _, h => h
  | (m, k) :: r, n, acc, p, h => by
    unfold cellsFrom
    split
    · exact cells_acc (List.mem_cons_of_mem _ h)
    · exact cells_acc h
theorem cells_has : ∀ {names : List (Str × NameKind)} {n : Nat} {acc : List (Str × Addr)} {x : Str}, (x, .cell) ∈ names → ∃ c, (x, c) ∈ cellsFrom n names acc
  | (m, k) :: r, n, acc, x, h => by
    unfold cellsFrom
    rcases List.mem_cons.mp h with e | h
    · cases e
      exact ⟨n, cells_acc List.mem_cons_self⟩
    · split
      · exact cells_has h
      · exact cells_has h
theorem cells_inj : ∀ {names : List (Str × NameKind)} {h : Heap} {acc : List (Str × Addr)} {x y : Str} {c : Addr}, (∀ p ∈ acc, p.2 < h.objs.size) → (∀ x y c, (x, c) ∈ acc → (y, c) ∈ acc → x = y) →
    (x, c) ∈ cellsFrom h.objs.size names acc → (y, c) ∈ cellsFrom h.objs.size names acc → x = y
  | [], _, _, _, _, _, _, hi, h1, h2 => hi _ _ _ h1 h2
  | (n, k) :: r, h, acc, x, y, c, hl, hi, h1, h2 => by
    unfold cellsFrom at h1 h2
    split at h1
    · rename_i hk
      rw [if_pos hk] at h2
      rw [← Heap.size_push h { cls := .type "cell", data := .cell none }] at h1 h2
      refine cells_inj (h := h.push _) (fun p hp => ?_) (fun x y c a b => ?_) h1 h2
      · rw [Heap.size_push]
        rcases List.mem_cons.mp hp with rfl | hp
        · exact Nat.lt_succ_self _
        · exact Nat.lt_succ_of_lt (hl p hp)
      · rcases List.mem_cons.mp a with e | a <;> rcases List.mem_cons.mp b with e' | b
        · cases e; cases e'; rfl
        · cases e; exact absurd (hl _ b) (Nat.lt_irrefl _)
        · cases e'; exact absurd (hl _ a) (Nat.lt_irrefl _)
        · exact hi _ _ _ a b
    · rename_i hk
      rw [if_neg hk] at h2
      exact cells_inj hl hi h1 h2

theorem newEnv_comp {M : Model} {A : Around} {E : Value → Shared → Prop} {s : Shared} {scope : Scope} {globals : Addr} {closure : List (Str × Addr)} {qual : Str} {func : Option Addr} {code : Value} {around : Env} {builtins : Addr} {Q : Env → Shared → Prop}
    (h : Q (newEnv scope s.heap.objs.size globals (cellsFrom (s.heap.objs.size + 1) scope.names closure) qual func code (some around) builtins)
      { s with heap := pushCells (s.heap.push { cls := .type "dict", data := .dict #[] }) scope.names }) :
    wpAny M A (newFunctionEnv scope globals closure [] qual func code (some around) builtins) Q E s := by
  simp only [newFunctionEnv, Option.isSome_some, if_true]
  refine wpAny_bind (wpAny_alloc ?_)
  refine wpAny_bind (wpAny_layCells _ (fun n k c => rfl) scope.names closure _ _ ?_)
  rw [show ({ s with heap := s.heap.push { cls := .type "dict", data := .dict #[] } } : Shared).heap.objs.size = s.heap.objs.size + 1 from Heap.size_push ..]
  rw [List.forIn_nil]
  exact wpAny_bind (wpAny_pure (wpAny_pure h))

/-- every name of the written scope, in the scope that runs -/
theorem lookup_relS {sc : Scope} : ∀ {names : List (Str × NameKind)} {x : Str} {k : NameKind},
    (names.map fun (n, k) => if (k == NameKind.free && sc.kind == .function && sc.names.lookup n == some .cell) then (n, NameKind.cell) else (n, k)).lookup x = some k →
    ∃ k', names.lookup x = some k' ∧ (k = k' ∨ (k' = .free ∧ k = .cell))
  | [], _, _, h => by simp at h
  | (n, k₀) :: r, x, k, h => by
    have ih := @lookup_relS sc r x k
    have h' : List.lookup x ((if (k₀ == NameKind.free && sc.kind == .function && sc.names.lookup n == some .cell) = true then (n, NameKind.cell) else (n, k₀)) :: (r.map _)) = some k := h
    cases hx : x == n with
    | true =>
      simp only [List.lookup_cons, hx]
      by_cases hc : (k₀ == NameKind.free && sc.kind == .function && sc.names.lookup n == some .cell) = true
      · rw [if_pos hc] at h'
        simp only [List.lookup_cons, hx] at h'
        cases h'
        simp only [Bool.and_eq_true, beq_iff_eq] at hc
        exact ⟨k₀, rfl, .inr ⟨hc.1.1, rfl⟩⟩
      · rw [if_neg hc] at h'
        simp only [List.lookup_cons, hx] at h'
        cases h'
        exact ⟨_, rfl, .inl rfl⟩
    | false =>
      simp only [List.lookup_cons, hx]
      by_cases hc : (k₀ == NameKind.free && sc.kind == .function && sc.names.lookup n == some .cell) = true
      · rw [if_pos hc] at h'
        simp only [List.lookup_cons, hx] at h'
        exact ih h'
      · rw [if_neg hc] at h'
        simp only [List.lookup_cons, hx] at h'
        exact ih h'
/-- the names of a comprehension's block: its own (with their places in N), or captured -/
structure BlkOk (N : List Str) (sc scope : Scope) (own : List (Str × Nat)) : Prop where
  kind : scope.kind = .function
  uniq : ∀ y ∈ scope.names, scope.names.lookup y.1 = some y.2
  ix : ∀ p ∈ own, N[p.2]? = some p.1
  free : ∀ y ∈ scope.names, y.2 = .free → sc.names.lookup y.1 = some .cell ∨ sc.names.lookup y.1 = some .free
  own : ∀ y ∈ scope.names, y.2 = .local ∨ y.2 = .cell → y.1 ∈ own.map (·.1) ∨ y.1 ∉ N
/-- the slots of the block's own names forgotten -/
def wipe (σ : St) : List Nat → St
  | [] => σ
  | v :: vs => (wipe σ vs).set v none
theorem wipe_length (σ : St) : ∀ vs : List Nat, (wipe σ vs).length = σ.length
  | [] => rfl
  | v :: vs => by unfold wipe; rw [List.length_set, wipe_length σ vs]
theorem wipe_some {σ : St} {i : Nat} {x : V} : ∀ {vs : List Nat}, (wipe σ vs)[i]? = some (some x) → σ[i]? = some (some x) ∧ i ∉ vs
  | [], h => ⟨h, by simp⟩
  | v :: vs, h => by
    unfold wipe at h
    by_cases hi : v = i
    · subst hi
      by_cases hv : v < (wipe σ vs).length
      · rw [List.getElem?_set_self hv] at h; cases h
      · rw [List.getElem?_eq_none (by simpa using hv)] at h; cases h
    · rw [List.getElem?_set_ne hi] at h
      obtain ⟨h1, h2⟩ := wipe_some h
      exact ⟨h1, by simp only [List.mem_cons, not_or]; exact ⟨fun e => hi e.symm, h2⟩⟩

/-- the context of a block that starts at s, its iterator's objects at fp -/
abbrev Cx.blk (X : Cx) (s : Shared) (H : Hp) (scope : Scope) (cenv : Env) (fp : List Addr) : Cx := { X with s_0 := s, H_0 := H, env := cenv, outer := X.stack, ex := fp, fn := fun x => scope.names.lookup x == some .cell, pn := [], xe := fun _ _ => False }
section
variable {X : Cx} {pins : List (Addr × Obj)} {σ : St} {H : Hp} {s : Shared}
theorem block_start {scope : Scope} {own : List (Str × Nat)} {fp : List Addr} (I : Inv X pins σ H s) (ok : BlkOk X.N X.env.scope scope own) (hN : X.N.Nodup) (hfp : ∀ b ∈ fp, FpOk X pins H b ∧ b < s.heap.objs.size) :
    Inv (X.blk s H scope (compEnvC scope (cellsFrom (s.heap.objs.size + 1) scope.names (cloFrom X.env.cells scope.names [])) s.heap.objs.size X.env) fp) [] (wipe σ (own.map (·.2))) H { s with heap := pushCells (s.heap.push { cls := .type "dict", data := .dict #[] }) scope.names } := by
  have hfree : ∀ y ∈ scope.names, y.2 = .free → ∃ c, X.env.cells.lookup y.1 = some c := fun y hy e => by
    rcases ok.free y hy e with k | k
    · exact I.ok.has _ (.inl k)
    · exact I.ok.has _ (.inr k)
  generalize hcenv : compEnvC scope (cellsFrom (s.heap.objs.size + 1) scope.names (cloFrom X.env.cells scope.names [])) s.heap.objs.size X.env = cenv
  have kp : ∀ b o, s.heap.get? b = some o → (pushCells (s.heap.push { cls := .type "dict", data := .dict #[] }) scope.names).get? b = some o := fun b o e => pushCells_keeps _ _ _ _ (Heap.get?_push_of_some _ e)
  have hL : cenv.locals = s.heap.objs.size := by rw [← hcenv]; rfl
  have hcl : cenv.cells = cellsFrom (s.heap.objs.size + 1) scope.names (cloFrom X.env.cells scope.names []) := by rw [← hcenv]; rfl
  have hsc : cenv.scope = relS scope X.env.scope := by rw [← hcenv]; rfl
  rw [← Heap.size_push s.heap { cls := .type "dict", data := .dict #[] }] at hcl
  have cm : ∀ {y c}, (y, c) ∈ cloFrom X.env.cells scope.names [] → X.env.cells.lookup y = some c ∧ c < s.heap.objs.size := fun {y c} hm => by
    rcases cloFrom_mem hm with hm | ⟨h1, rfl⟩
    · cases hm
    · obtain ⟨c, hc⟩ := hfree _ h1 rfl
      rw [hc]
      obtain ⟨w, z⟩ := I.cell _ _ hc
      exact ⟨rfl, z.lt⟩
  have mem : ∀ {y c}, cenv.cells.lookup y = some c → (X.env.cells.lookup y = some c ∧ c < s.heap.objs.size) ∨ (s.heap.objs.size + 1 ≤ c ∧ CellAt (pushCells (s.heap.push { cls := .type "dict", data := .dict #[] }) scope.names) c none) := fun {y c} e => by
    rw [hcl] at e
    rcases cells_mem (PySem.mem_of_lookup e) with hm | ⟨_, h2, h3⟩
    · exact .inl (cm hm)
    · rw [Heap.size_push] at h2; exact .inr ⟨h2, h3⟩
  have look : ∀ {y}, scope.names.lookup y = some .free → ∃ c, cenv.cells.lookup y = some c ∧ X.env.cells.lookup y = some c := fun {y} hl => by
    have hy : (y, NameKind.free) ∈ scope.names := PySem.mem_of_lookup hl
    obtain ⟨c', e'⟩ := mem_lookup (cells_acc (names := scope.names) (n := (s.heap.push { cls := .type "dict", data := .dict #[] }).objs.size) (cloFrom_has (cells := X.env.cells) (acc := []) hy))
    rw [← hcl] at e'
    refine ⟨c', e', ?_⟩
    rw [hcl] at e'
    rcases cells_mem (PySem.mem_of_lookup e') with hm | ⟨h1, _, _⟩
    · exact (cm hm).1
    · have := ok.uniq _ h1
      rw [hl] at this; cases this
  have okB : (X.blk s H scope cenv fp).Ok := by
    refine ⟨I.ok.mod, by show cenv.scope.kind = _; rw [hsc]; exact ok.kind, by show cenv.globals = _; rw [← hcenv]; exact I.ok.glob, by show cenv.builtins = _; rw [← hcenv]; exact I.ok.blt, by show s.heap.objs.size ≤ cenv.locals; rw [hL]; exact Nat.le_refl _,
      fun y z c e1 e2 => ?_, fun y hy => ?_, fun y c z e => ?_, I.ok.hd, I.ok.frames, .inl rfl, fun b hb => ⟨?_, fun y c e z => ?_⟩, I.bs, Nat.le_trans I.ok.bsz I.sz, fun b o e hb => ?_, fun b hb z => ?_, I.stack, I.stkFree⟩
    · have e1 : cenv.cells.lookup y = some c := e1
      have e2 : cenv.cells.lookup z = some c := e2
      rw [hcl] at e1 e2
      refine cells_inj (fun p hp => ?_) (fun y z c a b => I.ok.inj y z c (cm a).1 (cm b).1) (PySem.mem_of_lookup e1) (PySem.mem_of_lookup e2)
      rw [Heap.size_push]
      exact Nat.lt_succ_of_lt (cm (y := p.1) (c := p.2) hp).2
    · show ∃ c, cenv.cells.lookup y = some c
      have key : ∀ k, cenv.kindOf y = some k → (k = .cell ∨ k = .free) → ∃ c, cenv.cells.lookup y = some c := fun k hk hk' => by
        unfold Env.kindOf at hk
        rw [hsc] at hk
        obtain ⟨k', e, r⟩ := lookup_relS hk
        have : k' = .cell ∨ k' = .free := by
          rcases r with rfl | ⟨rfl, _⟩
          · exact hk'
          · exact .inr rfl
        rcases this with rfl | rfl
        · obtain ⟨c, hm⟩ := cells_has (n := (s.heap.push { cls := .type "dict", data := .dict #[] }).objs.size) (acc := cloFrom X.env.cells scope.names []) (PySem.mem_of_lookup e)
          obtain ⟨c', e'⟩ := mem_lookup hm
          exact ⟨c', by rw [hcl]; exact e'⟩
        · obtain ⟨c, h1, _⟩ := look e
          exact ⟨c, h1⟩
      rcases hy with hy | hy
      · exact key _ hy (.inl rfl)
      · exact key _ hy (.inr rfl)
    · have z : (scope.names.lookup y == some NameKind.cell) = true := z
      have z : scope.names.lookup y = some .cell := by simpa using z
      have e : cenv.cells.lookup y = some c := e
      rw [hcl] at e
      rcases cells_mem (PySem.mem_of_lookup e) with hm | ⟨_, h2, _⟩
      · rcases cloFrom_mem hm with hm | ⟨h1, _⟩
        · cases hm
        · have q := ok.uniq _ h1
          rw [z] at q; cases q
      · rw [Heap.size_push] at h2
        exact Nat.le_of_succ_le h2
    · show b ≠ cenv.locals
      rw [hL]; exact Nat.ne_of_lt (hfp b hb).2
    · have e : cenv.cells.lookup y = some c := e
      rcases mem e with ⟨h1, _⟩ | ⟨h1, _⟩
      · exact (hfp b hb).1.2.2.2.2.1 y c h1 z
      · have h2 : s.heap.objs.size + 1 ≤ b := by rw [← z]; exact h1
        exact absurd (Nat.lt_of_lt_of_le (hfp b hb).2 (Nat.le_of_succ_le h2)) (Nat.lt_irrefl _)
    · rcases (hfp b hb).1.2.2.2.1 with z | z
      · exact I.ok.noex b o e z
      · exact absurd (Nat.lt_of_lt_of_le (Heap.lt_size e) (Nat.le_trans I.ok.bsz z)) (Nat.lt_irrefl _)
    · rcases List.mem_cons.mp (I.stkSub b z) with z | z
      · exact (hfp b hb).1.2.1 z
      · exact (hfp b hb).1.2.2.1 z
  refine ⟨okB, rfl, I.bare, Un.kept kp, ⟨fun _ => none, ?_, fun i y av e1 e2 e3 => ?_⟩, fun y c e => ?_, ?_, fun y c e => ?_, fun p hp => ?_, I.hok.kept kp, by rw [wipe_length]; exact I.len⟩
  · show Heap.Ns _ cenv.locals _
    rw [hL]
    exact Heap.Ns.keeps (Heap.Ns.new ..) fun b o e => pushCells_keeps _ _ _ _ e
  · obtain ⟨e2, hne⟩ := wipe_some e2
    have hfr : scope.names.lookup y = some .free ∧ (cenv.kindOf y = some .cell ∨ cenv.kindOf y = some .free) := by
      have key : ∀ k, cenv.scope.names.lookup y = some k → k = .local ∨ k = .cell ∨ k = .free → scope.names.lookup y = some .free ∧ (cenv.kindOf y = some .cell ∨ cenv.kindOf y = some .free) := fun k hk hk' => by
        have hk0 := hk
        rw [hsc] at hk
        obtain ⟨k', e, r⟩ := lookup_relS hk
        have no : ¬ (k' = .local ∨ k' = .cell) := fun hh => by
          rcases ok.own _ (PySem.mem_of_lookup e) hh with e' | e'
          · obtain ⟨p, hp, hpy⟩ := List.mem_map.mp e'
            have e3 := ok.ix p hp
            have : p.1 = y := hpy
            rw [this] at e3
            exact hne (List.mem_map.mpr ⟨p, hp, nodup_ix hN e3 e1⟩)
          · exact e' (List.mem_of_getElem? e1)
        rcases r with rfl | ⟨rfl, rfl⟩
        · rcases hk' with rfl | rfl | rfl
          · exact absurd (.inl rfl) no
          · exact absurd (.inr rfl) no
          · exact ⟨e, .inr hk0⟩
        · exact ⟨e, .inl hk0⟩
      have e3 : Vis cenv.scope y := e3
      rcases e3 with e3 | e3 | e3
      · exact key _ e3 (.inl rfl)
      · exact key _ e3 (.inr (.inl rfl))
      · exact key _ e3 (.inr (.inr rfl))
    obtain ⟨m, hn, hl⟩ := I.loc
    have hvis : Vis X.env.scope y := (ok.free _ (PySem.mem_of_lookup hfr.1) rfl).elim (fun k => .inr (.inl k)) (fun k => .inr (.inr k))
    obtain ⟨w, r, q⟩ := hl i y av e1 e2 hvis
    refine ⟨w, r, .inr ⟨hfr.2, ?_⟩⟩
    obtain ⟨c, h1, h2⟩ := look hfr.1
    rcases q with ⟨k, _⟩ | ⟨_, c', e', z⟩
    · have k : X.env.scope.names.lookup y = some .local := k
      rcases ok.free _ (PySem.mem_of_lookup hfr.1) rfl with k' | k' <;> rw [show X.env.scope.names.lookup y = _ from k'] at k <;> cases k
    · rw [h2] at e'; cases e'
      exact ⟨c, h1, z.keeps kp⟩
  · have e : cenv.cells.lookup y = some c := e
    rcases mem e with ⟨h1, _⟩ | ⟨_, z⟩
    · obtain ⟨w, z⟩ := I.cell y c h1
      exact ⟨w, z.keeps kp⟩
    · exact ⟨_, z⟩
  · show H cenv.locals = none
    rw [hL]; exact I.hok.fresh (Nat.le_refl _)
  · have e : cenv.cells.lookup y = some c := e
    rcases mem e with ⟨h1, _⟩ | ⟨h1, _⟩
    · exact I.freeC y c h1
    · exact I.hok.fresh (Nat.le_of_succ_le h1)
  · exact absurd (show p ∈ ([] : List (Addr × Obj)) ++ [] from hp) (by simp)

/-- an item appended to a tracked list -/
theorem app_ok {E : Value → Shared → Prop} {D : Addr} {xs : List V} {y : V} {v : Value} {Q : Value → Shared → Prop} (I : Inv X pins σ H s) (hD : H D = some (.lst xs)) (hz : xs.length < sizeLine) (r : RelV y v)
    (h : ∀ s', Inv X pins σ (upd H D (.lst (xs ++ [y]))) s' → Q .none s') : wpAny (model X.prog X.w) X.A (call (.builtin "list.append") [.ref D, v]) Q E s := by
  obtain ⟨hz', its, n, ri, e⟩ := I.hok D _ hD
  have hl := ri.length
  refine append_at (hsz := by rw [List.size_toArray]; omega) e fun h' sb ho' => ?_
  refine h { s with heap := h' } (I.write (t' := s.toks) (by rw [hD]; trivial) (.inl rfl) (fun b u hb q => (sb.2 b hb).trans q) ⟨_, ho'⟩ ⟨by rw [List.length_append]; exact hz, its ++ [v], n + 1, ri.append (.cons r .nil), ?_⟩)
  rw [ho']
  simp

/-- a clause's tests -/
def PTs (X : Cx) (ifs : List Expr) (t : TT) : Prop :=
  ∀ (pins : List (Addr × Obj)) (s : Shared) (σ : St) (H : Hp) (Q : Bool → Hp → Prop), Inv X pins σ H s → t σ H Q →
    wpAny (model X.prog X.w) X.A (forIn ifs true fun c r => if r = true then do let ok ← isTrue c X.env (eval c X.env); pure (ForInStep.yield ok) else pure (ForInStep.yield r)) (TP X pins σ Q) X.xe s
def tYes : TT := fun _ H Q => Q true H
theorem pts_nil : PTs X [] tYes := fun _ _ _ H _ I h => wpAny_tests_nil ⟨H, I, h⟩
theorem pts_one {c : Expr} {t : TT} (h : PT X c t) : PTs X [c] t := fun pins s σ H Q I hw => wpAny_tests_one (h pins s σ H Q I hw)
end

theorem thnF {α : Type} {t : Sem α} {Q Q' : α → Shared → Prop} {M : Model} {A : Around} {E : Value → Shared → Prop} {s : Shared} (h : wpAny M A t Q (fun _ _ => False) s) (hQ : ∀ a s, Q a s → Q' a s) : wpAny M A t Q' E s := wpAny_mono h hQ fun _ _ z => False.elim z

/-- the loop of a list comprehension's block, the target of any form (codeAny_compLoop_tests asks a target that no tuple goes to; statement and proof follow it, PyProof/CompMap.lean:41-61, with the step letOwnedTupleGo kept) -/
theorem compLoop_any {prog : Program} {w : World} {A : Around} {R : Result → Shared → Prop} {s : Shared} {elt target iter : Expr} {ifs : List Expr} {scope : Scope} {pos : Pos} {it acc : Value} {env : Env} (I : Nat → Shared → Prop)
    (turn : ∀ n s, I n s → wpAny (model prog w) A (pyNext it) (fun r s₁ => match r with
      | none => R (.ok .next) s₁
      | some v => wpAny (model prog w) A (letOwnedTupleGo target it v) (fun _ s₁' => wpAny (model prog w) A (assign target env v) (fun _ s₂ =>
          wpAny (model prog w) A (forIn ifs true fun c r => if r = true then do let ok ← isTrue c env (eval c env); pure (ForInStep.yield ok) else pure (ForInStep.yield r)) (fun ok s₃ =>
            if ok = true then wpAny (model prog w) A (eval elt env) (fun x s₄ =>
              wpAny (model prog w) A (call (.builtin "list.append") [acc, x]) (fun _ s₅ => ∃ m, m < n ∧ I m s₅) (notedBy (model prog w) A env fun e s' => R (.error e) s') s₄) (notedBy (model prog w) A env fun e s' => R (.error e) s') s₃
            else ∃ m, m < n ∧ I m s₃) (notedBy (model prog w) A env fun e s' => R (.error e) s') s₂) (notedBy (model prog w) A env fun e s' => R (.error e) s') s₁') (notedBy (model prog w) A env fun e s' => R (.error e) s') s₁) (notedBy (model prog w) A env fun e s' => R (.error e) s') s)
    (n : Nat) (h : I n s) :
    codeAny (model prog w) A (.compLoop (.ListComp elt [⟨target, iter, ifs, 0⟩] scope pos) 0 it acc env) R s := by
  refine codeAny_loop rfl I (fun n s hI => ?_) n h
  show wpAny _ A ((compTurn (.ListComp elt [⟨target, iter, ifs, 0⟩] scope pos) 0 it acc env).onRaise (fun x => do noteFrame x env; theTreesLotGoes x)) _ _ s
  refine wpAny_noted ?_
  rw [compTurn_list]
  refine wpAny_bind (wpAny_standAt (wpAny_bind (wpAny_mono (turn n s hI) (fun r s₁ h₁ => ?_) fun _ _ h' => h')))
  cases r with
  | none => exact wpAny_pure h₁
  | some v =>
    refine wpAny_bind (wpAny_mono h₁ (fun _ s₁' h₁' => ?_) fun _ _ h' => h')
    refine wpAny_bind (wpAny_mono h₁' (fun _ s₂ h₂ => wpAny_bind (wpAny_mono h₂ (fun ok s₃ h₃ => ?_) fun _ _ h' => h')) fun _ _ h' => h')
    cases ok with
    | false => exact wpAny_pure ⟨rfl, h₃⟩
    | true =>
      exact wpAny_bind (wpAny_bind (wpAny_mono h₃ (fun x s₄ h₄ => wpAny_bind (wpAny_mono h₄ (fun _ s₅ h₅ => wpAny_pure (wpAny_pure ⟨rfl, h₅⟩)) fun _ _ h' => h')) fun _ _ h' => h'))

section
variable {X : Cx}
/-- [elt for target in iter if ..]: D the new list; W by the turn and a measure, Nx what a turn is to reach -/
def tLc (wi : TI) (g : TG) (tt : TT) (te : TE) (vs : List Nat) : TE := fun σ H Q => wi σ H fun J H1 => ∀ D, H1 D = none → ∃ W : Nat → Nat → Hp → Prop, (∃ m, W 0 m (upd H1 D (.lst []))) ∧ ∀ i m H, W i m H →
  (J.stop i H ∧ Q (.ref D) H) ∨ (J.go i H ∧ ∃ Nx : Hp → Prop, (∀ H', Nx H' → ∃ m', m' < m ∧ W (i + 1) m' H') ∧ ∀ x H', J.yld i H x H' → g x (wipe σ vs) H' fun σ2 H2 => wipe σ2 vs = wipe σ vs ∧ tt σ2 H2 fun b H3 =>
    if b = true then te σ2 H3 fun y H4 => ∃ acc, H4 D = some (.lst acc) ∧ acc.length < sizeLine ∧ Nx (upd H4 D (.lst (acc ++ [y]))) else Nx H3)
theorem lc_core {pins : List (Addr × Obj)} {s : Shared} {σ : St} {H : Hp} {Q : VK} {elt tg iter : Expr} {ifs : List Expr} {scope : Scope} {own : List (Str × Nat)} {pos pos' : Pos} {wi : TI} {g : TG} {tt : TT} {te : TE} {use : Option (Value → Sem Unit)} {Qf : Value → Shared → Prop}
    (hc : X.calm = true) (hN : X.N.Nodup) (I : Inv X pins σ H s) (hi : PI X tg iter wi) (ok : BlkOk X.N X.env.scope scope own)
    (hg : ∀ (s : Shared) (H : Hp) (C : Addr) (cl : List (Str × Addr)) (fp : List Addr), PG (X.blk s H scope (compEnvC scope cl C X.env) fp) tg g) (ht : ∀ (s : Shared) (H : Hp) (C : Addr) (cl : List (Str × Addr)) (fp : List Addr), PTs (X.blk s H scope (compEnvC scope cl C X.env) fp) ifs tt)
    (he : ∀ (s : Shared) (H : Hp) (C : Addr) (cl : List (Str × Addr)) (fp : List Addr), PE (X.blk s H scope (compEnvC scope cl C X.env) fp) elt te) (hs : ∀ x, foldedSetIterable iter X.env x = pure x)
    (h : tLc wi g tt te (own.map (·.2)) σ H Q)
    (hRR : ∀ D C s' m H', Inv X pins σ H' s' → Q (.ref D) H' → s'.heap.Ns C m → FpOk X pins H' C → compPost (model X.prog X.w) X.A X.xe use Qf (.ref D) C (.ok .next) s') :
    wpAny (model X.prog X.w) X.A (comprehension (.ListComp elt [⟨tg, iter, ifs, 0⟩] scope pos) scope X.env pos' (newList []) false (eval iter X.env) use) Qf X.xe s := by
  have hfree : ∀ y ∈ scope.names, y.2 = .free → ∃ c, X.env.cells.lookup y.1 = some c := fun y hy e => by
    rcases ok.free y hy e with k | k
    · exact I.ok.has _ (.inl k)
    · exact I.ok.has _ (.inr k)
  refine wpAny_comprehension_free (use := use) rfl hs (closure_ok hfree) ok.kind (fun y hy e => by rw [ok.uniq y hy, e])
    (thn (hi pins s σ H _ I h) fun xv s1 hx => thn hx fun itv s2 h2 => ?_)
  obtain ⟨it, fp, tn, J, H2, e, I2, T, st2, f2, q⟩ := h2
  subst e
  refine wpAny_newObj_type (newEnv_comp ?_) (by show 0 ≤ sizeLine; decide)
  generalize hD : s2.heap.objs.size = D
  have hDn : H2 D = none := I2.hok.fresh (Nat.le_of_eq hD)
  obtain ⟨W, ⟨m0, w0⟩, turn⟩ := q D hDn
  -- the new list
  generalize hs3 : ({ s2 with heap := s2.heap.push { cls := .type "list", data := .seq ([] : List Value).toArray } } : Shared) = s3
  have I3 : Inv X pins σ (upd H2 D (.lst [])) s3 := by
    rw [← hs3]
    refine I2.laid (t' := s2.toks) (fun b o e => Heap.get?_push_of_some _ e) (Nat.le_of_eq hD) ⟨Nat.zero_le _, [], 0, .nil, ?_⟩
    rw [← hD]
    exact Heap.get?_push_size _ rfl
  have h3 : s3.heap = s2.heap.push { cls := .type "list", data := .seq ([] : List Value).toArray } := by rw [← hs3]
  have sz : ∀ b ∈ fp, b < s2.heap.objs.size := fun b hb => by
    obtain ⟨o, e, _⟩ := T.obj _ _ st2 b hb
    exact Heap.lt_size e
  have f3 : ∀ b ∈ fp, FpOk X pins (upd H2 D (.lst [])) b ∧ b < s3.heap.objs.size := fun b hb => by
    have hlt := sz b hb
    refine ⟨⟨?_, (f2 b hb).2⟩, by rw [h3, Heap.size_push]; exact Nat.lt_succ_of_lt hlt⟩
    rw [upd_ne (by rw [← hD]; exact Nat.ne_of_lt hlt)]
    exact (f2 b hb).1
  have st3 : tn 0 s3.heap := T.keep _ _ _ st2 fun b _ o e => by rw [h3]; exact Heap.get?_push_of_some _ e
  have I4 := block_start I3 ok hN f3
  have pg := hg s3 (upd H2 D (.lst [])) s3.heap.objs.size (cellsFrom (s3.heap.objs.size + 1) scope.names (cloFrom X.env.cells scope.names [])) fp
  have pt := ht s3 (upd H2 D (.lst [])) s3.heap.objs.size (cellsFrom (s3.heap.objs.size + 1) scope.names (cloFrom X.env.cells scope.names [])) fp
  have pe := he s3 (upd H2 D (.lst [])) s3.heap.objs.size (cellsFrom (s3.heap.objs.size + 1) scope.names (cloFrom X.env.cells scope.names [])) fp
  show codeAny _ _ (.compStart (.ListComp elt [⟨tg, iter, ifs, 0⟩] scope pos) 0 (.ref it) (.ref D) (compEnvC scope (cellsFrom (s3.heap.objs.size + 1) scope.names (cloFrom X.env.cells scope.names [])) s3.heap.objs.size X.env)) (compPost (model X.prog X.w) X.A X.xe use Qf (.ref D) s3.heap.objs.size) { s3 with heap := pushCells (s3.heap.push { cls := .type "dict", data := .dict #[] }) scope.names }
  have nfp : ∀ b ∈ fp, (upd H2 D (.lst [])) b = none := fun b hb => (f3 b hb).1.1
  generalize hce : compEnvC scope (cellsFrom (s3.heap.objs.size + 1) scope.names (cloFrom X.env.cells scope.names [])) s3.heap.objs.size X.env = ce at I4 pg pt pe ⊢
  have cL : ce.locals = s3.heap.objs.size := by subst hce; rfl
  generalize hH3 : upd H2 D (.lst []) = H3 at I3 I4 pg pt pe w0 nfp f3
  generalize hs4 : ({ s3 with heap := pushCells (s3.heap.push { cls := .type "dict", data := .dict #[] }) scope.names } : Shared) = s4 at I4 ⊢
  have st4 : tn 0 s4.heap := T.keep _ _ _ st3 fun b _ o e => by rw [← hs4]; exact pushCells_keeps _ _ _ _ (Heap.get?_push_of_some _ e)
  have stat : ∀ {σ' : St} {H' : Hp} {s' : Shared}, Inv (X.blk s3 H3 scope ce fp) [] σ' H' s' → (∀ b ∈ fp, H' b = none) → ∀ b ∈ fp, FpOk (X.blk s3 H3 scope ce fp) [] H' b := fun {σ' H' s'} I' hn b hb =>
    ⟨hn b hb, (I'.ok.exf b hb).1, I'.ok.exfs b hb, .inl hb, fun x c e => (I'.ok.exf b hb).2 x c e, fun p hp => absurd (show p ∈ ([] : List (Addr × Obj)) ++ [] from hp) (by simp)⟩
  have loop : codeAny (model X.prog X.w) X.A (.compLoop (.ListComp elt [⟨tg, iter, ifs, 0⟩] scope pos) 0 (.ref it) (.ref D) ce) (compPost (model X.prog X.w) X.A X.xe use Qf (.ref D) s3.heap.objs.size) s4 := by
    refine compLoop_any (fun n s' => ∃ i H', Inv (X.blk s3 H3 scope ce fp) [] (wipe σ (own.map (·.2))) H' s' ∧ tn i s'.heap ∧ (∀ b ∈ fp, H' b = none) ∧ W i n H') ?_ m0 ⟨0, H3, I4, st4, nfp, w0⟩
    rintro n s5 ⟨i, H5, I5, st5, n5, w5⟩
    rcases turn i n H5 w5 with ⟨stop, qq⟩ | ⟨go, Nx, hNx, step⟩
    · have td := T.done (X.blk s3 H3 scope ce fp) rfl rfl rfl hc i [] s5 _ H5 (fun _ _ => False) I5 (stat I5 n5) st5 stop
      refine thnF td fun r s6 ⟨hr, I6⟩ => ?_
      subst hr
      -- back in the def's context
      have I7 : Inv X pins σ H5 s6 := I3.call' (ch := fp) I6.os I6.base I6.hok I6.bare fun b hb => ⟨(f3 b hb).1.2.2.2.1, (f3 b hb).1.2.1, (f3 b hb).1.2.2.2.2.1, (f3 b hb).1.2.2.2.2.2⟩
      have nC : H5 s3.heap.objs.size = none := by
        have z : H5 ce.locals = none := I6.free
        rw [cL] at z
        exact z
      obtain ⟨m, hn, _⟩ := I6.loc
      have hn : s6.heap.Ns ce.locals m := hn
      rw [cL] at hn
      exact hRR D s3.heap.objs.size s6 m H5 I7 qq hn (I3.fpOk (Nat.le_refl _) nC)
    · have ti := T.item (X.blk s3 H3 scope ce fp) rfl rfl rfl hc i [] s5 _ H5 (fun _ _ => False) I5 (stat I5 n5) st5 go
      refine thnF ti fun r s6 ⟨u, hr, h6⟩ => ?_
      subst hr
      refine thnF h6 fun _ s7 ⟨x, H7, I7, r7, y7, st7, n7⟩ => ?_
      have I7' := I7.pinned (stat I7 n7) (T.obj _ _ st7)
      refine thnF (pg _ s7 _ H7 x u _ I7' r7 (step x H7 y7)) fun _ s8 ⟨σ8, H8, I8, hw8, q8⟩ => ?_
      refine thnF (pt _ s8 σ8 H8 _ I8 q8) fun b s9 ⟨H9, I9, q9⟩ => ?_
      -- the turn's end
      have fin : ∀ {s' : Shared} {H' : Hp}, Inv (X.blk s3 H3 scope ce fp) ([] ++ pinsAt fp s7.heap) σ8 H' s' → Nx H' → ∃ m, m < n ∧ ∃ i H', Inv (X.blk s3 H3 scope ce fp) [] (wipe σ (own.map (·.2))) H' s' ∧ tn i s'.heap ∧ (∀ b ∈ fp, H' b = none) ∧ W i m H' := fun {s' H'} I' nx => by
        obtain ⟨m', hm, w'⟩ := hNx H' nx
        have pin' : ∀ b ∈ fp, ∀ o, s7.heap.get? b = some o → s'.heap.get? b = some o ∧ H' b = none := fun b hb o e =>
          let z := I'.pin (b, o) (List.mem_append_right _ (List.mem_append_right _ (mem_pinsAt hb e)))
          ⟨z.1, z.2.1⟩
        have hl : (wipe σ (own.map (·.2))).length = σ8.length := by rw [← hw8, wipe_length]
        refine ⟨m', hm, i + 1, H', (I'.unpinned (pins := [])).weak hl (fun j v e => ?_), T.keep _ _ _ st7 fun b hb o e => (pin' b hb o e).1, fun b hb => ?_, w'⟩
        · rw [← hw8] at e
          exact (wipe_some e).1
        · obtain ⟨o, e, _⟩ := T.obj _ _ st7 b hb
          exact (pin' b hb o e).2
      cases b with
      | false =>
        simp only [Bool.false_eq_true, if_false] at q9 ⊢
        exact fin I9 q9
      | true =>
        simp only [if_true] at q9 ⊢
        refine thnF (pe _ s9 σ8 H9 _ I9 q9) fun z s10 ⟨yv, H10, I10, r10, acc, hD10, hz10, nx⟩ => ?_
        exact app_ok (X := X.blk s3 H3 scope ce fp) I10 hD10 hz10 r10 fun s11 I11 => fin I11 nx
  exact codeAny_compStart_list loop (T.self X.A 0 _ _ _ st4 loop)
/-- as a value -/
theorem pe_lc {elt tg iter : Expr} {ifs : List Expr} {scope : Scope} {own : List (Str × Nat)} {pos : Pos} {wi : TI} {g : TG} {tt : TT} {te : TE} (hc : X.calm = true) (hN : X.N.Nodup) (hi : PI X tg iter wi) (ok : BlkOk X.N X.env.scope scope own)
    (hg : ∀ (s : Shared) (H : Hp) (C : Addr) (cl : List (Str × Addr)) (fp : List Addr), PG (X.blk s H scope (compEnvC scope cl C X.env) fp) tg g) (ht : ∀ (s : Shared) (H : Hp) (C : Addr) (cl : List (Str × Addr)) (fp : List Addr), PTs (X.blk s H scope (compEnvC scope cl C X.env) fp) ifs tt)
    (he : ∀ (s : Shared) (H : Hp) (C : Addr) (cl : List (Str × Addr)) (fp : List Addr), PE (X.blk s H scope (compEnvC scope cl C X.env) fp) elt te) (hs : ∀ x, foldedSetIterable iter X.env x = pure x := by intro _; rfl) :
    PE X (.ListComp elt [⟨tg, iter, ifs, 0⟩] scope pos) (tLc wi g tt te (own.map (·.2))) := by
  intro pins s σ H Q I h
  rw [eval_ListComp]
  refine lc_core hc hN I hi ok hg ht he hs h fun D C s' m H' I' q hn f => ⟨m, hn, fun h'' sb => ?_⟩
  obtain ⟨f0, f1, f2, f3, f4, f5⟩ := f
  exact ⟨.ref D, H', I'.turned (t' := s'.toks) (fun b o hb e => (sb.2 b hb).trans e) f0 f1 f3 f4 f5, rfl, q⟩
/-- name = [..] on one line, the name a local -/
theorem ps_setLc {i : Nat} {y : Str} {py : Pos} {elt tg iter : Expr} {ifs : List Expr} {scope : Scope} {own : List (Str × Nat)} {pos spos : Pos} {wi : TI} {g : TG} {tt : TT} {te : TE} (hc : X.calm = true) (hN : X.N.Nodup) (hy : X.N[i]? = some y) (hyl : X.env.scope.names.lookup y = some .local)
    (hsw : swapsWith (.ListComp elt [⟨tg, iter, ifs, 0⟩] scope pos) (some (.Name y py)) spos.line X.env = pure true) (hi : PI X tg iter wi) (ok : BlkOk X.N X.env.scope scope own)
    (hg : ∀ (s : Shared) (H : Hp) (C : Addr) (cl : List (Str × Addr)) (fp : List Addr), PG (X.blk s H scope (compEnvC scope cl C X.env) fp) tg g) (ht : ∀ (s : Shared) (H : Hp) (C : Addr) (cl : List (Str × Addr)) (fp : List Addr), PTs (X.blk s H scope (compEnvC scope cl C X.env) fp) ifs tt)
    (he : ∀ (s : Shared) (H : Hp) (C : Addr) (cl : List (Str × Addr)) (fp : List Addr), PE (X.blk s H scope (compEnvC scope cl C X.env) fp) elt te) (hs : ∀ x, foldedSetIterable iter X.env x = pure x := by intro _; rfl) :
    PS X (.Assign [.Name y py] (.ListComp elt [⟨tg, iter, ifs, 0⟩] scope pos) spos) (tAsg (tLc wi g tt te (own.map (·.2))) (gName i)) := by
  intro pins s σ H D I h
  rw [exec_Assign_Name_used _ _ _ _ hsw]
  refine wpAny_bind (wpAny_standAt (wpAny_bind ?_))
  show wpAny _ X.A (do let _ ← comprehension (.ListComp elt [⟨tg, iter, ifs, 0⟩] scope pos) scope X.env (firstIterPos [⟨tg, iter, ifs, 0⟩] pos) (newList []) false (eval iter X.env) (some (assign (.Name y py) X.env))) _ _ s
  have h : tLc wi g tt te (own.map (·.2)) σ H (fun x H1 => gName i x σ H1 D.nx) := h
  refine wpAny_bind (thn (lc_core (Qf := fun _ s' => SP X pins D .next s') hc hN I hi ok hg ht he hs h fun L C s' m H' I' q hn f => ?_) fun _ s' hq => wpAny_pure (wpAny_pure hq))
  show wpAny _ _ (assign (.Name y py) X.env (.ref L)) _ _ _
  refine wpAny_assign_Name (store_ok2 (v := V.ref L) I' hN hy (.inl hyl) rfl (fun s2 I2 ⟨a, sb, ha⟩ => ?_) (.inr hyl))
  obtain ⟨f0, f1, f2, f3, f4, f5⟩ := f
  have haC : C ≠ a := by
    rcases ha with z | z
    · rw [z]; exact f1
    · exact fun e => f4 y a z e.symm
  refine ⟨m, hn.sameBut sb haC, fun h3 sb3 => ?_⟩
  exact ⟨_, H', I2.turned (t' := s2.toks) (fun b o hb e => (sb3.2 b hb).trans e) f0 f1 f3 f4 f5, q⟩
end

/-! ### the forms one uses -/
/-- over a range: Pv by the turn and the heap (the new list at D within) -/
theorem lc_range {lo : Int} {n : Nat} {g : TG} {tt : TT} {te : TE} {vs : List Nat} {σ : St} {H1 : Hp} {D : Addr} {Qd : Hp → Prop} (Pv : Nat → Hp → Prop) (h0 : Pv 0 (upd H1 D (.lst [])))
    (hs : ∀ i H, i < n → Pv i H → g (.int (lo + i)) (wipe σ vs) H fun σ2 H2 => wipe σ2 vs = wipe σ vs ∧ tt σ2 H2 fun b H3 =>
      if b = true then te σ2 H3 fun y H4 => ∃ acc, H4 D = some (.lst acc) ∧ acc.length < sizeLine ∧ Pv (i + 1) (upd H4 D (.lst (acc ++ [y]))) else Pv (i + 1) H3) (hd : ∀ H, Pv n H → Qd H) :
    ∃ W : Nat → Nat → Hp → Prop, (∃ m, W 0 m (upd H1 D (.lst []))) ∧ ∀ i m H, W i m H →
      ((Itr lo n).stop i H ∧ Qd H) ∨ ((Itr lo n).go i H ∧ ∃ Nx : Hp → Prop, (∀ H', Nx H' → ∃ m', m' < m ∧ W (i + 1) m' H') ∧ ∀ x H', (Itr lo n).yld i H x H' → g x (wipe σ vs) H' fun σ2 H2 => wipe σ2 vs = wipe σ vs ∧ tt σ2 H2 fun b H3 =>
        if b = true then te σ2 H3 fun y H4 => ∃ acc, H4 D = some (.lst acc) ∧ acc.length < sizeLine ∧ Nx (upd H4 D (.lst (acc ++ [y]))) else Nx H3) := by
  refine ⟨fun i m H => m = n - i ∧ i ≤ n ∧ Pv i H, ⟨n, by simp, Nat.zero_le _, h0⟩, ?_⟩
  rintro i m H ⟨rfl, hi, p⟩
  by_cases hlt : i < n
  · refine .inr ⟨hlt, Pv (i + 1), fun H' p' => ⟨n - (i + 1), by omega, rfl, hlt, p'⟩, fun x H' y => ?_⟩
    obtain ⟨e, y⟩ := y
    subst e y
    exact hs i _ hlt p
  · have e : i = n := by omega
    subst e
    exact .inl ⟨Nat.le_refl _, hd H p⟩
/-- over a list that the block leaves as it is -/
theorem lc_list {K : PySem.W.Frag} {a : Addr} {xs : List V} {g : TG} {tt : TT} {te : TE} {vs : List Nat} {σ : St} {H1 : Hp} {D : Addr} {Qd : Hp → Prop} (Pv : Nat → Hp → Prop) (h0 : Pv 0 (upd H1 D (.lst []))) (hl : ∀ i H, i ≤ xs.length → Pv i H → SqL K H a xs)
    (hs : ∀ i x H, xs[i]? = some x → Pv i H → g x (wipe σ vs) H fun σ2 H2 => wipe σ2 vs = wipe σ vs ∧ tt σ2 H2 fun b H3 =>
      if b = true then te σ2 H3 fun y H4 => ∃ acc, H4 D = some (.lst acc) ∧ acc.length < sizeLine ∧ Pv (i + 1) (upd H4 D (.lst (acc ++ [y]))) else Pv (i + 1) H3) (hd : ∀ H, Pv xs.length H → Qd H) :
    ∃ W : Nat → Nat → Hp → Prop, (∃ m, W 0 m (upd H1 D (.lst []))) ∧ ∀ i m H, W i m H →
      ((Itl K a).stop i H ∧ Qd H) ∨ ((Itl K a).go i H ∧ ∃ Nx : Hp → Prop, (∀ H', Nx H' → ∃ m', m' < m ∧ W (i + 1) m' H') ∧ ∀ x H', (Itl K a).yld i H x H' → g x (wipe σ vs) H' fun σ2 H2 => wipe σ2 vs = wipe σ vs ∧ tt σ2 H2 fun b H3 =>
        if b = true then te σ2 H3 fun y H4 => ∃ acc, H4 D = some (.lst acc) ∧ acc.length < sizeLine ∧ Nx (upd H4 D (.lst (acc ++ [y]))) else Nx H3) := by
  refine ⟨fun i m H => m = xs.length - i ∧ i ≤ xs.length ∧ Pv i H, ⟨xs.length, by simp, Nat.zero_le _, h0⟩, ?_⟩
  rintro i m H ⟨rfl, hi, p⟩
  have q := hl i H hi p
  by_cases hlt : i < xs.length
  · refine .inr ⟨⟨xs, xs[i], q, by simp [hlt]⟩, Pv (i + 1), fun H' p' => ⟨xs.length - (i + 1), by omega, rfl, hlt, p'⟩, fun x H' y => ?_⟩
    obtain ⟨e, y⟩ := y
    subst e
    exact hs i x _ (y xs q) p
  · have e : i = xs.length := by omega
    subst e
    exact .inl ⟨⟨xs, q, Nat.le_refl _⟩, hd H p⟩
/-- over a tuple -/
theorem lc_tup {K : PySem.W.Frag} {a : Addr} {xs : List V} {g : TG} {tt : TT} {te : TE} {vs : List Nat} {σ : St} {H1 : Hp} {D : Addr} {Qd : Hp → Prop} (Pv : Nat → Hp → Prop) (h0 : Pv 0 (upd H1 D (.lst []))) (hl : ∀ i H, i ≤ xs.length → Pv i H → SqT K H a xs)
    (hs : ∀ i x H, xs[i]? = some x → Pv i H → g x (wipe σ vs) H fun σ2 H2 => wipe σ2 vs = wipe σ vs ∧ tt σ2 H2 fun b H3 =>
      if b = true then te σ2 H3 fun y H4 => ∃ acc, H4 D = some (.lst acc) ∧ acc.length < sizeLine ∧ Pv (i + 1) (upd H4 D (.lst (acc ++ [y]))) else Pv (i + 1) H3) (hd : ∀ H, Pv xs.length H → Qd H) :
    ∃ W : Nat → Nat → Hp → Prop, (∃ m, W 0 m (upd H1 D (.lst []))) ∧ ∀ i m H, W i m H →
      ((Itt K a).stop i H ∧ Qd H) ∨ ((Itt K a).go i H ∧ ∃ Nx : Hp → Prop, (∀ H', Nx H' → ∃ m', m' < m ∧ W (i + 1) m' H') ∧ ∀ x H', (Itt K a).yld i H x H' → g x (wipe σ vs) H' fun σ2 H2 => wipe σ2 vs = wipe σ vs ∧ tt σ2 H2 fun b H3 =>
        if b = true then te σ2 H3 fun y H4 => ∃ acc, H4 D = some (.lst acc) ∧ acc.length < sizeLine ∧ Nx (upd H4 D (.lst (acc ++ [y]))) else Nx H3) := by
  refine ⟨fun i m H => m = xs.length - i ∧ i ≤ xs.length ∧ Pv i H, ⟨xs.length, by simp, Nat.zero_le _, h0⟩, ?_⟩
  rintro i m H ⟨rfl, hi, p⟩
  have q := hl i H hi p
  by_cases hlt : i < xs.length
  · refine .inr ⟨⟨xs, xs[i], q, by simp [hlt]⟩, Pv (i + 1), fun H' p' => ⟨xs.length - (i + 1), by omega, rfl, hlt, p'⟩, fun x H' y => ?_⟩
    obtain ⟨e, y⟩ := y
    subst e
    exact hs i x _ (y xs q) p
  · have e : i = xs.length := by omega
    subst e
    exact .inl ⟨⟨xs, q, Nat.le_refl _⟩, hd H p⟩
def blkC (N : List Str) (sc scope : Scope) (own : List (Str × Nat)) : Bool :=
  (match scope.kind with | .function => true | _ => false) && (scope.names.all fun y => decide (scope.names.lookup y.1 = some y.2)) && (own.all fun p => decide (N[p.2]? = some p.1)) &&
    (scope.names.all fun y => match y.2 with
      | .free => (match sc.names.lookup y.1 with | some .cell => true | some .free => true | _ => false)
      | .local => decide (y.1 ∈ own.map (·.1)) || decide (y.1 ∉ N)
      | .cell => decide (y.1 ∈ own.map (·.1)) || decide (y.1 ∉ N)
      | _ => true)
theorem blkOk_by {N : List Str} {sc scope : Scope} {own : List (Str × Nat)} (h : blkC N sc scope own = true) : BlkOk N sc scope own := by
  unfold blkC at h
  simp only [Bool.and_eq_true, List.all_eq_true, decide_eq_true_eq] at h
  obtain ⟨⟨⟨h1, h2⟩, h3⟩, h4⟩ := h
  refine ⟨?_, h2, h3, fun y hy e => ?_, fun y hy e => ?_⟩
  · split at h1
    · assumption
    · cases h1
  · have q := h4 y hy
    simp only [e] at q
    split at q <;> first | exact .inl (by assumption) | exact .inr (by assumption) | cases q
  · have q := h4 y hy
    rcases e with e | e <;> (simp only [e, Bool.or_eq_true, decide_eq_true_eq] at q; exact q)
end L2

namespace L2
open PySem PySem.Spec PyProof.Rows

section
variable {prog : Program} {w : World} {A : Around} {R : Result → Shared → Prop} {s : Shared} {elt t0 i0 t1 i1 : Expr} {ifs0 ifs1 : List Expr} {scope : Scope} {pos : Pos} {it acc : Value} {env : Env}
end

section
variable {X : Cx}
end
end L2

namespace L2
open PySem PySem.Spec PyProof.Rows

/-! ### lists of pairs as tables -/
section
variable {κ : Type} [DecidableEq κ]
def valV (kvs : List (κ × V)) (k : κ) : Option V := (kvs.find? fun kv => decide (kv.1 = k)).map (·.2)
/-- in its place, or at the end -/
def putK (kvs : List (κ × V)) (k : κ) (v : V) : List (κ × V) :=
  if (kvs.any fun kv => decide (kv.1 = k)) = true then kvs.map (fun kv => if kv.1 = k then (kv.1, v) else kv) else kvs ++ [(k, v)]
def dropK (kvs : List (κ × V)) (k : κ) : List (κ × V) := kvs.filter fun kv => decide (kv.1 ≠ k)

theorem valV_pos {p : κ × V} {r : List (κ × V)} {k : κ} (e : p.1 = k) : valV (p :: r) k = some p.2 := by simp [valV, List.find?_cons, e]
theorem valV_neg {p : κ × V} {r : List (κ × V)} {k : κ} (e : ¬ p.1 = k) : valV (p :: r) k = valV r k := by simp [valV, List.find?_cons, e]
theorem valV_any (k : κ) : ∀ kvs : List (κ × V), (kvs.any fun kv => decide (kv.1 = k)) = (valV kvs k).isSome
  | [] => rfl
  | p :: r => by
    rw [List.any_cons]
    by_cases e : p.1 = k
    · simp only [valV_pos e, decide_eq_true e, Bool.true_or, Option.isSome_some]
    · rw [valV_neg e, decide_eq_false e, Bool.false_or]; exact valV_any k r
theorem length_putK (kvs : List (κ × V)) (k : κ) (v : V) : (putK kvs k v).length ≤ kvs.length + 1 := by
  unfold putK
  split
  · rw [List.length_map]; omega
  · rw [List.length_append, List.length_cons, List.length_nil]; omega
theorem RelO.isSome_eq {o : Option V} {u : Option Value} (r : RelO o u) : o.isSome = u.isSome := by
  cases o with
  | none => cases u with
    | none => rfl
    | some _ => exact (show False from r).elim
  | some _ => cases u with
    | none => exact (show False from r).elim
    | some _ => rfl
theorem RelO.getD {o : Option V} {u : Option Value} {d : V} {d' : Value} (r : RelO o u) (rd : RelV d d') : RelV (o.getD d) (u.getD d') := by
  cases o with
  | none => cases u with
    | none => exact rd
    | some _ => exact (show False from r).elim
  | some _ => cases u with
    | none => exact (show False from r).elim
    | some _ => exact r

/-- raw tables of the same keys -/
theorem KV.val {kvs : List (κ × V)} {vs : List (κ × Value)} (r : KV kvs vs) (k : κ) : RelO (valV kvs k) (valueAt vs k) := by
  unfold KV at r
  induction r with
  | nil => exact True.intro
  | @cons p q ps qs h t ih =>
    obtain ⟨h1, h2⟩ := h
    by_cases e : p.1 = k
    · have e' : q.1 = k := h1.symm.trans e
      have b : valueAt (q :: qs) k = some q.2 := by simp [valueAt, List.find?_cons, e']
      rw [valV_pos e, b]; exact h2
    · have e' : ¬ q.1 = k := fun z => e (h1.trans z)
      have b : valueAt (q :: qs) k = valueAt qs k := by simp [valueAt, List.find?_cons, e']
      rw [valV_neg e, b]; exact ih
theorem KV.any {kvs : List (κ × V)} {vs : List (κ × Value)} (r : KV kvs vs) (k : κ) : (kvs.any fun kv => decide (kv.1 = k)) = vs.any fun kv => decide (kv.1 = k) := by
  unfold KV at r
  induction r with
  | nil => rfl
  | cons h t ih => rw [List.any_cons, List.any_cons, ih, h.1]
theorem KV.repl {kvs : List (κ × V)} {vs : List (κ × Value)} (r : KV kvs vs) (k : κ) {y : V} {u : Value} (ry : RelV y u) :
    KV (kvs.map fun kv => if kv.1 = k then (kv.1, y) else kv) (vs.map fun kv => if kv.1 = k then (kv.1, u) else kv) := by
  unfold KV at r ⊢
  induction r with
  | nil => exact .nil
  | @cons p q ps qs h t ih =>
    rw [List.map_cons, List.map_cons]
    refine .cons ?_ ih
    obtain ⟨h1, h2⟩ := h
    by_cases e : p.1 = k
    · rw [if_pos e, if_pos (h1.symm.trans e)]; exact ⟨h1, ry⟩
    · rw [if_neg e, if_neg (fun z => e (h1.trans z))]; exact ⟨h1, h2⟩
theorem KV.put {kvs : List (κ × V)} {vs : List (κ × Value)} (r : KV kvs vs) (k : κ) {y : V} {u : Value} (ry : RelV y u) : KV (putK kvs k y) (stored vs k u) := by
  unfold putK stored
  rw [r.any k]
  by_cases e : (vs.any fun kv => decide (kv.1 = k)) = true
  · rw [if_pos e, if_pos e]; exact r.repl k ry
  · rw [if_neg e, if_neg e]; exact Paired.snoc r ⟨rfl, ry⟩
theorem KV.drop {kvs : List (κ × V)} {vs : List (κ × Value)} (r : KV kvs vs) (k : κ) : KV (dropK kvs k) (without vs k) := by
  unfold KV at r ⊢
  unfold dropK without
  induction r with
  | nil => exact .nil
  | @cons p q ps qs h t ih =>
    obtain ⟨h1, h2⟩ := h
    rw [List.filter_cons, List.filter_cons]
    by_cases e : p.1 = k
    · have a : ¬ decide (p.1 ≠ k) = true := by simp [e]
      have b : ¬ decide (q.1 ≠ k) = true := by simp [h1.symm.trans e]
      rw [if_neg a, if_neg b]; exact ih
    · have e' : ¬ q.1 = k := fun z => e (h1.trans z)
      have a : decide (p.1 ≠ k) = true := by simp [e]
      have b : decide (q.1 ≠ k) = true := by simp [e']
      rw [if_pos a, if_pos b]; exact .cons ⟨h1, h2⟩ ih
theorem KV.keys {kvs : List (κ × V)} {vs : List (κ × Value)} (r : KV kvs vs) : kvs.map (·.1) = vs.map (·.1) := by
  unfold KV at r
  induction r with
  | nil => rfl
  | cons h t ih => rw [List.map_cons, List.map_cons, ih, h.1]
theorem KV.length {kvs : List (κ × V)} {vs : List (κ × Value)} (r : KV kvs vs) : kvs.length = vs.length := Paired.length r
end


/-! ### a tracked dict, its keys ints and texts or tuples of these -/
theorem kV_is {P : Program} {w : World} {k : Key} {u : Value} (r : RelV (kV k) u) : (mixKind P w).is k u = true := by
  cases k with
  | inl i => obtain ⟨t, e⟩ := (show ∃ t, u = Value.int i t from r); subst e; exact mixKind_int P w i t
  | inr x => obtain ⟨t, e⟩ := (show ∃ t, u = Value.str x t from r); subst e; exact mixKind_str P w x t
theorem items_are {P : Program} {w : World} : ∀ {ks : List Key} {us : List Value}, Vals (ks.map kV) us → ItemsAre (mixKind P w) ks us
  | [], _, r => by rw [List.map_nil] at r; cases r; exact .nil
  | k :: ks, _, r => by
    rw [List.map_cons] at r
    cases r with
    | cons h t => exact .cons (kV_is h) (items_are t)

/-- raw entries of a dict with tuple keys -/
abbrev KT (H : Hp) : List (List Key × V) → List (List Key × Addr × Value) → Prop := Paired fun p q => p.1 = q.1 ∧ H q.2.1 = some (.tup (p.1.map kV)) ∧ RelV p.2 q.2.2
theorem KT.val {H : Hp} {kvs : List (List Key × V)} {xs : List (List Key × Addr × Value)} (r : KT H kvs xs) (k : List Key) : RelO (valV kvs k) ((atKey xs k).map (·.2)) := by
  induction r with
  | nil => exact True.intro
  | @cons p q ps qs h t ih =>
    obtain ⟨h1, _, h2⟩ := h
    by_cases e : p.1 = k
    · have e' : q.1 = k := h1.symm.trans e
      have b : atKey (q :: qs) k = some q.2 := by simp [atKey, List.find?_cons, e']
      rw [valV_pos e, b]; exact h2
    · have e' : ¬ q.1 = k := fun z => e (h1.trans z)
      have b : atKey (q :: qs) k = atKey qs k := by simp [atKey, List.find?_cons, e']
      rw [valV_neg e, b]; exact ih
theorem KT.repl {H : Hp} {kvs : List (List Key × V)} {xs : List (List Key × Addr × Value)} (r : KT H kvs xs) (k : List Key) {y : V} {u : Value} (ry : RelV y u) :
    KT H (kvs.map fun kv => if kv.1 = k then (kv.1, y) else kv) (xs.map (putAt k u)) := by
  induction r with
  | nil => exact .nil
  | @cons p q ps qs h t ih =>
    rw [List.map_cons, List.map_cons]
    refine .cons ?_ ih
    obtain ⟨h1, h2, h3⟩ := h
    unfold putAt
    by_cases e : p.1 = k
    · rw [if_pos e, if_pos (h1.symm.trans e)]; exact ⟨h1, h2, ry⟩
    · rw [if_neg e, if_neg (fun z => e (h1.trans z))]; exact ⟨h1, h2, h3⟩
theorem KT.put {H : Hp} {kvs : List (List Key × V)} {xs : List (List Key × Addr × Value)} (r : KT H kvs xs) (k : List Key) {b : Addr} {y : V} {u : Value} (hb : H b = some (.tup (k.map kV))) (ry : RelV y u) :
    KT H (putK kvs k y) (storedH xs k b u) := by
  have e : (kvs.any fun kv => decide (kv.1 = k)) = (atKey xs k).isSome := by
    rw [valV_any, (r.val k).isSome_eq, Option.isSome_map]
  unfold putK storedH
  rw [e]
  by_cases q : (atKey xs k).isSome = true
  · rw [if_pos q, if_pos q]; exact r.repl k ry
  · rw [if_neg q, if_neg q]; exact Paired.snoc r ⟨rfl, hb, ry⟩
theorem KT.keeps {H H' : Hp} {kvs : List (List Key × V)} {xs : List (List Key × Addr × Value)} (r : KT H kvs xs) (ht : ∀ b ys, H b = some (.tup ys) → H' b = some (.tup ys)) : KT H' kvs xs :=
  Paired.mapP r fun _ _ z => ⟨z.1, ht _ _ z.2.1, z.2.2⟩

section
variable {P : Program} {w : World} {H : Hp} {h : Heap} {a : Addr}
theorem rd_of {u : HO} (ok : HOk P w H h) (e : Rd H a u) : ObjOk P w H h a u := e.ok ok
theorem dk_rd {kvs : List (Key × V)} (ok : HOk P w H h) (e : Rd H a (.dK kvs)) : kvs.length ≤ sizeLine ∧ (a == sysModules) = false ∧ ∃ vs, KV kvs vs ∧ h.DictOf (mixKind P w) a vs :=
  show ObjOk P w H h a (.dK kvs) from rd_of ok e
theorem dk_of {kvs : List (Key × V)} (ok : HOk P w H h) (e : H a = some (.dK kvs)) : kvs.length ≤ sizeLine ∧ (a == sysModules) = false ∧ ∃ vs, KV kvs vs ∧ h.DictOf (mixKind P w) a vs := dk_rd ok (.inl e)
/-- a tracked tuple of ints and texts is a key -/
theorem key_of {ks : List Key} (ok : HOk P w H h) (e : H a = some (.tup (ks.map kV))) : (tupleKind (mixKind P w)).is h ks a := by
  obtain ⟨_, its, r, o, h1, h2, n, h3⟩ := (show ObjOk P w H h a (.tup (ks.map kV)) from ok a _ e)
  exact ⟨o, its.toArray, n, h1, h2, congrArg Prod.fst h3, by simpa using items_are r⟩
theorem dt_rd {kvs : List (List Key × V)} (ok : HOk P w H h) (e : Rd H a (.dT kvs)) : kvs.length ≤ sizeLine ∧ (a == sysModules) = false ∧
    ∃ xs, KT H kvs xs ∧ h.DictOfH (tupleKind (mixKind P w)) a xs := by
  obtain ⟨z, y, xs, r, o, es, ep, h1, h2, h3, h4, h5⟩ := (show ObjOk P w H h a (.dT kvs) from rd_of ok e)
  refine ⟨z, y, xs, r, o, es, ep, h1, h2, h3, h4, fun x hx => ?_, h5⟩
  have all : ∀ {l : List (List Key × V)} {m : List (List Key × Addr × Value)}, KT H l m → ∀ x ∈ m, (tupleKind (mixKind P w)).is h x.1 x.2.1 := by
    intro l m q
    induction q with
    | nil => intro x hx; exact nomatch hx
    | @cons p q ps qs hq t ih =>
      intro x hx
      rcases List.mem_cons.mp hx with e | hx
      · subst e
        exact key_of ok (by rw [← hq.1]; exact hq.2.1)
      · exact ih x hx
  exact all r x hx
theorem dt_of {kvs : List (List Key × V)} (ok : HOk P w H h) (e : H a = some (.dT kvs)) : kvs.length ≤ sizeLine ∧ (a == sysModules) = false ∧
    ∃ xs, KT H kvs xs ∧ h.DictOfH (tupleKind (mixKind P w)) a xs := dt_rd ok (.inl e)
end

/-- what the dict at a holds at the key y -/
def DGet (H : Hp) (a : Addr) (y : V) (r : Option V) : Prop :=
  (∃ kvs k, Rd H a (.dK kvs) ∧ y = kV k ∧ r = valV kvs k) ∨ ∃ kvs k b, Rd H a (.dT kvs) ∧ y = .ref b ∧ H b = some (.tup (k.map kV)) ∧ r = valV kvs k
/-- the heap behind a[y] = v -/
def DPut (H : Hp) (a : Addr) (y v : V) (H' : Hp) : Prop :=
  (∃ kvs k, H a = some (.dK kvs) ∧ y = kV k ∧ kvs.length < sizeLine ∧ H' = upd H a (.dK (putK kvs k v))) ∨
  ∃ kvs k b, H a = some (.dT kvs) ∧ y = .ref b ∧ H b = some (.tup (k.map kV)) ∧ kvs.length < sizeLine ∧ H' = upd H a (.dT (putK kvs k v))
theorem DGet.k {H : Hp} {a : Addr} {kvs : List (Key × V)} {k : Key} (e : H a = some (.dK kvs)) : DGet H a (kV k) (valV kvs k) := .inl ⟨kvs, k, .inl e, rfl, rfl⟩
theorem DGet.t {H : Hp} {a b : Addr} {kvs : List (List Key × V)} {k : List Key} (e : H a = some (.dT kvs)) (eb : H b = some (.tup (k.map kV))) : DGet H a (.ref b) (valV kvs k) := .inr ⟨kvs, k, b, .inl e, rfl, eb, rfl⟩
theorem DPut.k {H : Hp} {a : Addr} {kvs : List (Key × V)} {k : Key} {v : V} (e : H a = some (.dK kvs)) (hl : kvs.length < sizeLine) : DPut H a (kV k) v (upd H a (.dK (putK kvs k v))) := .inl ⟨kvs, k, e, rfl, hl, rfl⟩
theorem DPut.t {H : Hp} {a b : Addr} {kvs : List (List Key × V)} {k : List Key} {v : V} (e : H a = some (.dT kvs)) (eb : H b = some (.tup (k.map kV))) (hl : kvs.length < sizeLine) :
    DPut H a (.ref b) v (upd H a (.dT (putK kvs k v))) := .inr ⟨kvs, k, b, e, rfl, eb, hl, rfl⟩


section
variable {X : Cx} {pins : List (Addr × Obj)} {σ : St} {H : Hp} {s : Shared} {a : Addr} {y v : V} {u r : Value} {o : Option V} {A : Around} {E : Value → Shared → Prop}

theorem Inv.big (I : Inv X pins σ H s) : sysModules < s.heap.objs.size := by
  have h : mainGlobals < s.heap.objs.size := (I.mod.glob.keeps I.bk).lt
  exact Nat.lt_trans (by decide) h

/-- a dict's object is replaced -/
theorem d_write {h' : Heap} {t' : Nat} {ob : HO} (I : Inv X pins σ H s) (mu : Mut (H a)) (hs : Heap.SameBut a s.heap h') (he : ∃ q, h'.get? a = some q) (new : ObjOk X.prog X.w (upd H a ob) h' a ob) :
    Inv X pins σ (upd H a ob) { s with heap := h', toks := t' } :=
  I.write (x := a) (e := a) mu (.inl rfl) (fun b q hb z => (hs.2 b hb).trans z) he new
theorem dk_new {P : Program} {w : World} {H' : Hp} {h' : Heap} {kvs : List (Key × V)} {vs : List (Key × Value)} (z : kvs.length ≤ sizeLine) (hd : (a == sysModules) = false) (rel : KV kvs vs) (dd : h'.DictOf (mixKind P w) a vs) :
    ObjOk P w H' h' a (.dK kvs) := ⟨z, hd, vs, rel, dd⟩
/-- d[y] = v -/
theorem d_setItem {H' : Hp} {Q : Unit → Shared → Prop} (hu : A.units + 1 < cLine) (I : Inv X pins σ H s) (g : DPut H a y v H') (ry : RelV y u) (rv : RelV v r) (h : ∀ s', Inv X pins σ H' s' → Q () s') :
    wpAny (model X.prog X.w) A (setItem (.ref a) u r) Q E s := by
  rcases g with ⟨kvs, k, e, ey, l, eH⟩ | ⟨kvs, k, b, e, ey, eb, l, eH⟩
  · subst ey eH
    obtain ⟨z, hd, vs, rel, dd⟩ := dk_of I.hok e
    have hz : vs.length ≤ sizeLine := by rw [← rel.length]; exact z
    have hl : (putK kvs k v).length ≤ sizeLine := by have := length_putK kvs k v; omega
    refine wpAny_setItem_pairs (hsz := hz) (kV_is ry) dd fun h' dd' hs => h _ ?_
    have he : ∃ q, h'.get? a = some q := let ⟨q, _, _, hq, _⟩ := dd'; ⟨q, hq⟩
    exact d_write I (by rw [e]; exact True.intro) hs he (dk_new hl hd (rel.put k rv) dd')
  · subst ey eH
    cases (show u = Value.ref b from ry)
    obtain ⟨z, hd, xs, rel, dd⟩ := dt_of I.hok e
    have hz : xs.length ≤ sizeLine := by rw [← Paired.length rel]; exact z
    have hl : (putK kvs k v).length ≤ sizeLine := by have := length_putK kvs k v; omega
    refine wpAny_setItem_heap (hsz := hz) (tupleKind_room_in1 hu) (key_of I.hok eb) dd fun h' dd' hs => h _ ?_
    obtain ⟨q, es, ep, hq, h2, h3, h4, _, h5⟩ := dd'
    refine d_write I (by rw [e]; exact True.intro) hs ⟨q, hq⟩ ⟨hl, hd, _, (rel.put k eb rv).keeps fun c ys ec => ?_, q, es, ep, hq, h2, h3, h4, h5⟩
    rw [upd_ne (ne_of ec e (fun z => nomatch z))]
    exact ec
end

section
variable {X : Cx} {pins : List (Addr × Obj)} {σ : St} {H : Hp} {s : Shared} {a : Addr} {kvs : List (Key × V)} {k : Key} {u : Value} {A : Around} {E : Value → Shared → Prop}
end


/-! ### readings and rules -/
/-- d[y] = v -/
def sDPut (td ty tv : TE) : TS := fun D σ H => tv σ H fun v H1 => td σ H1 fun x H2 => ty σ H2 fun y H3 => ∃ a H4, x = .ref a ∧ DPut H3 a y v H4 ∧ D.nx σ H4
section
variable {X : Cx} {o i e value : Expr} {pos pos' tpos : Pos} {td ty tv : TE}
theorem ps_dput (hu : X.A.units + 1 < cLine) (ho : PE X o td) (hi : PE X i ty) (hv : PE X value tv) (hs : swapsWith value (some (.Subscript o i pos')) pos.line X.env = pure false) :
    PS X (.Assign [.Subscript o i pos'] value pos) (sDPut td ty tv) := by
  intro pins s σ H D I h
  refine wpAny_Assign_Subscript (thn (hv pins s σ H _ I h) fun r s1 ⟨v, H1, I1, rv, q1⟩ => thn (ho pins s1 σ H1 _ I1 q1) fun u s2 ⟨x, H2, I2, rx, q2⟩ => thn (hi pins s2 σ H2 _ I2 q2) fun iv s3 ⟨y, H3, I3, ry, a, H4, ex, g, q3⟩ => ?_) hs
  subst ex
  obtain rfl : u = Value.ref a := rx
  exact d_setItem hu I3 g ry rv fun s4 I4 => ⟨σ, H4, I4, q3⟩
end


/-! ### displays -/
theorem dt_empty {P : Program} {w : World} {H : Hp} (h : Heap) (hb : sysModules < h.objs.size) : ObjOk P w H (h.push { cls := .type "dict", data := .dict #[] }) h.objs.size (.dT []) :=
  ⟨Nat.zero_le _, beq_eq_false_iff_ne.mpr (Ne.symm (Nat.ne_of_lt hb)), [], .nil, _, #[], 0, Heap.get?_push_size _ rfl, ⟨rfl, rfl, rfl⟩, rfl, rfl, List.nodup_nil⟩
def tDNewT : TE := fun _ H Q => ∀ p, H p = none → Q (.ref p) (upd H p (.dT []))
section
variable {X : Cx} {pos : Pos}
theorem pe_dnewT : PE X (.Dict [] [] pos) tDNewT := fun pins s σ H Q I h =>
  wpAny_Dict_empty ⟨.ref s.heap.objs.size, _, I.laid (a := s.heap.objs.size) (o := .dT []) (t' := s.toks) (fun _ _ q => Heap.get?_push_of_some _ q) (Nat.le_refl _) (dt_empty s.heap I.big), rfl, h _ (I.hok.fresh (Nat.le_refl _))⟩
end

/-! ### methods -/
/-- a method call o.m(e) of a built-in, with one argument: what must be seen of the text -/
structure M1 (X : Cx) (o : Expr) (m : Str) (apos : Pos) (e : Expr) (cpos : Pos) : Prop where
  base : attributeBase o m X.env (eval o X.env) = eval o X.env
  few : ((backTo cpos (starEach [e] X.env)).all (fun x => !x.1) && (backToKw cpos (keywordEach [] X.env)).all (fun x => x.1.isSome)
    && decide (([e] : List Expr).length + ([] : List Keyword).length + (if ([] : List Keyword).isEmpty then 0 else 1) < 30)) = true
  line : (apos.endLine == cpos.line) = true
  trees : backTo cpos (starEach [e] X.env) = [(false, eval e X.env)]
/-- a is a dict, whatever its keys -/
def IsD (H : Hp) (a : Addr) : Prop := (∃ kvs, Rd H a (.dK kvs)) ∨ ∃ kvs, Rd H a (.dT kvs)
theorem isD_at {X : Cx} {pins : List (Addr × Obj)} {σ : St} {H : Hp} {s : Shared} {a : Addr} (I : Inv X pins σ H s) (d : IsD H a) :
    s.TypeIs (.ref a) "dict" ∧ (∀ b, Value.ref a = .ref b → ∃ ob, s.heap.get? b = some ob ∧ ob.dict = none) ∧ (a == sysModules) = false := by
  rcases d with ⟨kvs, e⟩ | ⟨kvs, e⟩
  · obtain ⟨_, hd, vs, _, dd⟩ := dk_rd I.hok e
    refine ⟨dd.typeIs, fun b q => ?_, hd⟩
    cases q
    obtain ⟨ob, _, _, h1, h2, _⟩ := dd
    exact ⟨ob, h1, h2.2.1⟩
  · obtain ⟨_, hd, xs, _, dd⟩ := dt_rd I.hok e
    refine ⟨dd.typeIs, fun b q => ?_, hd⟩
    cases q
    obtain ⟨ob, _, _, h1, h2, _⟩ := dd
    exact ⟨ob, h1, h2.2.1⟩

section
variable {X : Cx} {pins : List (Addr × Obj)} {σ : St} {H : Hp} {s : Shared} {a : Addr} {y d : V} {u r : Value} {o : Option V} {A : Around} {E : Value → Shared → Prop}
/-- d.get(y) -/
theorem d_get1 {Q : Value → Shared → Prop} (hu : A.units + 1 < cLine) (I : Inv X pins σ H s) (g : DGet H a y o) (ry : RelV y u) (h : ∀ w' s', Inv X pins σ H s' → RelV (o.getD .non) w' → Q w' s') :
    wpAny (model X.prog X.w) A (call (.builtin "dict.get") [.ref a, u]) Q E s := by
  rcases g with ⟨kvs, k, e, ey, l⟩ | ⟨kvs, k, b, e, ey, eb, l⟩
  · subst ey
    obtain ⟨z, hd, vs, rel, dd⟩ := dk_rd I.hok e
    refine call_meetsIn PySem.F.slot_dict_get dd.typeIs PySem.F.entry_dict_get (PySem.F.args_dict_get_2 _ _) (meets_dict_get (mixKind X.prog X.w) a (kV_is ry) hd) ⟨_, dd.mapOf, h _ _ (I.tok _) ?_⟩
    rw [l]
    exact (rel.val k).getD rfl
  · subst ey
    cases (show u = Value.ref b from ry)
    obtain ⟨z, hd, xs, rel, dd⟩ := dt_rd I.hok e
    refine call_meetsIn PySem.F.slot_dict_get dd.typeIs PySem.F.entry_dict_get (PySem.F.args_dict_get_2 _ _) (meetsH_dict_get (tupleKind (mixKind X.prog X.w)) a b hd) ⟨tupleKind_room_in1 hu, k, xs, key_of I.hok eb, dd, h _ _ (I.tok _) ?_⟩
    rw [l]
    exact (rel.val k).getD rfl
end

def tDGet1 (td ty : TE) : TE := fun σ H Q => td σ H fun x H1 => ∃ a, x = .ref a ∧ IsD H1 a ∧ ty σ H1 fun y H2 => ∃ o, DGet H2 a y o ∧ Q (o.getD .non) H2
section
variable {X : Cx} {o e f : Expr} {apos cpos : Pos} {td ty tx : TE}
theorem pe_dget1 (hu : X.A.units + 1 < cLine) (ho : PE X o td) (he : PE X e ty) (m : M1 X o "get" apos e cpos) : PE X (.Call (.Attribute o "get" apos) [e] [] cpos) (tDGet1 td ty) := by
  intro pins s σ H Q I h
  refine wpAny_Call_method m.base m.few m.line PySem.F.plainAttrs_dict PySem.F.slot_dict_get PySem.F.type_dict_get (thn (ho pins s σ H _ I h) fun u s1 ⟨x, H1, I1, rx, a, ex, d, q1⟩ => ?_)
  subst ex
  obtain rfl : u = Value.ref a := rx
  obtain ⟨t1, t2, _⟩ := isD_at I1 d
  refine ⟨t1, t2, ?_⟩
  rw [m.trees]
  refine Calls.callWith_builtin rfl (Calls.evalArgs_plain (Calls.spliced_cons (thn (he pins s1 σ H1 _ I1 q1) fun iv s2 ⟨y, H2, I2, ry, ov, g, q2⟩ => Calls.spliced_nil ?_)))
  exact d_get1 hu I2 g ry fun w' s3 I3 rw' => ⟨_, H2, I3, rw', q2⟩
end

/-! ### dict(d): a copy -/
section
variable {X : Cx} {pins : List (Addr × Obj)} {σ : St} {H : Hp} {s : Shared} {a : Addr} {kvs : List (Key × V)} {A : Around} {E : Value → Shared → Prop}
end


section
variable {X : Cx} {pins : List (Addr × Obj)} {σ : St} {H : Hp} {s : Shared} {a : Addr} {y : V} {u : Value} {A : Around} {E : Value → Shared → Prop}
end
end L2

namespace L2
open PySem PySem.Spec PyProof.Rows

section
variable {prog : Program} {w : World} {A : Around} {E : Value → Shared → Prop}
end

section
variable {X : Cx}
end
end L2

namespace L2
open PySem PySem.Spec PyProof.Rows

theorem boot_reversed5 : bootBuiltins "reversed" = some (.type "reversed") := by decide +kernel

section
variable {X : Cx} {pins : List (Addr × Obj)} {σ : St} {H : Hp} {s : Shared} {h' : Heap}
/-- several records of ours have turned -/
theorem Inv.turnedL {t' : Nat} {ch : List Addr} (I : Inv X pins σ H s) (k : ∀ b o, b ∉ ch → s.heap.get? b = some o → h'.get? b = some o) (hf : ∀ b ∈ ch, FpOk X pins H b) : Inv X pins σ H { s with heap := h', toks := t' } := by
  have nit : ∀ b u, H b = some u → b ∉ ch := fun b u e z => by
    have q := (hf b z).1
    rw [q] at e; cases e
  refine I.step (g' := s.gens) (d' := s.drawn) (ch := ch) (fun b hb => ⟨(hf b hb).2.2.2.1, (hf b hb).2.1, (hf b hb).2.2.2.2.1, (hf b hb).2.2.2.2.2⟩) (fun b o _ _ hc e _ => k b o hc e) (fun b o _ _ hc e _ => ⟨o.slots, k b o hc e⟩)
    (fun _ _ _ _ n => n) (fun b o hc e => ⟨o, k b o hc e⟩) (fun _ _ e => e) (fun _ _ _ e => e) (fun b ps e => ⟨#[], by rw [e]; simp⟩) (fun m hm => ?_) (fun b u e => ?_) I.bare
  · obtain ⟨o, es, ep, ho, r⟩ := hm
    exact ⟨o, es, ep, k _ o (fun z => (hf _ z).2.1 rfl) ho, r⟩
  · refine (I.hok b u e).stay (fun c v hc q => k c v ?_ q) (fun _ q => q) fun _ _ q => q
    rcases hc with z | z
    · rw [z]; exact nit b u e
    · exact nit c _ z
/-- .. and one new object is laid -/
theorem Inv.turnedNew {t' : Nat} {ch : List Addr} {T : Addr} {ob : HO} (I : Inv X pins σ H s) (k : ∀ b o, b ∉ ch → s.heap.get? b = some o → h'.get? b = some o) (hf : ∀ b ∈ ch, FpOk X pins H b) (hT : s.heap.objs.size ≤ T)
    (new : ObjOk X.prog X.w (upd H T ob) h' T ob) : Inv X pins σ (upd H T ob) { s with heap := h', toks := t' } := by
  have hn : H T = none := I.hok.fresh hT
  have nit : ∀ b u, H b = some u → b ∉ ch := fun b u e z => by
    have q := (hf b z).1
    rw [q] at e; cases e
  refine I.step (g' := s.gens) (d' := s.drawn) (ch := ch) (fun b hb => ⟨(hf b hb).2.2.2.1, (hf b hb).2.1, (hf b hb).2.2.2.2.1, (hf b hb).2.2.2.2.2⟩) (fun b o _ _ hc e _ => k b o hc e) (fun b o _ _ hc e _ => ⟨o.slots, k b o hc e⟩)
    (fun b o _ e n => ?_) (fun b o hc e => ⟨o, k b o hc e⟩) (fun b xs e => ?_) (fun b o u e => ?_) (fun b ps e => ⟨#[], ?_⟩) (fun m hm => ?_) (fun b u e => ?_) I.bare
  · rw [upd_ne (Nat.ne_of_lt (Nat.lt_of_lt_of_le (Heap.lt_size e) hT))]; exact n
  · rw [upd_ne (ne_of_none e hn)]; exact e
  · rw [upd_ne (ne_of_none e hn)]; exact e
  · rw [upd_ne (ne_of_none e hn), e]; simp
  · obtain ⟨o, es, ep, ho, r⟩ := hm
    exact ⟨o, es, ep, k _ o (fun z => (hf _ z).2.1 rfl) ho, r⟩
  · by_cases hb : b = T
    · subst hb
      rw [upd_same] at e
      cases e
      exact new
    · rw [upd_ne hb] at e
      refine (I.hok b u e).stay (fun c v hc q => k c v ?_ q) (fun c q => by rw [upd_ne (ne_of_none q hn)]; exact q) fun c xs q => by rw [upd_ne (ne_of_none q hn)]; exact q
      rcases hc with z | z
      · rw [z]; exact nit b u e
      · exact nit c _ z

/-! ### locking a thing while a statement runs -/
theorem Inv.lock {d : Addr} {u : HO} (I : Inv X pins σ H s) (h : H d = some u) (mu : Mut (some u)) : ∃ od, Inv X pins σ (upd H d (.frz od u)) s := by
  have x := I.hok d u h
  have ex : ∃ od, s.heap.get? d = some od := by
    cases u with
    | lst xs => obtain ⟨_, _, _, _, e⟩ := x; exact ⟨_, e⟩
    | dK kvs => obtain ⟨_, _, _, _, o, _, _, e, _⟩ := x; exact ⟨o, e⟩
    | dT kvs => obtain ⟨_, _, _, _, o, _, _, e, _⟩ := x; exact ⟨o, e⟩
    | set S n => obtain ⟨o, _, _, _, e, _⟩ := x; exact ⟨o, e⟩
    | ins C dx fs => obtain ⟨_, _, _, e, _⟩ := x; exact ⟨_, e⟩
    | ext φ => obtain ⟨_, ⟨_, e⟩, _⟩ := x; exact ⟨_, e⟩
    | _ => exact False.elim mu
  obtain ⟨od, e⟩ := ex
  have new : ObjOk X.prog X.w (upd H d (.frz od u)) s.heap d (.frz od u) := by
    refine ⟨e, x.stay (fun b v _ q => q) (fun b q => ?_) fun b xs q => ?_⟩
    · rw [upd_ne (fun z => by rw [z, h] at q; cases q; exact mu)]; exact q
    · rw [upd_ne (fun z => by rw [z, h] at q; cases q; exact mu)]; exact q
  exact ⟨od, I.write (x := d) (e := d) (t' := s.toks) (h' := s.heap) (by rw [h]; exact mu) (.inl rfl) (fun b v _ q => q) ⟨od, e⟩ new⟩
theorem Inv.nofrz {d : Addr} {u : HO} (I : Inv X pins σ H s) (h : H d = some u) (mu : Mut (some u)) : ∀ o' u', X.H_0 d ≠ some (.frz o' u') := fun o' u' e => by
  have q := I.base.frzs d o' u' e
  rw [h] at q
  cases q
  exact mu
theorem Inv.unlock {d : Addr} {od : Obj} {u : HO} (I : Inv X pins σ H s) (h : H d = some (.frz od u)) (hn : ∀ o' u', X.H_0 d ≠ some (.frz o' u')) : Inv X pins σ (upd H d u) s := by
  have neH : ∀ b o, H b = some o → (∀ o' u', o ≠ .frz o' u') → b ≠ d := fun b o e hne z => by
    rw [z, h] at e
    cases e
    exact hne _ _ rfl
  have neN : ∀ b, H b = none → b ≠ d := fun b e z => by rw [z, h] at e; cases e
  refine ⟨I.ok, I.os, I.bare, ⟨I.base.keep, I.base.slot, fun b o e n hx => ?_, I.base.there, fun b xs e => ?_, fun b o x e => ?_, fun b ps e => ?_⟩, I.loc, I.cell, ?_, fun x c e => ?_, fun p hp => ?_, fun b o e => ?_, I.len⟩
  · rw [upd_ne (neN b (I.base.free b o e n hx))]; exact I.base.free b o e n hx
  · have q := I.base.tups b xs e
    rw [upd_ne (neH b _ q (fun _ _ z => nomatch z))]; exact q
  · have q := I.base.frzs b o x e
    rw [upd_ne (fun z => by rw [z] at e; exact hn _ _ e)]; exact q
  · obtain ⟨m, q⟩ := I.base.tbls b ps e
    exact ⟨m, by rw [upd_ne (neH b _ q (fun _ _ z => nomatch z))]; exact q⟩
  · rw [upd_ne (neN _ I.free)]; exact I.free
  · rw [upd_ne (neN c (I.freeC x c e))]; exact I.freeC x c e
  · obtain ⟨e, n, r⟩ := I.pin p hp
    exact ⟨e, by rw [upd_ne (neN _ n)]; exact n, r⟩
  · by_cases hb : b = d
    · rw [hb, upd_same] at e
      cases e
      rw [hb]
      obtain ⟨_, x⟩ := I.hok d _ h
      exact x.stay (fun c v _ q => q) (fun c q => by rw [upd_ne (neH c _ q (fun _ _ z => nomatch z))]; exact q) fun c xs q => by rw [upd_ne (neH c _ q (fun _ _ z => nomatch z))]; exact q
    · rw [upd_ne hb] at e
      exact (I.hok b o e).stay (fun c v _ q => q) (fun c q => by rw [upd_ne (neH c _ q (fun _ _ z => nomatch z))]; exact q) fun c xs q => by rw [upd_ne (neH c _ q (fun _ _ z => nomatch z))]; exact q
end
/-- the statement runs while the thing at d is locked (read, not written); d and what stands there are the reading's choice -/
def tLock (t : TS) : TS := fun D σ H => ∃ d u, H d = some u ∧ Mut (some u) ∧ ∀ od, t ⟨fun σ' H' => H' d = some (.frz od u) ∧ D.nx σ' (upd H' d u), fun v H' => H' d = some (.frz od u) ∧ D.rt v (upd H' d u), fun σ' H' => H' d = some (.frz od u) ∧ D.bk σ' (upd H' d u), fun σ' H' => H' d = some (.frz od u) ∧ D.ct σ' (upd H' d u)⟩ σ (upd H d (.frz od u))
section
variable {X : Cx}
theorem ps_lock {st : Stmt} {t : TS} (h : PS X st t) : PS X st (tLock t) := by
  intro pins s σ H D I hw
  obtain ⟨d, u, hd, mu, hw⟩ := hw
  obtain ⟨od, I1⟩ := I.lock hd mu
  refine thn (h pins s σ _ _ I1 (hw od)) fun f s1 q => ?_
  cases f with
  | next => obtain ⟨σ', H', I2, e, q⟩ := q; exact ⟨σ', _, I2.unlock e (I.nofrz hd mu), q⟩
  | brk => obtain ⟨σ', H', I2, e, q⟩ := q; exact ⟨σ', _, I2.unlock e (I.nofrz hd mu), q⟩
  | cont => obtain ⟨σ', H', I2, e, q⟩ := q; exact ⟨σ', _, I2.unlock e (I.nofrz hd mu), q⟩
  | ret v => obtain ⟨x, σ', H', I2, r, e, q⟩ := q; exact ⟨x, σ', _, I2.unlock e (I.nofrz hd mu), r, q⟩
/-! ### one iterator just laid -/
theorem pi_one {tg : Expr} {pins : List (Addr × Obj)} {σ : St} {H : Hp} {s : Shared} {R : It → Hp → Prop} {J : It} {tn : Nat → Heap → Prop} {tk : Nat} (I : Inv X pins σ H s) (o : Obj)
    (T : Turn X.prog X.w X.K tg J [s.heap.objs.size] s.heap.objs.size tn) (st : tn 0 (s.heap.push o)) (q : R J H) : PIE X pins σ tg R (.ref s.heap.objs.size) { s with heap := s.heap.push o, toks := tk } := by
  refine ⟨s.heap.objs.size, [s.heap.objs.size], tn, J, H, rfl, I.kept fun b ob e => Heap.get?_push_of_some _ e, T, st, fun b hb => ?_, q⟩
  have e : b = s.heap.objs.size := by simpa using hb
  subst e
  exact I.fpOk (Nat.le_refl _) (I.hok.fresh (Nat.le_refl _))
end

/-! ### range with a step -/
section
variable {X : Cx} {tg : Expr}
end
/-! ### reversed(list) -/
section
variable {X : Cx} {tg : Expr}
end

/-! ### a str -/
/-! ### a dict's keys: any dict's entries -/
section
variable {prog : Program} {w : World} {A : Around} {E : Value → Shared → Prop} {s : Shared}
end

/-! ### a locked dict -/
theorem paired_get {α β : Type} {G : α → β → Prop} {l₁ : List α} {l₂ : List β} (h : Paired G l₁ l₂) : ∀ {i : Nat} {a : α}, l₁[i]? = some a → ∃ b, l₂[i]? = some b ∧ G a b := by
  induction h with
  | nil => intro i a e; simp at e
  | @cons a b l₁ l₂ r t ih =>
    intro i a' e
    cases i with
    | zero =>
      simp only [List.getElem?_cons_zero, Option.some.injEq] at e
      subst e
      exact ⟨b, rfl, r⟩
    | succ j =>
      simp only [List.getElem?_cons_succ] at e ⊢
      exact ih e
section
variable {X : Cx} {pins : List (Addr × Obj)} {σ : St} {H : Hp} {s : Shared} {d : Addr} {o : Obj}
end

theorem dict_ep {o : Obj} {es es' : Array DictEntry} {ep ep' : Nat} (h : o.data = .dict es ep) (h' : o.data = .dict es' ep') : es' = es ∧ ep' = ep := by
  rw [h] at h'
  cases h'
  exact ⟨rfl, rfl⟩
section
variable {P : Program} {w : World} {K : PySem.W.Frag} {tg : Expr} {d : Addr} {o : Obj} {es : Array DictEntry} {ep : Nat}
end

/-! ### for k in d, d.keys(), d.values(), d.items() -/
section
variable {X : Cx} {tg e : Expr} {td : TE} {apos cpos : Pos}
end

/-! ### enumerate(list) -/
/-! ### zip(list, list) -/
theorem boot_zip5 : bootBuiltins "zip" = some (.type "zip") := by decide +kernel
end L2

section 
namespace Bits
open PySem PyProof.Rows

end Bits
end 

section 
namespace TL
open PySem PySem.Builtin PySem.Builtin.Str PySem.StrLaws

abbrev tl (x : Str) : List Nat := x.cps.toList
/-! ### the list functions -/
/-- S stands at the head of l -/
def pre (S l : List Nat) : Bool := l.take S.length == S
/-- what stands before the first S, and behind it -/
def par (S : List Nat) : List Nat → List Nat → Option (List Nat × List Nat)
  | _, [] => none
  | acc, c :: r => if pre S (c :: r) = true then some (acc, (c :: r).drop S.length) else par S (acc ++ [c]) r

/-! ### the model's split and partition are these -/
/-! ### computing spl and par -/
/-! ### digits -/
/-! ### words: x.split() -/
end TL
end 

namespace L2
open PySem PySem.Spec PyProof.Rows

section
variable {X : Cx} {pins : List (Addr × Obj)} {σ : St} {H : Hp} {s : Shared} {Q : VK}
end

section
variable {X : Cx}

/-! ### of a text alone -/
/-! ### of a text and a text -/
end

section
variable {X : Cx} {o e : Expr} {to te : TE}
end
end L2

namespace L2
open PySem PySem.Spec PyProof.Rows

section
variable {X : Cx}
end

/-! ### slices of a text -/
theorem IsPart.raw {v : Value} {o : Option Int} (p : IsPart v o) : ∃ l : Option (Int × Tok), v = partValue l ∧ l.map (·.1) = o := by
  cases p with
  | none => exact ⟨none, rfl, rfl⟩
  | int i t => exact ⟨some (i, t), rfl, rfl⟩

end L2

namespace Att
open PySem PySem.W PySem.Calls PyProof.Rows

/-! ### the script -/
/-! ### the attachment: holds_open's last premise (the goal 'hc' behind k_head) from a wpAny of the law's body -/
/-! ### rules over ANY heap (no ledger) from facts about the written part K: the library's own take a ledger (News) for what they write -/
section
variable {prog : Program} {w : World} {A : Around} {E : Value → Shared → Prop} {s : Shared} {K : Frag}

/-! the whole heap as the ledger: makes every rule that writes through a ledger a rule over any heap -/
end
end Att

namespace L2
open PySem PySem.Spec PyProof.Rows

end L2

namespace L2
open PySem PySem.Spec PyProof.Rows

end L2

/- THE LAST THEOREM (shape; LID, My.* are yours):
   My.Adr: a structure of the addresses that your layer names (classes, functions); My.Txt K t: a structure (Prop) of the equations over K;
   My.txt_mk : {K} {implicit addresses ..} (e1 : nsIn K mainGlobals "law" = some (some (.ref f))) (e2 : K.lookup f = some ⟨oc, od, .func (fnOf "law" "law" params body scope dV kV doc pm an cdv ct), sl⟩) (e3 : codeIn K cdv "law" = true) .. : ∃ t, My.Txt K t

(the tactic k_is has no namespace: write k_is) -/

/-! SHORT WORDS over the layer: a def of the text, its body, what a loop and a test want. -/
namespace L2
open PySem PySem.Spec PyProof.Rows

/-! ### the text by places -/
/-- the j-th statement of a class's body -/
def inClass (s : Stmt) (j : Nat) : Stmt := match s with
  | .ClassDef _ _ _ body _ _ _ _ _ _ _ => body.getD j (.Pass ⟨0, 0, 0, 0⟩)
  | _ => .Pass ⟨0, 0, 0, 0⟩
def defArgs (s : Stmt) : Arguments := match s with
  | .FunctionDef _ a _ _ _ _ _ _ _ _ => a
  | _ => { posonlyargs := [], args := [], vararg := none, kwonlyargs := [], kw_defaults := [], kwarg := none, defaults := [] }
def defBody (s : Stmt) : List Stmt := match s with
  | .FunctionDef _ _ b _ _ _ _ _ _ _ => b
  | _ => []
def defScope (s : Stmt) : Scope := match s with
  | .FunctionDef _ _ _ _ _ _ sc _ _ _ => sc
  | _ => { kind := .function, names := [], isGenerator := false, isCoroutine := false }

/-! ### no exception leaves a def -/
abbrev CX0 : CXT := fun _ _ _ _ _ _ => False
abbrev E0 : XK := fun _ _ _ => False
theorem pass0 {X : Cx} : Passes CX0 X E0 := fun _ _ _ _ _ _ _ h => h.elim

/-! ### a def (or method) of the text as it stands behind the top -/
structure Fun (K : PySem.W.Frag) (x qual : Str) (st : Stmt) (f : Addr) (fd : FuncData) : Prop where
  ex : ∃ (oc : Value) (od : Option Addr) (kV doc pm : Value) (an : Option Addr) (cdv ct : Value) (osl : Array (Option Value)),
    fd = PySem.W.fnOf x qual (defArgs st) (defBody st) (defScope st) .none kV doc pm an cdv ct ∧ K.lookup f = some ⟨oc, od, .func fd, osl⟩ ∧ PySem.W.codeIn K cdv qual = true
  kp : PySem.W.keepIn K (.ref f) = true
section
variable {P : Program} {w : World} {K : PySem.W.Frag} {mg : Str → Option Value} {base : Heap}
/-- THE RULE for a def: its body as a term of rules, and the reading of that term -/
theorem Fun.ok {x qual : Str} {st : Stmt} {f : Addr} {fd : FuncData} {N ps : List Str} {k : Nat} {sp : Sp} (F : Fun K x qual st f fd) (S : FnScope N ps (defScope st)) (len : ∀ vs H Q E, sp vs H Q E → vs.length = ps.length)
    (hbody : ∀ (cdv : Value) (A : Around) (outer : List Env) (s : Shared) (H : Hp) (vs : List V) (Q : VK) (E : XK), Room k (A.deeper (envOfC qual (defScope st) s.heap.objs.size f cdv)) → sp vs H Q E →
      ∃ t, PSs (cxOf CX0 P w K mg base N qual (defScope st) f cdv A outer s H E).nox (defBody st) t ∧ t { nx := fun _ H' => Q .non H', rt := Q } (start N vs) H) : FnOk P w K mg base CX0 (k + 1) f fd ps sp := by
  obtain ⟨oc, od, kV, doc, pm, an, cdv, ct, osl, rfl, lk, hcd⟩ := F.ex
  refine fn_of lk hcd S len fun A outer s H vs Q E hr hsp => ?_
  obtain ⟨t, h, q⟩ := hbody cdv A outer s H vs Q E hr hsp
  exact ⟨t, h.nox, q⟩
/-- how its arguments bind (no defaults): h is «fun _ _ _ _ _ _ us hl => match us, hl with | [_, _], _ => rfl», one _ a parameter -/
theorem Fun.binds {x qual : Str} {st : Stmt} {f : Addr} {fd : FuncData} {ps : List Str} (F : Fun K x qual st f fd)
    (h : ∀ (kV doc pm : Value) (an : Option Addr) (cdv ct : Value) (us : List Value), us.length = ps.length → bindArgs (PySem.W.fnOf x qual (defArgs st) (defBody st) (defScope st) .none kV doc pm an cdv ct) ⟨us, []⟩ = pure (ps.zip us)) : Binds K fd ps [] := by
  obtain ⟨oc, od, kV, doc, pm, an, cdv, ct, osl, rfl, lk, hcd⟩ := F.ex
  exact .all (h kV doc pm an cdv ct)
theorem fun_mk {x qual : Str} {st : Stmt} {f : Addr} {oc : Value} {od an : Option Addr} {osl : Array (Option Value)} {kV doc pm cdv ct : Value} (l : K.lookup f = some ⟨oc, od, .func (PySem.W.fnOf x qual (defArgs st) (defBody st) (defScope st) .none kV doc pm an cdv ct), osl⟩)
    (c : PySem.W.codeIn K cdv qual = true) (k : PySem.W.keepIn K (.ref f) = true) : Fun K x qual st f (PySem.W.fnOf x qual (defArgs st) (defBody st) (defScope st) .none kV doc pm an cdv ct) := ⟨⟨oc, od, kV, doc, pm, an, cdv, ct, osl, rfl, l, c⟩, k⟩
end
theorem hu_of {A : Around} {k : Nat} (hr : Room k A) : A.units + 1 < cLine := Nat.lt_of_le_of_lt (Nat.add_le_add_left (by decide : 1 ≤ 64) _) hr.units
/-! ### expressions in short: the name that stands in the i-th slot -/
section
variable {X : Cx}
theorem pv (i : Nat) {x : Str} {pos : Pos} (hN : X.N[i]? = some x := by rfl) (hv : Vis X.env.scope x := by first | exact Or.inl rfl | exact Or.inr (Or.inl rfl) | exact Or.inr (Or.inr rfl)) (hd : (x == ("__debug__" : Str)) = false := by decide)
    (hcd : (x == ("__classdict__" : Str)) = false := by decide) : PE X (.Name x pos) (tVar i) := pe_var hN hv hd hcd
end

/-! ### tests -/
theorem iteT {A B : Prop} (h : A) : if true = true then A else B := by
  rw [if_pos rfl]
  exact h
theorem ite2 {c A B : Prop} [Decidable c] (h1 : c → A) (h2 : ¬ c → B) : if c then A else B := by
  by_cases h : c
  · rw [if_pos h]
    exact h1 h
  · rw [if_neg h]
    exact h2 h
/-! ### heaps -/
/-- all that was tracked is as it was -/
def Same (H H' : Hp) : Prop := ∀ b o, H b = some o → H' b = some o
theorem Same.refl (H : Hp) : Same H H := fun _ _ h => h
theorem Same.trans {H H1 H2 : Hp} (a : Same H H1) (b : Same H1 H2) : Same H H2 := fun c o h => b c o (a c o h)
theorem Same.free {H H' : Hp} (e : Same H H') {l : Addr} (h : H' l = Option.none) : H l = Option.none := by
  cases q : H l with
  | none => rfl
  | some o =>
    rw [e l o q] at h
    cases h
theorem Same.seq {K : PySem.W.Frag} {H H' : Hp} {a : Addr} {xs : List V} (e : Same H H') (h : SqL K H a xs) : SqL K H' a xs := by
  rcases h with (h | ⟨o, h⟩) | h
  · exact .inl (.inl (e _ _ h))
  · exact .inl (.inr ⟨o, e _ _ h⟩)
  · exact .inr h

/-! ### a dict's pairs: keys that differ -/
section
variable {κ : Type} [DecidableEq κ]
theorem nd_snoc : ∀ {l : List κ} {k : κ}, l.Nodup → ¬ k ∈ l → (l ++ [k]).Nodup
  | [], k, _, _ => by simp
  | a :: r, k, h, hk => by
    obtain ⟨h1, h2⟩ := List.nodup_cons.mp h
    show (a :: (r ++ [k])).Nodup
    refine List.nodup_cons.mpr ⟨fun m => ?_, nd_snoc h2 fun m => hk (List.mem_cons.mpr (Or.inr m))⟩
    rcases List.mem_append.mp m with q | q
    · exact h1 q
    · exact hk (List.mem_cons.mpr (Or.inl (List.mem_singleton.mp q).symm))
end
/-! ### lists -/
theorem at_of {xs : List V} {z : Int} {j : Nat} {v : V} (e : z = (j : Int)) (h : xs[j]? = some v) : atI xs z = some v := by
  rw [e]
  exact atI_nat h
/-- a new instance and its __init__ leave all that was tracked as it was -/
theorem Same.made {H H1 : Hp} {x dx C : Addr} (nx : H x = Option.none) (nd : H dx = Option.none) (k : ∀ b o, (upd (upd H dx (.own x)) x (.ins C dx [])) b = some o → b ≠ x → H1 b = some o) : Same H H1 := fun b o e =>
  k b o (by rw [upd_ne (ne_of_none e nx), upd_ne (ne_of_none e nd)]; exact e) (ne_of_none e nx)
end L2

end
section
set_option Elab.async false
set_option linter.all false
set_option maxRecDepth 100000
set_option maxHeartbeats 2000000
namespace L2
open PySem PySem.Spec PyProof.Rows
open PySem.W (WData Codec OpenSpec Well WellAll ReadsW ReadsAllW)
/-! ### an answer as data -/
mutual
/-- x stands for the datum d, lists and tuples all the way -/
inductive Dw (K : PySem.W.Frag) (H : Hp) : V → WData → Prop
  | non : Dw K H .non .none
  | bl (b : Bool) : Dw K H (.bl b) (.bool b)
  | int (i : Int) : Dw K H (.int i) (.int i)
  | str (x : Str) : Dw K H (.str x) (.str x)
  | byt (b : Array UInt8) : Dw K H (.byt b) (.bytes b.toList)
  | lst {a : Addr} {xs : List V} {ds : List WData} : SqL K H a xs → DwAll K H xs ds → Dw K H (.ref a) (.list ds)
  | tup {a : Addr} {xs : List V} {ds : List WData} : SqT K H a xs → DwAll K H xs ds → Dw K H (.ref a) (.tuple ds)
inductive DwAll (K : PySem.W.Frag) (H : Hp) : List V → List WData → Prop
  | nil : DwAll K H [] []
  | cons {v : V} {vs : List V} {d : WData} {ds : List WData} : Dw K H v d → DwAll K H vs ds → DwAll K H (v :: vs) (d :: ds)
end
theorem dw_ints {K : PySem.W.Frag} {H : Hp} : ∀ ns : List Int, DwAll K H (ns.map V.int) (ns.map WData.int)
  | [] => .nil
  | n :: r => .cons (.int n) (dw_ints r)
theorem ints_dw {K : PySem.W.Frag} {H : Hp} : ∀ (ns : List Int) (xs : List V), DwAll K H xs (ns.map WData.int) → xs = ns.map V.int
  | [], xs, h => by
    cases h
    rfl
  | n :: r, xs, h => by
    cases h with
    | cons h1 h2 =>
      cases h1
      rw [ints_dw r _ h2] <;> rfl
section
variable {P : Program} {w : World} {K : PySem.W.Frag} {H : Hp} {h : Heap} {R : PySem.W.WRecords} {cl : Str → Option Addr}
theorem sqL_at {a : Addr} {xs : List V} (hok : HOk P w H h) (KX : K.In h) (q : SqL K H a xs) : ∃ (its : List Value) (o : Obj) (n : Nat), Vals xs its ∧ h.get? a = some o ∧ o.cls = .type "list" ∧ o.data = .seq its.toArray n := by
  rcases q with q | ⟨o, its, n, e, hc, _, hd, _, hv⟩
  · obtain ⟨_, its, n, hv, e⟩ := (show ObjOk P w H h a (.lst xs) from q.ok hok)
    exact ⟨its, _, n, hv, e, rfl, rfl⟩
  · exact ⟨its.toList, o, n, hv, KX _ _ e, hc, by simp [hd]⟩
theorem sqT_at {a : Addr} {xs : List V} (hok : HOk P w H h) (KX : K.In h) (q : SqT K H a xs) : ∃ (its : List Value) (o : Obj) (n : Nat), Vals xs its ∧ h.get? a = some o ∧ o.cls = .type "tuple" ∧ o.data = .seq its.toArray n := by
  rcases q with q | ⟨o, its, n, e, hc, hd, _, hv⟩
  · obtain ⟨_, its, hv, o, e, hc, n, hd⟩ := (show ObjOk P w H h a (.tup xs) from q.ok hok)
    exact ⟨its, o, n, hv, e, hc, congrArg Prod.fst hd⟩
  · exact ⟨its.toList, o, n, hv, KX _ _ e, hc, by simp [hd]⟩
mutual
theorem Dw.reads (hok : HOk P w H h) (KX : K.In h) : ∀ (d : WData) (v : V) (u : Value), Dw K H v d → RelV v u → ∃ as, ReadsW R cl h u d as
  | .none, _, _, x, r => by
    cases x
    cases r
    exact ⟨_, ReadsW.none⟩
  | .bool b, _, _, x, r => by
    cases x
    cases r
    exact ⟨_, ReadsW.bool b⟩
  | .int i, _, _, x, r => by
    cases x
    obtain ⟨t, rfl⟩ := r
    exact ⟨_, ReadsW.int i t⟩
  | .str s, _, _, x, r => by
    cases x
    obtain ⟨t, rfl⟩ := r
    exact ⟨_, ReadsW.str s t⟩
  | .bytes b, _, _, x, r => by
    cases x
    obtain ⟨t, rfl⟩ := r
    exact ⟨_, ReadsW.bytes _ t⟩
  | .list ds, _, _, x, r => by
    cases x with
    | lst hs ha =>
      cases r
      obtain ⟨its, o, n, rv, ho, hc, hd⟩ := sqL_at hok KX hs
      obtain ⟨as, hr⟩ := Dw.readsAll hok KX ds _ its ha rv
      exact ⟨_, ReadsW.list ho hc hd hr⟩
  | .tuple ds, _, _, x, r => by
    cases x with
    | tup hs ha =>
      cases r
      obtain ⟨its, o, n, rv, ho, hc, hd⟩ := sqT_at hok KX hs
      obtain ⟨as, hr⟩ := Dw.readsAll hok KX ds _ its ha rv
      exact ⟨_, ReadsW.tuple ho hc hd hr⟩
  | .float _, _, _, x, _ => by cases x
  | .dict _, _, _, x, _ => by cases x
  | .bytearray _, _, _, x, _ => by cases x
  | .set _, _, _, x, _ => by cases x
  | .frozenset _, _, _, x, _ => by cases x
  | .obj _ _, _, _, x, _ => by cases x
theorem Dw.readsAll (hok : HOk P w H h) (KX : K.In h) : ∀ (ds : List WData) (vs : List V) (us : List Value), DwAll K H vs ds → Vals vs us → ∃ as, ReadsAllW R cl h us ds as
  | [], _, _, x, r => by
    cases x
    cases r
    exact ⟨_, ReadsAllW.nil⟩
  | d :: ds, _, _, x, r => by
    cases x with
    | cons h1 h2 =>
      cases r with
      | cons r1 r2 =>
        obtain ⟨as, q1⟩ := Dw.reads hok KX d _ _ h1 r1
        obtain ⟨bs, q2⟩ := Dw.readsAll hok KX ds _ _ h2 r2
        exact ⟨_, ReadsAllW.cons q1 q2⟩
end
end
/-! ### the arguments -/
mutual
/-- data that a codec tells -/
def plW : WData → Bool
  | .none => true
  | .bool _ => true
  | .int _ => true
  | .str _ => true
  | .bytes _ => true
  | .list xs => plWs xs
  | .tuple xs => plWs xs
  | _ => false
def plWs : List WData → Bool
  | [] => true
  | x :: r => plW x && plWs r
end
theorem plWs_map {α : Type} {f : α → WData} (h : ∀ a, plW (f a) = true) : ∀ l : List α, plWs (l.map f) = true
  | [] => rfl
  | x :: r => by
    show (plW (f x) && plWs (r.map f)) = true
    rw [h x, plWs_map h r] <;> rfl
theorem pl_enc : ∀ (c : Codec) (a : c.denote), plW (c.enc a) = true
  | .unit, _ => rfl
  | .bool, _ => rfl
  | .int _ _, _ => rfl
  | .nat _ _, _ => rfl
  | .u8, _ => rfl
  | .bytes _ _, _ => rfl
  | .text _ _ _ _, _ => rfl
  | .list _ _ c, a => plWs_map (fun x => pl_enc c x) a
  | .pair c d, a => by
    show (plW (c.enc a.1) && (plW (d.enc a.2) && true)) = true
    rw [pl_enc c a.1, pl_enc d a.2] <;> rfl
  | .triple c d e, a => by
    show (plW (c.enc a.1) && (plW (d.enc a.2.1) && (plW (e.enc a.2.2) && true))) = true
    rw [pl_enc c a.1, pl_enc d a.2.1, pl_enc e a.2.2] <;> rfl
  | .option c, none => rfl
  | .option c, some x => pl_enc c x
theorem pl_encAll : ∀ (cs : List Codec) (a : Codec.denoteAll cs), plWs (Codec.encAll cs a) = true
  | [], _ => rfl
  | c :: cs, a => by
    show (plW (c.enc a.1) && plWs (Codec.encAll cs a.2)) = true
    rw [pl_enc c a.1, pl_encAll cs a.2] <;> rfl
theorem weight_mem : ∀ {xs : List WData} {d : WData}, d ∈ xs → d.weight ≤ WData.weightAll xs
  | [], d, h => absurd h (by simp)
  | x :: r, d, h => by
    show d.weight ≤ x.weight + 1 + WData.weightAll r
    rcases List.mem_cons.mp h with e | m
    · rw [e]
      omega
    · have z := weight_mem m
      omega
def toV : Value → V
  | .none => .non
  | .bool b => .bl b
  | .int i _ => .int i
  | .str x _ => .str x
  | .bytes b _ => .byt b
  | .ref a => .ref a
  | _ => .non
/-- a value of the arguments, its objects among A -/
def OkU (A : List Addr) : Value → Prop
  | .none => True
  | .bool _ => True
  | .int _ _ => True
  | .str _ _ => True
  | .bytes _ _ => True
  | .ref a => a ∈ A
  | _ => False
theorem OkU.mono {A B : List Addr} (h : ∀ a ∈ A, a ∈ B) : ∀ {u : Value}, OkU A u → OkU B u := fun {u} x => by
  cases u with
  | ref a => exact h a x
  | none => trivial
  | bool b => trivial
  | int i t => trivial
  | str s t => trivial
  | bytes b t => trivial
  | _ => exact False.elim x
theorem relV_toV {A : List Addr} {u : Value} (x : OkU A u) : RelV (toV u) u := by
  cases u with
  | ref a => rfl
  | none => rfl
  | bool b => rfl
  | int i t => exact ⟨t, rfl⟩
  | str s t => exact ⟨t, rfl⟩
  | bytes b t => exact ⟨t, rfl⟩
  | _ => exact False.elim x
theorem vals_toV {A : List Addr} : ∀ {vs : List Value}, (∀ u ∈ vs, OkU A u) → Vals (vs.map toV) vs
  | [], _ => .nil
  | u :: r, h => .cons (relV_toV (h u (List.mem_cons_self ..))) (vals_toV fun x hx => h x (List.mem_cons_of_mem _ hx))
/-- an object of the arguments -/
def ArgOb (h : Heap) (A : List Addr) (a : Addr) : Prop := ∃ vs : List Value, vs.length ≤ sizeLine ∧ (∀ u ∈ vs, OkU A u) ∧
  (h.get? a = some { cls := .type "list", data := .seq vs.toArray } ∨ h.get? a = some { cls := .type "tuple", data := .seq vs.toArray })
theorem ArgOb.mono {h : Heap} {A B : List Addr} {a : Addr} (k : ∀ a ∈ A, a ∈ B) (x : ArgOb h A a) : ArgOb h B a := by
  obtain ⟨vs, h1, h2, h3⟩ := x
  exact ⟨vs, h1, fun u hu => (h2 u hu).mono k, h3⟩
theorem wellAll_len {P : Params} {h : Heap} : ∀ {vs : List Value} {ds : List WData}, WellAll P h vs ds → vs.length = ds.length
  | _, _, .nil => rfl
  | _, _, .cons _ b => by
    show _ + 1 = _ + 1
    rw [wellAll_len b]
theorem well_list {P : Params} {h : Heap} {v : Value} {ds : List WData} (x : Well P h v (.list ds)) : ∃ (a : Addr) (vs : List Value), v = .ref a ∧ h.get? a = some { cls := .type "list", data := .seq vs.toArray } ∧ WellAll P h vs ds := by
  cases x with
  | list ho hall => exact ⟨_, _, rfl, ho, hall⟩
theorem well_tuple {P : Params} {h : Heap} {v : Value} {ds : List WData} (x : Well P h v (.tuple ds)) : ∃ (a : Addr) (vs : List Value), v = .ref a ∧ h.get? a = some { cls := .type "tuple", data := .seq vs.toArray } ∧ WellAll P h vs ds := by
  cases x with
  | tuple ho hall => exact ⟨_, _, rfl, ho, hall⟩
theorem well_cons {P : Params} {h : Heap} {us : List Value} {d : WData} {ds : List WData} (x : WellAll P h us (d :: ds)) : ∃ (v : Value) (vs : List Value), us = v :: vs ∧ Well P h v d ∧ WellAll P h vs ds := by
  cases x with
  | cons a b => exact ⟨_, _, rfl, a, b⟩
theorem line_of {n : Nat} (h : n ≤ 1048576) : n ≤ sizeLine := Nat.le_trans h (by decide)
section
variable {P : Params} {h : Heap}
mutual
theorem area_one : ∀ (d : WData) (v : Value), Well P h v d → plW d = true → d.weight ≤ 1048576 → ∃ A : List Addr, OkU A v ∧ ∀ a ∈ A, ArgOb h A a
  | .none, _, x, _, _ => by
    cases x
    exact ⟨[], trivial, fun a m => absurd m (by simp)⟩
  | .bool b, _, x, _, _ => by
    cases x
    exact ⟨[], trivial, fun a m => absurd m (by simp)⟩
  | .int i, _, x, _, _ => by
    cases x
    exact ⟨[], trivial, fun a m => absurd m (by simp)⟩
  | .str s, _, x, _, _ => by
    cases x
    exact ⟨[], trivial, fun a m => absurd m (by simp)⟩
  | .bytes b, _, x, _, _ => by
    cases x
    exact ⟨[], trivial, fun a m => absurd m (by simp)⟩
  | .list ds, _, x, p, z => by
    obtain ⟨a, vs, rfl, ho, hall⟩ := well_list x
    have z2 : WData.weightAll ds ≤ 1048576 := z
    obtain ⟨A, h1, h2⟩ := area_all ds _ hall p fun d hd => Nat.le_trans (weight_mem hd) z2
    have k : ∀ b ∈ A, b ∈ a :: A := fun b hb => List.mem_cons_of_mem _ hb
    refine ⟨a :: A, List.mem_cons_self .., fun b hb => ?_⟩
    rcases List.mem_cons.mp hb with e | m
    · rw [e]
      exact ⟨vs, line_of (by rw [wellAll_len hall]; exact Nat.le_trans (PySem.W.length_le_weightAllW ds) z2), fun u hu => (h1 u hu).mono k, .inl ho⟩
    · exact (h2 b m).mono k
  | .tuple ds, _, x, p, z => by
    obtain ⟨a, vs, rfl, ho, hall⟩ := well_tuple x
    have z2 : WData.weightAll ds ≤ 1048576 := z
    obtain ⟨A, h1, h2⟩ := area_all ds _ hall p fun d hd => Nat.le_trans (weight_mem hd) z2
    have k : ∀ b ∈ A, b ∈ a :: A := fun b hb => List.mem_cons_of_mem _ hb
    refine ⟨a :: A, List.mem_cons_self .., fun b hb => ?_⟩
    rcases List.mem_cons.mp hb with e | m
    · rw [e]
      exact ⟨vs, line_of (by rw [wellAll_len hall]; exact Nat.le_trans (PySem.W.length_le_weightAllW ds) z2), fun u hu => (h1 u hu).mono k, .inr ho⟩
    · exact (h2 b m).mono k
  | .float _, _, _, p, _ => Bool.noConfusion (show false = true from p)
  | .dict _, _, _, p, _ => Bool.noConfusion (show false = true from p)
  | .bytearray _, _, _, p, _ => Bool.noConfusion (show false = true from p)
  | .set _, _, _, p, _ => Bool.noConfusion (show false = true from p)
  | .frozenset _, _, _, p, _ => Bool.noConfusion (show false = true from p)
  | .obj _ _, _, _, p, _ => Bool.noConfusion (show false = true from p)
theorem area_all : ∀ (ds : List WData) (vs : List Value), WellAll P h vs ds → plWs ds = true → (∀ d ∈ ds, d.weight ≤ 1048576) → ∃ A : List Addr, (∀ u ∈ vs, OkU A u) ∧ ∀ a ∈ A, ArgOb h A a
  | [], _, x, _, _ => by
    cases x
    exact ⟨[], fun u m => absurd m (by simp), fun a m => absurd m (by simp)⟩
  | d :: ds, _, x, p, z => by
    obtain ⟨v, vs, rfl, x1, x2⟩ := well_cons x
    have q : plW d = true ∧ plWs ds = true := Bool.and_eq_true_iff.mp p
    obtain ⟨A, a1, a2⟩ := area_one d v x1 q.1 (z d (List.mem_cons_self ..))
    obtain ⟨B, b1, b2⟩ := area_all ds vs x2 q.2 fun e he => z e (List.mem_cons_of_mem _ he)
    have kA : ∀ b ∈ A, b ∈ A ++ B := fun b hb => List.mem_append.mpr (.inl hb)
    have kB : ∀ b ∈ B, b ∈ A ++ B := fun b hb => List.mem_append.mpr (.inr hb)
    refine ⟨A ++ B, fun u hu => ?_, fun b hb => ?_⟩
    · rcases List.mem_cons.mp hu with e | m
      · rw [e]
        exact a1.mono kA
      · exact (b1 u m).mono kB
    · rcases List.mem_append.mp hb with m | m
      · exact (a2 b m).mono kA
      · exact (b2 b m).mono kB
end
end
/-- what is tracked of an argument's object -/
def hoOf (o : Obj) : Option HO := match o.data with
  | .seq vs _ => if (o.cls == Value.type "list") = true then some (.frz o (.lst (vs.toList.map toV))) else some (.frz o (.tup (vs.toList.map toV)))
  | _ => none
def argH (K : PySem.W.Frag) (h : Heap) (A : List Addr) : Hp := fun b => if b ∈ A then (if (K.lookup b).isNone = true then (h.get? b).bind hoOf else none) else none
/-- nothing is tracked but what is known to the object -/
def OnlyF (H : Hp) : Prop := ∀ b, H b = none ∨ ∃ o u, H b = some (.frz o u)
theorem hoOf_lst (vs : List Value) : hoOf { cls := .type "list", data := .seq vs.toArray } = some (.frz { cls := .type "list", data := .seq vs.toArray } (.lst (vs.map toV))) := by
  show (if (Value.type "list" == Value.type "list") = true then some (HO.frz { cls := .type "list", data := .seq vs.toArray } (.lst (vs.toArray.toList.map toV))) else some (HO.frz { cls := .type "list", data := .seq vs.toArray } (.tup (vs.toArray.toList.map toV)))) = _
  rw [if_pos (beq_self_eq_true _)]
theorem hoOf_tup (vs : List Value) : hoOf { cls := .type "tuple", data := .seq vs.toArray } = some (.frz { cls := .type "tuple", data := .seq vs.toArray } (.tup (vs.map toV))) := by
  show (if (Value.type "tuple" == Value.type "list") = true then some (HO.frz { cls := .type "tuple", data := .seq vs.toArray } (.lst (vs.toArray.toList.map toV))) else some (HO.frz { cls := .type "tuple", data := .seq vs.toArray } (.tup (vs.toArray.toList.map toV)))) = _
  rw [if_neg (by decide)]
section
variable {P : Program} {w : World} {K : PySem.W.Frag} {h : Heap} {A : List Addr}
theorem argH_at {b : Addr} {o : Obj} (hb : b ∈ A) (hk : K.lookup b = none) (e : h.get? b = some o) : argH K h A b = hoOf o := by
  unfold argH
  rw [if_pos hb, hk, if_pos (show (none : Option Obj).isNone = true from rfl), e] <;> rfl
theorem of_argH {b : Addr} {u : HO} (q : argH K h A b = some u) : b ∈ A ∧ K.lookup b = none := by
  unfold argH at q
  by_cases hb : b ∈ A
  · rw [if_pos hb] at q
    cases hk : K.lookup b with
    | none => exact ⟨hb, rfl⟩
    | some o =>
      rw [hk, if_neg (by simp)] at q
      cases q
  · rw [if_neg hb] at q
    cases q
/-- what stands tracked -/
theorem argH_is (ar : ∀ a ∈ A, ArgOb h A a) {b : Addr} {u : HO} (q : argH K h A b = some u) : K.lookup b = none ∧ ∃ vs : List Value, vs.length ≤ sizeLine ∧ (∀ u ∈ vs, OkU A u) ∧
    ((h.get? b = some { cls := .type "list", data := .seq vs.toArray } ∧ u = .frz { cls := .type "list", data := .seq vs.toArray } (.lst (vs.map toV))) ∨
     (h.get? b = some { cls := .type "tuple", data := .seq vs.toArray } ∧ u = .frz { cls := .type "tuple", data := .seq vs.toArray } (.tup (vs.map toV)))) := by
  obtain ⟨hb, hk⟩ := of_argH q
  obtain ⟨vs, h1, h2, h3⟩ := ar b hb
  refine ⟨hk, vs, h1, h2, ?_⟩
  rcases h3 with e | e
  · rw [argH_at hb hk e, hoOf_lst] at q
    exact .inl ⟨e, (Option.some.inj q).symm⟩
  · rw [argH_at hb hk e, hoOf_tup] at q
    exact .inr ⟨e, (Option.some.inj q).symm⟩
theorem argH_only (ar : ∀ a ∈ A, ArgOb h A a) : OnlyF (argH K h A) := fun b => by
  cases q : argH K h A b with
  | none => exact .inl rfl
  | some u =>
    obtain ⟨_, vs, _, _, ⟨_, e⟩ | ⟨_, e⟩⟩ := argH_is ar q
    · exact .inr ⟨_, _, by rw [e]⟩
    · exact .inr ⟨_, _, by rw [e]⟩
theorem argH_ok (ar : ∀ a ∈ A, ArgOb h A a) : HOk P w (argH K h A) h := fun b u q => by
  obtain ⟨_, vs, h1, h2, ⟨e, rfl⟩ | ⟨e, rfl⟩⟩ := argH_is ar q
  · exact ⟨e, by rw [List.length_map]; exact h1, vs, _, vals_toV h2, e⟩
  · exact ⟨e, by rw [List.length_map]; exact h1, vs, vals_toV h2, _, e, rfl, _, rfl⟩
theorem seq_inj {c c' : Value} {vs us : List Value} (e : (some { cls := c, data := .seq vs.toArray } : Option Obj) = some { cls := c', data := .seq us.toArray }) : c = c' ∧ vs = us := by
  have e1 := Option.some.inj e
  have e2 : c = c' := congrArg Obj.cls e1
  have e3 : Data.seq vs.toArray = Data.seq us.toArray := congrArg Obj.data e1
  injection e3 with e4
  refine ⟨e2, ?_⟩
  have e5 := congrArg Array.toList e4
  simpa using e5
/-- a list argument -/
theorem argL (KX : K.In h) (ar : ∀ a ∈ A, ArgOb h A a) {a : Addr} {vs : List Value} (ha : a ∈ A) (e : h.get? a = some { cls := .type "list", data := .seq vs.toArray }) : (∀ u ∈ vs, OkU A u) ∧ SqL K (argH K h A) a (vs.map toV) := by
  obtain ⟨us, h1, h2, h3⟩ := ar a ha
  have hu : us = vs := by
    rcases h3 with q | q
    · rw [e] at q
      exact (seq_inj q).2.symm
    · rw [e] at q
      exact absurd (Value.type.inj (seq_inj q).1) (by decide)
  subst hu
  refine ⟨h2, ?_⟩
  cases hk : K.lookup a with
  | none => exact .inl (.inr ⟨_, by rw [argH_at ha hk e, hoOf_lst]⟩)
  | some o =>
    have e2 := KX a o hk
    rw [e] at e2
    obtain rfl := Option.some.inj e2
    exact .inr ⟨_, us.toArray, _, hk, rfl, rfl, rfl, by rw [List.size_toArray]; exact h1, by simpa using vals_toV h2⟩
theorem argT (KX : K.In h) (ar : ∀ a ∈ A, ArgOb h A a) {a : Addr} {vs : List Value} (ha : a ∈ A) (e : h.get? a = some { cls := .type "tuple", data := .seq vs.toArray }) : (∀ u ∈ vs, OkU A u) ∧ SqT K (argH K h A) a (vs.map toV) := by
  obtain ⟨us, h1, h2, h3⟩ := ar a ha
  have hu : us = vs := by
    rcases h3 with q | q
    · rw [e] at q
      exact absurd (Value.type.inj (seq_inj q).1) (by decide)
    · rw [e] at q
      exact (seq_inj q).2.symm
  subst hu
  refine ⟨h2, ?_⟩
  cases hk : K.lookup a with
  | none => exact .inl (.inr ⟨_, by rw [argH_at ha hk e, hoOf_tup]⟩)
  | some o =>
    have e2 := KX a o hk
    rw [e] at e2
    obtain rfl := Option.some.inj e2
    exact .inr ⟨_, us.toArray, _, hk, rfl, rfl, by rw [List.size_toArray]; exact h1, by simpa using vals_toV h2⟩
mutual
theorem dw_one {Pm : Params} (KX : K.In h) (ar : ∀ a ∈ A, ArgOb h A a) : ∀ (d : WData) (v : Value), Well Pm h v d → plW d = true → OkU A v → Dw K (argH K h A) (toV v) d
  | .none, _, x, _, _ => by
    cases x
    exact .non
  | .bool b, _, x, _, _ => by
    cases x
    exact .bl b
  | .int i, _, x, _, _ => by
    cases x
    exact .int i
  | .str s, _, x, _, _ => by
    cases x
    exact .str s
  | .bytes b, _, x, _, _ => by
    cases x
    have z := Dw.byt (K := K) (H := argH K h A) b.toArray
    exact z
  | .list ds, _, x, p, hu => by
    obtain ⟨a, vs, rfl, ho, hall⟩ := well_list x
    obtain ⟨h2, hs⟩ := argL KX ar hu ho
    exact .lst hs (dw_all KX ar ds _ hall p h2)
  | .tuple ds, _, x, p, hu => by
    obtain ⟨a, vs, rfl, ho, hall⟩ := well_tuple x
    obtain ⟨h2, hs⟩ := argT KX ar hu ho
    exact .tup hs (dw_all KX ar ds _ hall p h2)
  | .float _, _, _, p, _ => Bool.noConfusion (show false = true from p)
  | .dict _, _, _, p, _ => Bool.noConfusion (show false = true from p)
  | .bytearray _, _, _, p, _ => Bool.noConfusion (show false = true from p)
  | .set _, _, _, p, _ => Bool.noConfusion (show false = true from p)
  | .frozenset _, _, _, p, _ => Bool.noConfusion (show false = true from p)
  | .obj _ _, _, _, p, _ => Bool.noConfusion (show false = true from p)
theorem dw_all {Pm : Params} (KX : K.In h) (ar : ∀ a ∈ A, ArgOb h A a) : ∀ (ds : List WData) (vs : List Value), WellAll Pm h vs ds → plWs ds = true → (∀ u ∈ vs, OkU A u) → DwAll K (argH K h A) (vs.map toV) ds
  | [], _, x, _, _ => by
    cases x
    exact .nil
  | d :: ds, _, x, p, hu => by
    obtain ⟨v, vs, rfl, x1, x2⟩ := well_cons x
    have q : plW d = true ∧ plWs ds = true := Bool.and_eq_true_iff.mp p
    exact .cons (dw_one KX ar d v x1 q.1 (hu _ (List.mem_cons_self ..))) (dw_all KX ar ds vs x2 q.2 fun u m => hu u (List.mem_cons_of_mem _ m))
end
end
/-! ### the call -/
theorem spec_call {P : Program} {w : World} {K : PySem.W.Frag} {mg mb : Str → Option Value} {CX : CXT} {k : Nat} {fa : Addr} {fd : FuncData} {ps : List Str} {sp : Sp} {s₁ : Shared} {vals : List Value} {ds : List WData} {R : PySem.W.WRecords} {cl : Str → Option Addr} {d0 : WData}
    (KX : K.In s₁.heap) (hns : s₁.heap.Ns mainGlobals mg) (hb : s₁.heap.Ns builtinsNs mb) (hbb : ∀ x : Str, x ≠ "__name__" → mb x = bootBuiltins x) (hlim : s₁.heap.NoLimit) (hg : s₁.gens = #[])
    (hwl : WellAll w.params s₁.heap vals ds) (hpl : plWs ds = true) (hwt : ∀ d ∈ ds, d.weight ≤ 1048576) (hr : Room k callerA)
    (F : ∀ base : Heap, K.In base → base.Ns mainGlobals mg → FnOk P w K mg base CX k fa fd ps sp) (hbind : ∀ (s : Shared) (us : List Value), us.length = ps.length → BindsTo s fd ⟨us, []⟩ (ps.zip us)) (hlen : ds.length = ps.length)
    (hsp : ∀ (H : Hp) (xs : List V), OnlyF H → DwAll K H xs ds → sp xs H (fun v H' => Dw K H' v d0) fun _ _ _ => False)
    (hCX : ∀ H e s', CX [] H s₁ (fun _ _ _ => False) e s' → False) :
    codeAny (model P w) callerA (.call (.ref fa) ⟨vals, []⟩) (fun r s' => ∃ u as, r = .ok (.ret u) ∧ ReadsW R cl s'.heap u d0 as ∧ OldK s₁.heap s'.heap ∧ s'.os = s₁.os ∧ AllBare s'.gens) s₁ := by
  obtain ⟨A, ho, ar⟩ := area_all ds vals hwl hpl hwt
  have hO : OnlyF (argH K s₁.heap A) := argH_only ar
  have hok : HOk P w (argH K s₁.heap A) s₁.heap := argH_ok ar
  have hS := dw_all KX ar ds vals hwl hpl ho
  have hV := vals_toV ho
  have hK : ∀ b u, argH K s₁.heap A b = some u → K.lookup b = none := fun b u q => (argH_is ar q).1
  have noA : ∀ {b : Addr} {o : Obj} {es : Array DictEntry} {ep : Nat}, s₁.heap.get? b = some o → o.data = .dict es ep → argH K s₁.heap A b = none := fun {b o es ep} e d => by
    cases q : argH K s₁.heap A b with
    | none => rfl
    | some u =>
      obtain ⟨_, vs, _, _, ⟨e2, _⟩ | ⟨e2, _⟩⟩ := argH_is ar q
      · rw [e2] at e
        cases e
        have d' : Data.seq vs.toArray _ = Data.dict es ep := d
        cases d'
      · rw [e2] at e
        cases e
        have d' : Data.seq vs.toArray _ = Data.dict es ep := d
        cases d'
  generalize argH K s₁.heap A = H at hO hok hS hK noA
  have base_of : ∀ {b : Addr} {o : Obj}, s₁.heap.get? b = some o → H b = none → (hidT s₁.heap H).get? b = some o := fun e n => hidT_get e n
  have nsK : ∀ {b : Addr} {m : Str → Option Value}, s₁.heap.Ns b m → (hidT s₁.heap H).Ns b m := fun {b m} ⟨o, es, ep, e, d, r⟩ => ⟨o, es, ep, base_of e (noA e d), d, r⟩
  have nK : ∀ b o, K.lookup b = some o → H b = none := fun b o e => by
    cases q : H b with
    | none => rfl
    | some u =>
      rw [hK b u q] at e
      cases e
  have hKb : K.In (hidT s₁.heap H) := fun b o e => base_of (KX b o e) (nK b o e)
  have hM : Mod K mg (hidT s₁.heap H) := ⟨hKb, nsK hns, ⟨mb, nsK hb, hbb⟩, let ⟨mc, h1, h2⟩ := hlim; ⟨mc, nsK h1, h2⟩⟩
  have e0 : Env0 P w K mg (hidT s₁.heap H) callerA [] s₁ H := ⟨rfl, hM, fun b o e => of_hidT e, Nat.le_of_eq (hidT_size _ _), trivial, fun b hb => absurd (show b ∈ ([] : List Addr) from hb) (by simp), hok, .of_eq hg⟩
  have hl : vals.length = ps.length := by rw [wellAll_len hwl]; exact hlen
  refine codeAny_mono ((F _ hKb (nsK hns)).run callerA [] s₁ H ⟨vals, []⟩ vals (vals.map toV) _ _ hr e0 (hbind s₁ vals hl) hV (hsp H _ hO hS)) fun r s' x => ?_
  cases r with
  | error e => exact (hCX H e s' x).elim
  | ok fl =>
    cases fl with
    | next => exact False.elim x
    | brk => exact False.elim x
    | cont => exact False.elim x
    | ret u =>
      obtain ⟨v, H', os, bare, un, hok', r', q⟩ := x
      have kept : ∀ b o, s₁.heap.get? b = some o → s'.heap.get? b = some o := fun b o e => by
        cases q2 : H b with
        | none => exact un.keep b o e q2 (by intro z; exact absurd (show b ∈ ([] : List Addr) from z) (by simp)) (by simp)
        | some u2 =>
          rcases hO b with z | ⟨ob, u3, z⟩
          · rw [q2] at z
            cases z
          · have z2 := un.frzs b ob _ z
            obtain ⟨e1, _⟩ := hok b _ z
            obtain ⟨e2, _⟩ := hok' b _ z2
            rw [e] at e1
            cases e1
            exact e2
      have KX' : K.In s'.heap := fun b o e => kept b o (KX b o e)
      obtain ⟨as, hrd⟩ := Dw.reads (R := R) (cl := cl) hok' KX' d0 v u q r'
      exact ⟨u, as, rfl, hrd, OldK.of_keep kept, os, bare⟩
/-! ### the row -/
theorem layable_weight {ds : List WData} (h : WData.layableAll ds = true) : ∀ d ∈ ds, d.weight ≤ 1048576 := fun d hd =>
  (PySem.W.layableW_iff.mp (List.all_eq_true.mp h d hd)).2.2
theorem encAll_len : ∀ (cs : List Codec) (a : Codec.denoteAll cs), (Codec.encAll cs a).length = cs.length
  | [], _ => rfl
  | c :: cs, a => by
    show (Codec.encAll cs a.2).length + 1 = cs.length + 1
    rw [encAll_len cs a.2]
/-- the goal that k_headS leaves (case hc), from the promise of the row's def: whatever the arguments that the codecs let and the row asks for, the def gives what stands for enc (f ..) -/
theorem walk_spec {r : OpenSpec} {k : Nat} {q : Program} {loose : List Str} {XP : (Str → Option Value) → Heap → Prop} {YP : World → Heap → Prop} {d : DefRec} {K : Params → PySem.W.Frag} {CX : World → CXT} {ps : List Str} {sp : World → Sp}
    (hwell : r.wellSaid = true) (hdf : d.params.defaults = []) (hlen : r.args.length = ps.length) (hr : Room k callerA)
    (hY : ∀ (w : World) (h : Heap), YP w h → (K w.params).In h)
    (F : ∀ (w : World) (mg : Str → Option Value) (fa : Addr) (h : Heap), YP w h → (K w.params).In h → h.Ns mainGlobals mg → mg d.name = some (.ref fa) →
      ∃ fd : FuncData, (∀ (s : Shared) (us : List Value), us.length = ps.length → BindsTo s fd ⟨us, []⟩ (ps.zip us)) ∧
        ∀ base : Heap, (K w.params).In base → base.Ns mainGlobals mg → FnOk r.prog w (K w.params) mg base (CX w) k fa fd ps (sp w))
    (hsp : ∀ (w : World) (H : Hp) (xs : List V) (a : Codec.denoteAll r.args), OnlyF H → Codec.withinAll r.args a = true → Codec.app r.args r.asked a = true → DwAll (K w.params) H xs (Codec.encAll r.args a) →
      sp w xs H (fun v H' => Dw (K w.params) H' v (r.ret.enc (Codec.app r.args r.f a))) fun _ _ _ => False)
    (hCX : ∀ (w : World) (H : Hp) (s : Shared) (e : Value) (s' : Shared), CX w [] H s (fun _ _ _ => False) e s' → False) :
    PySem.W.WalkOS q loose XP YP r d [] (fun f vs => PySem.call f vs) := by
  intro w s_0 s₁ mg mb G Y fa o pm cd doc dV kV ho hd hcd hD hmg hg args vals as hpre hlay hrd hwl hlo
  obtain ⟨a, e1, e2⟩ := PySem.W.os_pre_some hpre
  obtain ⟨e3, hwi⟩ := Codec.encAll_of_decAll r.args args a e1
  subst e3
  have KX := hY w _ Y
  obtain ⟨fd, hb, hF⟩ := F w mg fa _ Y KX G.T.g hmg
  refine PySem.W.enter_call (codeAny_mono (spec_call (R := []) (cl := classAt s_0.heap) (d0 := r.ret.enc (Codec.app r.args r.f a)) KX G.T.g G.T.b G.T.builtins G.T.nolimit hg hwl (pl_encAll _ _) (layable_weight hlay) hr hF hb (by rw [encAll_len]; exact hlen)
    (fun H xs hO hS => hsp w H xs a hO hwi e2 hS) fun H e s' => hCX w H s₁ e s') fun r' s' hq => ?_)
  obtain ⟨u, as', rfl, h1, h2, h3, h4⟩ := hq
  exact ⟨.inl ⟨u, _, as', rfl, fun _ => rfl, h1, (OpenSpec.post_iff hwell hwi _ _).mpr rfl, fun z => Bool.noConfusion (show false = true from z)⟩, h2, h3, h4⟩
/-- the same where the promise hangs on the written part alone -/
theorem walk_specK {r : OpenSpec} {k : Nat} {q : Program} {loose : List Str} {XP : (Str → Option Value) → Heap → Prop} {YP : World → Heap → Prop} {d : DefRec} {K : Params → PySem.W.Frag} {CX : CXT} {ps : List Str} {sp : PySem.W.Frag → Sp}
    (hwell : r.wellSaid = true) (hdf : d.params.defaults = []) (hlen : r.args.length = ps.length) (hr : Room k callerA)
    (hY : ∀ (w : World) (h : Heap), YP w h → (K w.params).In h)
    (F : ∀ (w : World) (mg : Str → Option Value) (fa : Addr) (h : Heap), YP w h → (K w.params).In h → h.Ns mainGlobals mg → mg d.name = some (.ref fa) →
      ∃ fd : FuncData, (∀ (s : Shared) (us : List Value), us.length = ps.length → BindsTo s fd ⟨us, []⟩ (ps.zip us)) ∧
        ∀ base : Heap, (K w.params).In base → base.Ns mainGlobals mg → FnOk r.prog w (K w.params) mg base CX k fa fd ps (sp (K w.params)))
    (hsp : ∀ (K : PySem.W.Frag) (H : Hp) (xs : List V) (a : Codec.denoteAll r.args), OnlyF H → Codec.withinAll r.args a = true → Codec.app r.args r.asked a = true → DwAll K H xs (Codec.encAll r.args a) →
      sp K xs H (fun v H' => Dw K H' v (r.ret.enc (Codec.app r.args r.f a))) fun _ _ _ => False)
    (hCX : ∀ (H : Hp) (s : Shared) (e : Value) (s' : Shared), CX [] H s (fun _ _ _ => False) e s' → False) :
    PySem.W.WalkOS q loose XP YP r d [] (fun f vs => PySem.call f vs) :=
  walk_spec (K := K) (CX := fun _ => CX) (sp := fun w => sp (K w.params)) hwell hdf hlen hr hY F (fun w H xs a h1 h2 h3 h4 => hsp (K w.params) H xs a h1 h2 h3 h4) fun _ H s e s' => hCX H s e s'
end L2
end
section
set_option Elab.async false
set_option linter.all false
set_option maxRecDepth 100000
namespace L2
open PySem PySem.Spec PyProof.Rows

/-- a tuple, new or an old one, with all that was tracked as it was -/
abbrev MkT (H : Hp) (xs : List V) (Q : VK) : Prop := ∀ c H', H' c = some (.tup xs) → Same H H' → Q (.ref c) H'
theorem Same.new {H : Hp} {p : Addr} {o : HO} (h : H p = none) : Same H (upd H p o) := fun b u e => by
  rw [upd_ne (ne_of_none e h)]; exact e
theorem MkT.new {H : Hp} {xs : List V} {Q : VK} (h : MkT H xs Q) : ∀ p, H p = none → Q (.ref p) (upd H p (.tup xs)) := fun p hp => h p _ upd_same (Same.new hp)

section
variable {X : Cx}
/-- t + u of two tuples -/
def rPlusT : R2 := fun x y H Q => ∃ a b xs ys, x = .ref a ∧ y = .ref b ∧ H a = some (.tup xs) ∧ H b = some (.tup ys) ∧ xs.length + ys.length ≤ sizeLine ∧ MkT H (xs ++ ys) Q
theorem op_plusT : OpR X (binaryOp .Add) rPlusT := by
  intro pins s σ H x y v u Q I rx ry h
  obtain ⟨a, b, xs, ys, ex, ey, ha, hb, hz, q⟩ := h
  by_cases hx : xs = []
  · subst ex ey hx
    cases rx
    cases ry
    obtain ⟨its, r1, p1, _⟩ := I.tuple (SqT.of ha)
    obtain ⟨its2, r2, p2, _⟩ := I.tuple (SqT.of hb)
    have e0 : its = [] := r1.nil_iff.mpr rfl
    subst e0
    obtain ⟨⟨c1, d1, t1, s1⟩, ho, hc, n, hd⟩ := p1
    obtain ⟨⟨c2, d2, t2, s2⟩, ho2, hc2, n2, hd2⟩ := p2
    simp only at hc hd hc2 hd2
    subst hc hd hc2 hd2
    exact concat_meets ⟨_, ho, rfl⟩ ⟨_, ho2, rfl⟩ noFill_tuple_add seq_tuple_add PySem.F.slot_tuple_add PySem.F.entry_tuple_add
      (PySem.F.args_tuple_add_2 _ _) (tuple_addW0 a b #[] its2.toArray n n2 d1 d2 s1 s2 rfl) ⟨ho, ho2, ⟨.ref b, H, I, rfl, q b H hb (Same.refl H)⟩⟩
  · refine op_catT pins s σ H x y v u Q I rx ry ⟨a, b, xs, ys, ex, ey, SqT.of ha, SqT.of hb, hx, hz, fun e => ?_, fun _ => q.new⟩
    subst e
    exact q a H (by rw [List.append_nil]; exact ha) (Same.refl H)

theorem tup_exact {prog : Program} {w : World} {A : Around} {E : Value → Shared → Prop} {s : Shared} {t : Addr} {items : Array Value} {Q : Bool → Shared → Prop} (ht : IsTup s.heap t items) (h : Q true s) :
    wpAny (model prog w) A (Builtin.Tuple.tupleIsExact (.ref t)) Q E s := by
  unfold Builtin.Tuple.tupleIsExact
  first
    | exact wpAny_bind (wpAny_typeOf ht.typeIs (wpAny_pure h))
    | (refine wpAny_bind (wpAny_typeOf ht.typeIs ?_); wp_walk; exact h)
/-- the whole of a tuple is the tuple itself -/
theorem getItem_tuple_whole {prog : Program} {w : World} {A : Around} {E : Value → Shared → Prop} {s : Shared} {t sl : Addr} {items : Array Value} {vl vu : Value} {lo hi : Option Int} {Q : Value → Shared → Prop}
    (ht : IsTup s.heap t items) (hs : s.heap.IsSliceOf sl vl vu .none) (pl : IsPart vl lo) (pu : IsPart vu hi)
    (hw : HT.sIx items.size 0 lo = 0 ∧ HT.sIx items.size items.size hi = items.size) (h : Q (.ref t) s) : wpAny (model prog w) A (getItem (.ref t) (.ref sl)) Q E s := by
  obtain ⟨os, hos, hcs, hds⟩ := id hs
  have hTs : s.TypeIs (.ref sl) "slice" := ⟨os, hos, hcs⟩
  unfold getItem
  try with_reducible refine wpAny_holding ?_
  first | refine wpAny_bind (wpAny_pure ?_) | skip
  refine wpAny_bind (wpAny_sequenceKey ht.typeIs (by decide) ?_)
  refine wpAny_bind (wpAny_callSpecial?_slot (name := Str.ofString "__getitem__") ht.typeIs PyProof.Rows.slot_tuple_getitem
    (wpAny_call_entry PyProof.Rows.slot_tuple_getitem ht.typeIs entry_tuple_getitem ?_ (args_tuple_getitem _ _)))
  show wpAny _ _ (Builtin.Tuple.tupleItemsOf (.ref t) >>= _) _ _ s
  refine wpAny_bind (tupleItemsOf_ ht ?_)
  refine wpAny_bind (wpAny_typeOf hTs ?_)
  rw [if_pos (by decide)]
  refine wpAny_bind (HT.sliceApplied_gen hs pl pu ?_)
  rw [hw.1, hw.2]
  show wpAny _ _ (if (((0 : Nat) : Int) == 0 && (1 : Int) == 1 && (items.size - 0) == items.size) = true then _ else _) _ _ s
  rw [if_pos (by simp)]
  refine wpAny_bind (tup_exact ht ?_)
  rw [if_pos rfl]
  wp_walk
  first
    | exact ⟨_, rfl, wpAny_pure h⟩
    | exact ⟨_, rfl, h⟩
    | exact wpAny_pure ⟨_, rfl, wpAny_pure h⟩

/-- t[lo:hi] of a tuple, whole or not -/
def rCutT : V → Option Int → Option Int → Hp → VK → Prop := fun x lo hi H Q => ∃ a xs, x = .ref a ∧ H a = some (.tup xs) ∧ MkT H (cutV xs lo hi) Q
theorem sl_cutT : SlR X rCutT := by
  intro pins s σ H x v vl vu lo hi sl Q I rx hs pl pu h
  obtain ⟨a, xs, ex, hx, q⟩ := h
  by_cases hw : HT.sIx xs.length 0 lo = 0 ∧ HT.sIx xs.length xs.length hi = xs.length
  · subst ex
    cases rx
    obtain ⟨its, r, ht, hz⟩ := I.tuple (SqT.of hx)
    have hlen : its.toArray.size = xs.length := by rw [List.size_toArray]; exact r.length.symm
    refine ⟨"tuple", _, PyProof.Rows.slot_tuple_getitem.lookup, ht.typeIs, ?_⟩
    refine getItem_tuple_whole ht hs pl pu (by rw [hlen]; exact hw) ⟨.ref a, H, I, rfl, q a H ?_ (Same.refl H)⟩
    have e : cutV xs lo hi = xs := by unfold cutV; rw [hw.1, hw.2]; simp
    rw [e]; exact hx
  · exact sl_tup pins s σ H x v vl vu lo hi sl Q I rx hs pl pu ⟨a, xs, ex, SqT.of hx, hw, q.new⟩
end
end L2

end
section
set_option Elab.async false
set_option linter.all false
set_option maxRecDepth 100000
namespace L2
open PySem PySem.Spec PyProof.Rows

theorem noFill_tupleMul : fillsNumberSlot (.type "tuple") "mul" = pure false :=
  PySem.fillsNumberSlot_seq (id := "tuple.__mul__") (r := some (.builtin "tuple.__rmul__"))
    F.slot_tuple_mul.lookup (by decide +kernel) F.slot_tuple_rmul.lookup (by decide +kernel)
theorem repeat_tupleMul : seqRepeat? (.type "tuple") = pure (some (.builtin "tuple.__mul__")) := by
  unfold seqRepeat?
  rw [PySem.seqSlot_of (T := "tuple") (name := "__mul__") (id := "tuple.__mul__")
      F.slot_tuple_mul.lookup (by decide +kernel),
    PySem.seqSlot_of (T := "tuple") (name := "__rmul__") (id := "tuple.__rmul__")
      F.slot_tuple_rmul.lookup (by decide +kernel)]
  rfl
theorem rmul_int_tup (a : Int) (t : Tok) (l : Addr) (items : Array Value) (n : Nat) (dd : Option Addr) (sl : Array (Option Value)) :
    Meets (Builtin.«int.__rmul__» ⟨[.int a t, .ref l], []⟩)
      (fun _ R s => s.heap.get? l = some { cls := .type "tuple", dict := dd, data := .seq items n, slots := sl } ∧
        R (.ok (.ret Value.notImplemented)) s) :=
  .of_wp fun prog w A R s h => by
    obtain ⟨hp, g, d, tk, os⟩ := s
    obtain ⟨hl, h⟩ := h
    wp_walk using AutoSeq1.wpAny_loadPart' hl
    exact ⟨_, rfl, h⟩
theorem tup_mul_one (l : Addr) (x : Value) (n : Nat) (k : Int) (t : Tok) (dd : Option Addr) (sl : Array (Option Value)) (h1 : k = 1) :
    Meets (Builtin.«tuple.__mul__» ⟨[.ref l, .int k t], []⟩)
      (fun _ R s => s.heap.get? l = some { cls := .type "tuple", dict := dd, data := .seq #[x] n, slots := sl } ∧ R (.ok (.ret (.ref l))) s) :=
  .of_wp fun prog w A R s h => by
    subst h1
    obtain ⟨hp, g, d, tk, os⟩ := s
    obtain ⟨hl, h⟩ := h
    have f1 := AutoSeq1.idx_int
    wp_walk using AutoSeq1.wpAny_loadPart' hl
    exact ⟨_, rfl, h⟩
set_option maxHeartbeats 4000000 in
theorem tup_mul_few (l : Addr) (x : Value) (n : Nat) (k : Int) (t : Tok) (dd : Option Addr) (sl : Array (Option Value)) (h1 : 1 < k) (h2 : k ≤ 4) :
    Meets (Builtin.«tuple.__mul__» ⟨[.ref l, .int k t], []⟩)
      (fun _ R s => s.heap.get? l = some { cls := .type "tuple", dict := dd, data := .seq #[x] n, slots := sl } ∧
        R (.ok (.ret (.ref s.heap.objs.size))) { s with heap := s.heap.push { cls := .type "tuple", data := .seq (List.replicate k.toNat x).toArray } }) :=
  .of_wp fun prog w A R s h => by
    obtain ⟨hp, g, d, tk, os⟩ := s
    obtain ⟨hl, h⟩ := h
    have f1 := AutoSeq1.idx_int
    have e : k = 2 ∨ k = 3 ∨ k = 4 := by omega
    rcases e with e | e | e <;> subst e <;> (wp_walk using AutoSeq1.wpAny_loadPart' hl; exact ⟨_, rfl, h⟩)

section
variable {X : Cx}
/-- (x,) * k for a k of 1 to 4 -/
def rTimesT : R2 := fun x y H Q => ∃ a v k, x = .ref a ∧ y = .int k ∧ H a = some (.tup [v]) ∧ 1 ≤ k ∧ k ≤ 4 ∧ MkT H (List.replicate k.toNat v) Q
theorem Vals.rep1 {x : V} {u : Value} (r : RelV x u) : ∀ n : Nat, Vals (List.replicate n x) (List.replicate n u)
  | 0 => .nil
  | n + 1 => .cons r (Vals.rep1 r n)
theorem op_timesT : OpR X (binaryOp .Mult) rTimesT := by
  intro pins s σ H x y v u Q I rx ry h
  obtain ⟨a, v0, k, ex, ey, ha, h1, h4, q⟩ := h
  subst ex ey
  cases rx
  obtain ⟨t, rfl⟩ := ry
  obtain ⟨its, r, p, hz⟩ := I.tuple (SqT.of ha)
  cases r with
  | @cons _ u0 _ us r0 rr =>
    cases rr
    obtain ⟨⟨c1, d1, t1, s1⟩, ho, hc, n, hd⟩ := p
    simp only at hc hd
    subst hc hd
    have road : ∀ {R : Value → Shared → Prop}, wpAny (model X.prog X.w) X.A (call (.builtin "tuple.__mul__") [.ref a, .int k t]) R X.xe s →
        wpAny (model X.prog X.w) X.A (binaryOp .Mult (.ref a) (.int k t)) R X.xe s := fun {R} hcall =>
      wpAny_binaryOp_repeat_ref (T := "tuple") (U := "int") (by decide) ⟨_, ho, rfl⟩ (fun s' => typeIs_int s' k t) noFill_tupleMul
        F.fills_int_mul F.slot_int_rmul repeat_tupleMul F.slot_int_index.lookup
        (call_meets F.slot_int_rmul (typeIs_int s k t) F.entry_int_rmul (F.args_int_rmul_2 _ _) (rmul_int_tup k t a #[u0] n d1 s1) ⟨ho, rfl, ⟨_, ho, rfl⟩, hcall⟩)
    by_cases hk : k = 1
    · refine road (call_meets F.slot_tuple_mul ⟨_, ho, rfl⟩ F.entry_tuple_mul (F.args_tuple_mul_2 _ _) (tup_mul_one a u0 n k t d1 s1 hk) ⟨ho, ?_⟩)
      subst hk
      exact ⟨.ref a, H, I, rfl, q a H ha (Same.refl H)⟩
    · refine road (call_meets F.slot_tuple_mul ⟨_, ho, rfl⟩ F.entry_tuple_mul (F.args_tuple_mul_2 _ _) (tup_mul_few a u0 n k t d1 s1 (by omega) h4) ⟨ho, ?_⟩)
      refine ⟨.ref s.heap.objs.size, _, I.laid (t' := s.toks) (o := .tup (List.replicate k.toNat v0)) (fun b ob e => Heap.get?_push_of_some _ e)
        (Nat.le_refl _) ?_, rfl, q.new _ (I.hok.fresh (Nat.le_refl _))⟩
      exact ⟨by rw [List.length_replicate, sizeLine_eq]; omega, _, Vals.rep1 r0 _, IsTupD.new _ _⟩
end
end L2

end
section
set_option Elab.async false
set_option linter.all false
set_option maxRecDepth 100000
namespace L2
open PySem PySem.Spec PyProof.Rows

/-! ### t < u of two tuples of pairs of ints -/
abbrev II := Int × Int
def ltII (p q : II) : Bool := HT.lexLt [p.1, p.2] [q.1, q.2]
def lexP : List II → List II → Bool
  | [], [] => false
  | [], _ :: _ => true
  | _ :: _, [] => false
  | p :: ps, q :: qs => if p = q then lexP ps qs else ltII p q
theorem lexP_cons (p q : II) (ps qs : List II) : lexP (p :: ps) (q :: qs) = if p = q then lexP ps qs else ltII p q := rfl
def PrAt (h : Heap) (v : Value) (p : II) : Prop := ∃ a t u, v = .ref a ∧ IsTup h a #[.int p.1 t, .int p.2 u]
abbrev PrsAre (h : Heap) : List Value → List II → Prop := Paired (PrAt h)

section
open PySem.SeqAt
theorem eq_pair {A : Around} {s : Shared} {v u : Value} {p q : II} (hv : PrAt s.heap v p) (hu : PrAt s.heap u q) (hr : A.units < cLine) : EqAt A s v u (decide (p = q)) := by
  obtain ⟨a, t1, t2, rfl, ha⟩ := hv
  obtain ⟨b, t3, t4, rfl, hb⟩ := hu
  by_cases hab : a = b
  · subst hab
    have e : p = q := by
      obtain ⟨o, ho, _, n, hd⟩ := ha
      obtain ⟨o', ho', _, n', hd'⟩ := hb
      rw [ho] at ho'
      cases ho'
      rw [hd] at hd'
      simp at hd'
      exact Prod.ext hd'.1.1.1 hd'.1.2.1
    rw [decide_eq_true e]
    exact EqAt.same _
  · refine EqAt.of_refs hab ?_
    have h := RcAt.tuples (A := A) (s := s) (e := fun j => if j = 0 then p.1 == q.1 else p.2 == q.2) ha hb hr (fun j h1 h2 => by
      have hj : j = 0 ∨ j = 1 := by simp at h1; omega
      rcases hj with rfl | rfl
      · exact EqAt.int_int _ _ _ _
      · exact EqAt.int_int _ _ _ _)
    have e : ((List.range (min (#[Value.int p.1 t1, Value.int p.2 t2] : Array Value).size (#[Value.int q.1 t3, Value.int q.2 t4] : Array Value).size)).all (fun j => if j = 0 then p.1 == q.1 else p.2 == q.2) &&
        (#[Value.int p.1 t1, Value.int p.2 t2] : Array Value).size == (#[Value.int q.1 t3, Value.int q.2 t4] : Array Value).size) = decide (p = q) := by
      show ((List.range 2).all (fun j => if j = 0 then p.1 == q.1 else p.2 == q.2) && true) = _
      rw [Bool.and_true]
      obtain ⟨p1, p2⟩ := p
      obtain ⟨q1, q2⟩ := q
      by_cases h1 : p1 = q1
      · by_cases h2 : p2 = q2
        · subst h1 h2; simp [List.range_succ]
        · simp [List.range_succ, h2]
      · simp [List.range_succ, h1]
    rw [e] at h
    exact h
theorem lt_pair {A : Around} {s : Shared} {v u : Value} {p q : II} (hv : PrAt s.heap v p) (hu : PrAt s.heap u q) (hr : A.units < cLine) (prog : Program) (w : World) (E : Value → Shared → Prop) (Q : Value → Shared → Prop)
    (h : Q (.bool (ltII p q)) s) : wpAny (model prog w) A (richCompare .Lt v u) Q E s := by
  obtain ⟨a, t1, t2, rfl, ha⟩ := hv
  obtain ⟨b, t3, t4, rfl, hb⟩ := hu
  exact (HT.lt_tupInts ha hb (.cons _ _ (.cons _ _ .nil)) (.cons _ _ (.cons _ _ .nil)) hr h : wpAny (model prog w) A (compareOp .Lt (.ref a) (.ref b)) Q E s)

open PySem.AutoSeq1 (wpAny_loadPart')
open PySem.MeetsSeq PySem.MeetsSeq2 PySem.MeetsSeq3
theorem tuple_lt_prs (l b : Addr) (items items2 : Array Value) (n n2 : Nat) (dd dd2 : Option Addr) (sl sl2 : Array (Option Value)) (ns ms : List II) :
    Meets (Builtin.«tuple.__lt__» ⟨[.ref l, .ref b], []⟩)
      (fun A R s => A.in1.units < cLine ∧ PrsAre s.heap items.toList ns ∧ PrsAre s.heap items2.toList ms ∧
        s.heap.get? l = some { cls := .type "tuple", dict := dd, data := .seq items n, slots := sl } ∧
        s.heap.get? b = some { cls := .type "tuple", dict := dd2, data := .seq items2 n2, slots := sl2 } ∧ R (.ok (.ret (.bool (lexP ns ms)))) s) :=
  .of_wp fun prog w A R s h => by
    obtain ⟨hp, g, d, tk, os⟩ := s
    obtain ⟨hr, hi, hj, hl, hb, h⟩ := h
    have f2 := AutoSeq1.sub_tuple_tuple
    have z1 : items.size = ns.length := by rw [← hi.length]; simp
    have z2 : items2.size = ms.length := by rw [← hj.length]; simp
    wp_walk using wpAny_loadPart' hl, wpAny_loadPart' hb, wpAny_forIn_list _ (fun rest b s' => b.1 = none ∧ s' = ⟨hp, g, d, tk, os⟩ ∧
      ∃ (vs ws : List Value) (ps qs : List II), rest = vs.zip ws ∧ PrsAre hp vs ps ∧ PrsAre hp ws qs ∧ ps.length + items2.size = qs.length + items.size ∧
        R (.ok (.ret (.bool (lexP ps qs)))) ⟨hp, g, d, tk, os⟩) _
    case turn =>
      rintro ⟨y, x⟩ rest b s' ⟨hb', rfl, vs, ws, ps, qs, hz, hvi, hwi, hlen, hR⟩
      cases hvi with
      | nil => rw [List.zip_nil_left] at hz; cases hz
      | @cons v p vs' ps' hv hvi' =>
        cases hwi with
        | nil => rw [List.zip_nil_right] at hz; cases hz
        | @cons u q ws' qs' hu hwi' =>
          rw [List.zip_cons_cons] at hz
          injection hz with hyx hrest
          injection hyx with hy hx
          subst hy hx
          rw [lexP_cons] at hR
          simp only [List.length_cons] at hlen
          refine wpAny_bind (eq_pair (s := ⟨hp, g, d, tk, os⟩) hv hu hr prog w _ _ ?_)
          by_cases e : p = q
          · rw [if_pos e] at hR
            rw [decide_eq_true e]
            wp_walk
            exact ⟨rfl, rfl, _, _, _, _, hrest, hvi', hwi', by omega, hR⟩
          · rw [if_neg e] at hR
            rw [decide_eq_false e]
            have hri := lt_pair (s := ⟨hp, g, d, tk, os⟩) hv hu hr prog w
            wp_walk using hri
            exact ⟨_, rfl, by simpa using hR⟩
    case fin =>
      rintro ⟨b1, b2⟩ s' ⟨hb', rfl, vs, ws, ps, qs, hz, hvi, hwi, hlen, hR⟩
      simp only at hb'
      subst hb'
      have hv : lexP ps qs = decide (items.size < items2.size) := by
        cases hvi with
        | nil =>
          cases hwi with
          | nil => simp only [List.length_nil] at hlen; exact (decide_eq_false (by omega)).symm
          | cons hu _ => simp only [List.length_nil, List.length_cons] at hlen; exact (decide_eq_true (by omega)).symm
        | cons hv _ =>
          cases hwi with
          | nil => simp only [List.length_nil, List.length_cons] at hlen; exact (decide_eq_false (by omega)).symm
          | cons hu _ => rw [List.zip_cons_cons] at hz; cases hz
      rw [hv] at hR
      wp_walk
      exact ⟨_, rfl, by simpa [Builtin.Tuple.tupleCompareSizes] using hR⟩
    case h => exact ⟨rfl, rfl, items.toList, items2.toList, ns, ms, rfl, hi, hj, by omega, h⟩
end

/-! ### min(a, b), the comparison as it may be -/
section
variable {prog : Program} {w : World} {A : Around} {E : Value → Shared → Prop} {s : Shared}
/-- what is kept but at the iterator and the list of the best -/
abbrev KeepBut (ex : List Addr) (h h' : Heap) : Prop := ∀ c o, c ∉ ex → h.get? c = some o → h'.get? c = some o
theorem min_last {R : Result → Shared → Prop} {I S T : Addr} {items : Array Value} {v : Value} {c : Nat} (W : Walks prog w A.in1 I [I, T] [I] items.size (fun i v => items[i]? = some v) (fun i h => h.IsTupleIter I T i ∧ h.IsTuple T items))
    (hSI : S ≠ I) (hst : s.heap.IsTupleIter I T items.size ∧ s.heap.IsTuple T items) (hS : s.heap.get? S = some { cls := .type "list", dict := none, data := .seq #[v, v] c, slots := #[] })
    (hR : ∀ h' tk, KeepBut [I, S] s.heap h' → R (.ok (.ret v)) { s with heap := h', toks := tk }) :
    codeAny (model prog w) A (.builtin "min.loop" ⟨[.ref I, .none, .ref S], []⟩) R s := by
  refine codeAny_builtin F.entry_min_loop ?_
  rw [Around.under_plainId F.plain_min_loop _]
  show wpAny _ A.in1 (seqItems? (.ref S) >>= _) _ _ s
  refine wpAny_bind (wpAny_seqItems hS rfl ?_)
  show wpAny _ A.in1 (tryCatch (pyNext (.ref I)) _ >>= _) _ _ s
  refine wpAny_bind (wpAny_tryCatch (W.done s _ _ hst fun h' tk hk => ?_))
  have hS' := hk S _ (by simpa using hSI) hS
  show wpAny _ A.in1 (updateSeq S (fun _ => #[]) >>= _) _ _ _
  refine wpAny_bind ?_
  refine wpAny_updateSeq hS' rfl (wpAny_bind (wpAny_letGo (wpAny_pure (hR _ tk fun b o hb e => ?_))))
  have n1 : b ≠ I := fun z => hb (by simp [z])
  have n2 : b ≠ S := fun z => hb (by simp [z])
  exact (Heap.get?_update_other _ _ (Ne.symm n2)).trans (hk b o (by simpa using n1) e)
theorem min_next {R : Result → Shared → Prop} {I S T : Addr} {items : Array Value} {v u : Value} {c i : Nat} {k : Bool} (W : Walks prog w A.in1 I [I, T] [I] items.size (fun i v => items[i]? = some v) (fun i h => h.IsTupleIter I T i ∧ h.IsTuple T items))
    (hSI : S ≠ I) (hST : S ≠ T) (hi : i < items.size) (hu : items[i]? = some u) (hst : s.heap.IsTupleIter I T i ∧ s.heap.IsTuple T items)
    (hS : s.heap.get? S = some { cls := .type "list", dict := none, data := .seq #[v, v] c, slots := #[] })
    (hcmp : ∀ (s' : Shared) (Q' : Value → Shared → Prop) (E' : Value → Shared → Prop), KeepBut [I, S] s.heap s'.heap → Q' (.bool k) s' → wpAny (model prog w) A.in1 (richCompare .Lt u v) Q' E' s')
    (hR : ∀ h' tk c', KeepBut [I, S] s.heap h' → h'.IsTupleIter I T (i + 1) ∧ h'.IsTuple T items →
      h'.get? S = some { cls := .type "list", dict := none, data := .seq #[if k then u else v, if k then u else v] c', slots := #[] } →
      codeAny (model prog w) A (.builtin "min.loop" ⟨[.ref I, .none, .ref S], []⟩) R { s with heap := h', toks := tk }) :
    codeAny (model prog w) A (.builtin "min.loop" ⟨[.ref I, .none, .ref S], []⟩) R s := by
  have hname : (toString "min" ++ toString ".loop" : String) = "min.loop" := by decide
  refine codeAny_builtin F.entry_min_loop ?_
  rw [Around.under_plainId F.plain_min_loop _]
  show wpAny _ A.in1 (seqItems? (.ref S) >>= _) _ _ s
  refine wpAny_bind (wpAny_seqItems hS rfl ?_)
  show wpAny _ A.in1 (tryCatch (pyNext (.ref I)) _ >>= _) _ _ s
  refine wpAny_bind (wpAny_tryCatch (W.item i s _ _ hi hst fun x h' tk hP hst' hk => ?_))
  have ex : x = u := Option.some.inj ((show items[i]? = some x from hP).symm.trans hu)
  subst ex
  have hS' := hk S _ (by simpa using hSI) hS
  have kb : KeepBut [I, S] s.heap h' := fun b o hb e => hk b o (fun z => hb (by simp at z; simp [z])) e
  show wpAny _ A.in1 (tryCatch (holding [x, x] (richCompare .Lt x v >>= _)) _ >>= _) _ _ _
  refine wpAny_bind (wpAny_tryCatch (wpAny_holding (wpAny_bind (hcmp { s with heap := h', toks := tk } _ _ kb ?_))))
  refine wpAny_bind (wpAny_holding (wpAny_truthy_bool ?_))
  refine wpAny_bind (wpAny_letGo (wpAny_pure ?_))
  cases k with
  | true =>
    simp only [if_true]
    refine wpAny_bind ?_
    refine wpAny_updateSeq hS' rfl (wpAny_bind (wpAny_letGo ?_))
    rw [hname]
    have up : ∀ b o, b ≠ S → h'.get? b = some o → (h'.update S (Obj.mapSeq fun _ => #[x, x])).get? b = some o := fun b o hb e => (Heap.get?_update_other _ _ (Ne.symm hb)).trans e
    exact wpAny_pure ⟨plainId_quiet F.plain_min_loop _, hR _ tk _ (fun b o hb e => up b o (fun z => hb (by simp [z])) (kb b o hb e))
      ⟨hst'.1.at fun o e => up I o (Ne.symm hSI) e, hst'.2.at fun o e => up T o (Ne.symm hST) e⟩ (Heap.get?_update_self _ hS' rfl)⟩
  | false =>
    simp only [Bool.false_eq_true, if_false]
    refine wpAny_bind (wpAny_letGo ?_)
    rw [hname]
    exact wpAny_pure ⟨plainId_quiet F.plain_min_loop _, hR h' tk c kb hst' hS'⟩
theorem min_first {R : Result → Shared → Prop} {I S T : Addr} {items : Array Value} {u : Value} {c : Nat} (W : Walks prog w A.in1 I [I, T] [I] items.size (fun i v => items[i]? = some v) (fun i h => h.IsTupleIter I T i ∧ h.IsTuple T items))
    (hSI : S ≠ I) (hST : S ≠ T) (hi : 0 < items.size) (hu : items[0]? = some u) (hst : s.heap.IsTupleIter I T 0 ∧ s.heap.IsTuple T items)
    (hS : s.heap.get? S = some { cls := .type "list", dict := none, data := .seq #[] c, slots := #[] })
    (hR : ∀ h' tk c', KeepBut [I, S] s.heap h' → h'.IsTupleIter I T 1 ∧ h'.IsTuple T items →
      h'.get? S = some { cls := .type "list", dict := none, data := .seq #[u, u] c', slots := #[] } →
      codeAny (model prog w) A (.builtin "min.loop" ⟨[.ref I, .none, .ref S], []⟩) R { s with heap := h', toks := tk }) :
    codeAny (model prog w) A (.builtin "min.loop" ⟨[.ref I, .none, .ref S], []⟩) R s := by
  have hname : (toString "min" ++ toString ".loop" : String) = "min.loop" := by decide
  refine codeAny_builtin F.entry_min_loop ?_
  rw [Around.under_plainId F.plain_min_loop _]
  show wpAny _ A.in1 (seqItems? (.ref S) >>= _) _ _ s
  refine wpAny_bind (wpAny_seqItems hS rfl ?_)
  show wpAny _ A.in1 (tryCatch (pyNext (.ref I)) _ >>= _) _ _ s
  refine wpAny_bind (wpAny_tryCatch (W.item 0 s _ _ hi hst fun x h' tk hP hst' hk => ?_))
  have ex : x = u := Option.some.inj ((show items[0]? = some x from hP).symm.trans hu)
  subst ex
  have hS' := hk S _ (by simpa using hSI) hS
  have up : ∀ b o, b ≠ S → h'.get? b = some o → (h'.update S (Obj.mapSeq fun _ => #[x, x])).get? b = some o := fun b o hb e => (Heap.get?_update_other _ _ (Ne.symm hb)).trans e
  show wpAny _ A.in1 (updateSeq S (fun _ => #[x, x]) >>= _) _ _ _
  refine wpAny_bind ?_
  refine wpAny_updateSeq hS' rfl ?_
  rw [hname]
  exact wpAny_pure ⟨plainId_quiet F.plain_min_loop _, hR _ tk _ (fun b o hb e => up b o (fun z => hb (by simp [z])) (hk b o (fun z => hb (by simp at z; simp [z])) e))
    ⟨hst'.1.at fun o e => up I o (Ne.symm hSI) e, hst'.2.at fun o e => up T o (Ne.symm hST) e⟩ (Heap.get?_update_self _ hS' rfl)⟩
theorem min_two_refs {a b : Addr} {k : Bool} {Q : Value → Shared → Prop} (hh : A.handled = none) (ha : ∃ o, s.heap.get? a = some o)
    (hcmp : ∀ (s' : Shared) (Q' : Value → Shared → Prop) (E' : Value → Shared → Prop), (∀ c o, s.heap.get? c = some o → s'.heap.get? c = some o) → Q' (.bool k) s' →
      wpAny (model prog w) A.in1 (richCompare .Lt (.ref b) (.ref a)) Q' E' s')
    (h : ∀ h' tk, (∀ c o, s.heap.get? c = some o → h'.get? c = some o) → Q (.ref (if k then b else a)) { s with heap := h', toks := tk }) :
    wpAny (model prog w) A (call (.builtin "min") [.ref a, .ref b]) Q E s := by
  have hname : (toString "min" ++ toString ".loop" : String) = "min.loop" := by decide
  refine call_function_tree F.kind_min F.plain_min F.entry_min (F.args_min2 _ _) ?_
  show wpAny _ A.in1 (Builtin.Builtins.bindParams "min" ["key", "default"] 0 ⟨[], []⟩ >>= _) _ _ s
  refine wpAny_bind (wpAny_of_eq (show Builtin.Builtins.bindParams "min" ["key", "default"] 0 ⟨[], []⟩ = pure [none, none] from rfl) ?_)
  show wpAny _ A.in1 (newTuple [.ref a, .ref b] >>= _) _ _ s
  refine wpAny_bind (wpAny_newObj_type ?_)
  have hz1 : (s.heap.push { cls := .type "tuple", data := .seq #[Value.ref a, Value.ref b] }).objs.size = s.heap.objs.size + 1 := Heap.size_push ..
  have hT : (s.heap.push { cls := .type "tuple", data := .seq #[Value.ref a, Value.ref b] }).IsTuple s.heap.objs.size #[Value.ref a, Value.ref b] := ⟨_, Heap.get?_push_size _ rfl, rfl, 0, rfl⟩
  refine wpAny_bind (wpAny_pyIter_tuple hT ?_)
  refine wpAny_bind (wpAny_newObj_type ?_)
  rw [hname]
  generalize hh1 : s.heap.push { cls := .type "tuple", data := .seq #[Value.ref a, Value.ref b] } = h1 at hz1 hT ⊢
  have k1 : ∀ c o, s.heap.get? c = some o → h1.get? c = some o := fun c o e => by rw [← hh1]; exact Heap.get?_push_of_some _ e
  have l1 : s.heap.objs.size < h1.objs.size := by rw [hz1]; exact Nat.lt_succ_self _
  have W := Walks.tuple (prog := prog) (w := w) (A := A.in1) hh h1.objs.size s.heap.objs.size (Nat.ne_of_lt l1) #[Value.ref a, Value.ref b]
  have lt : ∀ c o, s.heap.get? c = some o → c < s.heap.objs.size := fun c o e => Heap.lt_size e
  generalize hh2 : h1.push { cls := .type "tuple_iterator", data := .fields #[.ref s.heap.objs.size, .int 0 0] } = h2
  have z3 : h2.objs.size = h1.objs.size + 1 := by rw [← hh2]; exact Heap.size_push ..
  have l2 : h1.objs.size < h2.objs.size := by rw [z3]; exact Nat.lt_succ_self _
  have k2 : ∀ c o, s.heap.get? c = some o → h2.get? c = some o := fun c o e => by rw [← hh2]; exact Heap.get?_push_of_some _ (k1 c o e)
  have out : ∀ c o, s.heap.get? c = some o → c ∉ [h1.objs.size, h2.objs.size] := fun c o e hm => by
    have q := lt c o e
    rcases List.mem_cons.mp hm with z | z
    · rw [z] at q; exact Nat.lt_asymm q l1
    · rw [List.mem_singleton.mp z] at q; exact Nat.lt_asymm q (Nat.lt_trans l1 l2)
  have st0 : (h2.push { cls := .type "list", data := .seq ([] : List Value).toArray }).IsTupleIter h1.objs.size s.heap.objs.size 0 ∧ (h2.push { cls := .type "list", data := .seq ([] : List Value).toArray }).IsTuple s.heap.objs.size #[Value.ref a, Value.ref b] := by
    rw [← hh2]
    exact ⟨⟨_, Heap.get?_push_of_some _ (Heap.get?_push_size _ rfl), rfl, rfl⟩, (hT.push _).push _⟩
  have e2 : (if k = true then Value.ref b else Value.ref a) = Value.ref (if k = true then b else a) := by cases k <;> rfl
  refine wpAny_pure ⟨plainId_quiet F.plain_min_loop _, min_first (S := h2.objs.size) (u := .ref a) W (Nat.ne_of_gt l2) (Nat.ne_of_gt (Nat.lt_trans l1 l2)) (Nat.zero_lt_succ _) rfl st0 (Heap.get?_push_size _ rfl)
    fun h3 tk3 c3 kb3 st3 hS3 => min_next (u := .ref b) (k := k) W (Nat.ne_of_gt l2) (Nat.ne_of_gt (Nat.lt_trans l1 l2)) (Nat.lt_succ_self 1) rfl st3 hS3 (fun s' Q' E' kb hq => hcmp s' Q' E' (fun c o e => ?_) hq)
      fun h4 tk4 c4 kb4 st4 hS4 => min_last (v := .ref (if k = true then b else a)) W (Nat.ne_of_gt l2) st4 (by rw [e2] at hS4; exact hS4) fun h5 tk5 kb5 => ?_⟩
  · exact kb c o (out c o e) (kb3 c o (out c o e) (Heap.get?_push_of_some _ (k2 c o e)))
  · exact h h5 tk5 fun c o e => kb5 c o (out c o e) (kb4 c o (out c o e) (kb3 c o (out c o e) (Heap.get?_push_of_some _ (k2 c o e))))
end
/-- a pair of ints at an address -/
abbrev PrH (H : Hp) (a : Addr) (p : II) : Prop := H a = some (.tup [.int p.1, .int p.2])
abbrev PrsH (H : Hp) : List Addr → List II → Prop := Paired (PrH H)
theorem Vals.ofRefs : ∀ {as : List Addr} {us : List Value}, Vals (as.map V.ref) us → us = as.map Value.ref
  | [], _, r => by cases r; rfl
  | a :: as, _, r => by
    cases r with
    | cons h t =>
      cases h
      rw [Vals.ofRefs t]
      rfl
section
variable {X : Cx}
theorem Inv.prs {pins : List (Addr × Obj)} {σ : St} {H : Hp} {s : Shared} (I : Inv X pins σ H s) {as : List Addr} {ps : List II} (h : PrsH H as ps) : PrsAre s.heap (as.map Value.ref) ps := by
  induction h with
  | nil => exact .nil
  | @cons a p as ps h t ih =>
    refine .cons ?_ ih
    obtain ⟨its, r, q, _⟩ := I.tuple (SqT.of h)
    cases r with
    | cons r1 r2 =>
      cases r2 with
      | cons r3 r4 =>
        cases r4
        obtain ⟨t1, rfl⟩ := r1
        obtain ⟨t2, rfl⟩ := r3
        exact ⟨a, t1, t2, rfl, q⟩
theorem PrsAre.keep {h h' : Heap} (k : ∀ c o, h.get? c = some o → h'.get? c = some o) {vs : List Value} {ps : List II} (x : PrsAre h vs ps) : PrsAre h' vs ps :=
  Paired.mapP x fun v p ⟨a, t, u, e, o, ho, r⟩ => ⟨a, t, u, e, o, k _ _ ho, r⟩
/-- min(t, u) of two tuples of pairs -/
theorem call_minT (hc : X.calm = true) (hu : X.A.units + 2 < cLine) : CallR X (.builtin "min") (fun xs H Q => ∃ a b as bs ps qs, xs = [.ref a, .ref b] ∧ H a = some (.tup (as.map V.ref)) ∧ H b = some (.tup (bs.map V.ref)) ∧
    PrsH H as ps ∧ PrsH H bs qs ∧ Q (.ref (if lexP qs ps = true then b else a)) H) := by
  intro pins s σ H xs us Q I r h
  obtain ⟨a, b, as, bs, ps, qs, rfl, ha, hb, hps, hqs, q⟩ := h
  obtain ⟨u, w', rfl, ru, rw'⟩ := vals2 r
  cases ru
  cases rw'
  obtain ⟨its, r1, p1, _⟩ := I.tuple (SqT.of ha)
  obtain ⟨its2, r2, p2, _⟩ := I.tuple (SqT.of hb)
  have e1 := r1.ofRefs
  have e2 := r2.ofRefs
  subst e1 e2
  have g1 := I.prs hps
  have g2 := I.prs hqs
  obtain ⟨⟨c1, d1, t1, s1⟩, ho, hc1, n, hd⟩ := id p1
  obtain ⟨⟨c2, d2, t2, s2⟩, ho2, hc2, n2, hd2⟩ := id p2
  simp only at hc1 hd hc2 hd2
  subst hc1 hd hc2 hd2
  refine min_two_refs (k := lexP qs ps) (I.ok.hd hc) ⟨_, ho⟩ (fun s' Q' E' kp hq => ?_) fun h' tk kp => ⟨.ref (if lexP qs ps = true then b else a), H, I.kept kp, rfl, q⟩
  exact richCompare_meets_room (op := .Lt) ⟨_, kp _ _ ho2, rfl⟩ ⟨_, kp _ _ ho, rfl⟩ PySem.F.slot_tuple_lt PySem.F.entry_tuple_lt (PySem.F.args_tuple_lt_2 _ _)
    (tuple_lt_prs b a (bs.map Value.ref).toArray (as.map Value.ref).toArray n2 n d2 d1 s2 s1 qs ps)
    ⟨hu, g2.keep kp, g1.keep kp, kp _ _ ho2, kp _ _ ho, show Value.bool (lexP qs ps) ≠ Value.notImplemented ∧ Q' (.bool (lexP qs ps)) s' from ⟨(fun x => nomatch x), hq⟩⟩ (Nat.lt_of_succ_lt hu)
end
end L2

end
section
set_option Elab.async false
set_option linter.all false
set_option maxRecDepth 100000
namespace L2
open PySem PySem.Spec PyProof.Rows

/-! ### a dict's values and pairs, whatever its keys -/
section
variable {prog : Program} {w : World} {A : Around} {E : Value → Shared → Prop} {s : Shared}
/-- d.values(), d.items(): the view -/
theorem view_vals {d : Addr} {o : Obj} {R : Result → Shared → Prop} (hd : (d == sysModules) = false) (hc : o.ExactDict) :
    MeetsIn prog w (Builtin.«dict.values» ⟨[.ref d], []⟩) (fun _ R s => s.heap.get? d = some o ∧
      R (.ok (.ret (.ref s.heap.objs.size))) { s with heap := s.heap.push { cls := .type "dict_values", data := .fields #[.ref d] } }) :=
  .of_wp fun A R s ⟨hm, h⟩ => by
    have hT : s.TypeIs (.ref d) "dict" := ⟨o, hm, hc.1⟩
    refine wpAny_bind ?_
    unfold Builtin.Dict.noArgs
    refine wpAny_bind (wpAny_notOrdered_dict hT ?_)
    show wpAny _ _ (pure d) _ _ s
    refine wpAny_pure ?_
    show wpAny _ _ (Builtin.Dict.showsAll d >>= _) _ _ s
    unfold Builtin.Dict.showsAll
    rw [if_neg (by rw [hd]; exact Bool.false_ne_true)]
    exact wpAny_bind (wpAny_pure (wpAny_bind (wpAny_newObj_type (wpAny_pure ⟨_, rfl, h⟩))))
theorem view_items {d : Addr} {o : Obj} {R : Result → Shared → Prop} (hd : (d == sysModules) = false) (hc : o.ExactDict) :
    MeetsIn prog w (Builtin.«dict.items» ⟨[.ref d], []⟩) (fun _ R s => s.heap.get? d = some o ∧
      R (.ok (.ret (.ref s.heap.objs.size))) { s with heap := s.heap.push { cls := .type "dict_items", data := .fields #[.ref d] } }) :=
  .of_wp fun A R s ⟨hm, h⟩ => by
    have hT : s.TypeIs (.ref d) "dict" := ⟨o, hm, hc.1⟩
    unfold Builtin.«dict.items»
    refine wpAny_bind ?_
    unfold Builtin.Dict.noArgs
    refine wpAny_bind (wpAny_notOrdered_dict hT ?_)
    show wpAny _ _ (pure d) _ _ s
    refine wpAny_pure ?_
    show wpAny _ _ (Builtin.Dict.showsAll d >>= _) _ _ s
    unfold Builtin.Dict.showsAll
    rw [if_neg (by rw [hd]; exact Bool.false_ne_true)]
    exact wpAny_bind (wpAny_pure (wpAny_bind (wpAny_newObj_type (wpAny_pure ⟨_, rfl, h⟩))))
/-- their iterators -/
theorem iter_vals {v d : Addr} {o : Obj} {es : Array DictEntry} {ep : Nat} {Q : Value → Shared → Prop} (hv : s.heap.IsValuesView v d) (ho : s.heap.get? d = some o) (hdat : o.data = .dict es ep)
    (hQ : Q (.ref s.heap.objs.size) { s with heap := s.heap.push { cls := .type "dict_valueiterator", data := .fields #[.ref d, .int 0 0, .int es.size 0, .int ep 0] } }) :
    wpAny (model prog w) A (pyIter (.ref v)) Q E s := by
  obtain ⟨ov, hov, hcv, hdv⟩ := id hv
  refine wpAny_pyIter_slot hv.typeIs F.slot_dict_values_iter (wpAny_call_entry F.slot_dict_values_iter hv.typeIs F.entry_dict_values_iter ?_ (F.args_dict_values_iter_1 _))
  unfold Builtin.«dict_values.__iter__»
  refine wpAny_bind (wpAny_pure (wpAny_bind ?_))
  unfold Builtin.Dict_items.dictOf
  refine wpAny_bind (wpAny_field hov hdv (x := .ref d) rfl (wpAny_pure (wpAny_bind ?_)))
  unfold Builtin.Dict_items.newIterator
  refine wpAny_bind (wpAny_dictEntries ho hdat (wpAny_bind (wpAny_dictEpoch ho hdat ?_)))
  have hown : Builtin.Dict_items.ownsTuple "dict_valueiterator" = false := by decide
  simp only [hown, Bool.false_eq_true, if_false]
  refine wpAny_newObj_type (wpAny_pure ⟨_, rfl, "dict_valueiterator", _, ⟨_, Heap.get?_push_size _ rfl, rfl⟩, F.slot_dict_valueiterator_next.lookup, ?_⟩)
  simpa [rawInt] using hQ
theorem iter_items {v d : Addr} {o : Obj} {es : Array DictEntry} {ep : Nat} {Q : Value → Shared → Prop} (hv : s.heap.IsItemsView v d) (ho : s.heap.get? d = some o) (hdat : o.data = .dict es ep)
    (hQ : Q (.ref s.heap.objs.size) { s with heap := s.heap.push { cls := .type "dict_itemiterator", data := .fields #[.none, .bool false, .ref d, .int 0 0, .int es.size 0, .int ep 0, .none, .none] } }) :
    wpAny (model prog w) A (pyIter (.ref v)) Q E s := by
  obtain ⟨ov, hov, hcv, hdv⟩ := id hv
  refine wpAny_pyIter_slot hv.typeIs F.slot_dict_items_iter (wpAny_call_entry F.slot_dict_items_iter hv.typeIs F.entry_dict_items_iter ?_ (F.args_dict_items_iter_1 _))
  unfold Builtin.«dict_items.__iter__»
  refine wpAny_bind (wpAny_pure (wpAny_bind ?_))
  unfold Builtin.Dict_items.dictOf
  refine wpAny_bind (wpAny_field hov hdv (x := .ref d) rfl (wpAny_pure (wpAny_bind ?_)))
  unfold Builtin.Dict_items.newIterator
  refine wpAny_bind (wpAny_dictEntries ho hdat (wpAny_bind (wpAny_dictEpoch ho hdat ?_)))
  have hown : Builtin.Dict_items.ownsTuple "dict_itemiterator" = true := by decide
  simp only [hown, if_true]
  refine wpAny_newObj_type (wpAny_pure ⟨_, rfl, "dict_itemiterator", _, ⟨_, Heap.get?_push_size _ rfl, rfl⟩, F.slot_dict_itemiterator_next.lookup, ?_⟩)
    (by simp only [sizeOk, Builtin.Dict_items.ownedTupleFields, List.size_toArray, List.length_append, List.length_cons, List.length_nil, sizeLine_eq]; omega)
  simpa [rawInt, Builtin.Dict_items.ownedTupleFields] using hQ
/-- a value comes -/
theorem next_val_item {it d : Addr} {i n ep : Nat} {od : Obj} {es : Array DictEntry} {en : DictEntry} {Q : Option Value → Shared → Prop} (hit : s.heap.IsValIter it d i n ep) (hod : s.heap.get? d = some od) (hdd : od.data = .dict es ep)
    (hsz : es.size = n) (hx : es[i]? = some en) (hQ : ∀ h', h'.IsValIter it d (i + 1) n ep → Heap.SameBut it s.heap h' → Q (some en.val) { s with heap := h' }) : wpAny (model prog w) A (pyNext (.ref it)) Q E s := by
  obtain ⟨o, ho, hc, hd⟩ := id hit
  unfold pyNext
  refine wpAny_bind (wpAny_attempt (wpAny_callSpecial?_slot (name := Str.ofString "__next__") hit.typeIs F.slot_dict_valueiterator_next
    (wpAny_call_entry F.slot_dict_valueiterator_next hit.typeIs F.entry_dict_valueiterator_next ?_ (F.args_dict_valueiterator_next_1 _))))
  refine wpAny_bind (wpAny_pure (wpAny_bind (wpAny_bind ?_)))
  first | refine wpAny_bind (wpAny_typeNameOfWhole_valiter hit.typeIs (wpAny_pure (wpAny_bind (wpAny_fieldsOf ho hd ?_)))) | refine wpAny_bind (wpAny_typeNameOf_valiter hit.typeIs (wpAny_pure (wpAny_bind (wpAny_fieldsOf ho hd ?_))))
  have hown : Builtin.Dict_items.ownsTuple "dict_valueiterator" = false := by decide
  simp only [hown, Bool.false_eq_true, if_false]
  show wpAny _ _ (if (Value.ref d == Value.none) = true then _ else _) _ _ s
  rw [if_neg (show ¬ ((Value.ref d == Value.none) = true) from Bool.false_ne_true)]
  refine wpAny_bind (wpAny_pure (wpAny_bind (wpAny_dictEntries hod hdd ?_)))
  rw [if_neg (by rw [hsz]; simp)]
  refine wpAny_bind (wpAny_pure (wpAny_bind (wpAny_dictEpoch hod hdd ?_)))
  rw [if_neg (by simp)]
  refine wpAny_pure ?_
  obtain ⟨hlt', hen⟩ := Array.getElem?_eq_some_iff.mp hx
  simp only [show ¬ ((i : Int) < 0) from by omega, if_false, Int.toNat_natCast, Array.getElem?_eq_getElem hlt']
  refine wpAny_bind ?_
  first | refine wpAny_bind (wpAny_typeNameOfWhole_valiter hit.typeIs (wpAny_pure (wpAny_bind (wpAny_isOneOf_valiter hit.typeIs ?_)))) | refine wpAny_bind (wpAny_typeNameOf_valiter hit.typeIs (wpAny_pure (wpAny_bind (wpAny_isOneOf_valiter hit.typeIs ?_))))
  show wpAny _ _ (setField (.ref it) 1 (rawInt ((i : Int) + 1)) >>= _) _ _ s
  refine wpAny_bind (wpAny_setField ho hd (by simp) ?_)
  have hit' : (s.heap.update it (Obj.mapFields (·.setIfInBounds 1 (rawInt ((i : Int) + 1))))).IsValIter it d (i + 1) n ep :=
    ⟨_, Heap.get?_update_self _ ho (Obj.isFreed_of_fields (Obj.data_mapFields hd _)), (Obj.cls_mapFields ..).trans hc, by rw [Obj.data_mapFields hd]; simp [rawInt]⟩
  refine wpAny_bind (wpAny_holding (wpAny_bind (wpAny_isOneOf_valiter (s := { s with heap := s.heap.update it (Obj.mapFields (·.setIfInBounds 1 (rawInt ((i : Int) + 1)))) }) hit'.typeIs ?_)))
  refine wpAny_bind (wpAny_isOneOf_valiter (s := { s with heap := s.heap.update it (Obj.mapFields (·.setIfInBounds 1 (rawInt ((i : Int) + 1)))) }) hit'.typeIs ?_)
  show wpAny _ _ (pure es[i].val) _ _ _
  rw [hen]
  exact wpAny_pure (wpAny_pure ⟨_, rfl, wpAny_pure (hQ _ hit' (Heap.SameBut.update ..))⟩)
/-- no more values -/
theorem next_val_end {it d : Addr} {i n ep : Nat} {od : Obj} {es : Array DictEntry} {Q : Option Value → Shared → Prop} (hh : A.handled = none) (hit : s.heap.IsValIter it d i n ep) (hod : s.heap.get? d = some od) (hdd : od.data = .dict es ep)
    (hsz : es.size = n) (hge : n ≤ i) (hQ : ∀ h', Heap.ExtBut it s.heap h' → Q none { s with heap := h' }) : wpAny (model prog w) A (pyNext (.ref it)) Q E s := by
  obtain ⟨o, ho, hc, hd⟩ := id hit
  unfold pyNext
  refine wpAny_bind (wpAny_attempt (wpAny_callSpecial?_slot (name := Str.ofString "__next__") hit.typeIs F.slot_dict_valueiterator_next
    (wpAny_call_entry F.slot_dict_valueiterator_next hit.typeIs F.entry_dict_valueiterator_next ?_ (F.args_dict_valueiterator_next_1 _))))
  refine wpAny_bind (wpAny_pure (wpAny_bind (wpAny_bind ?_)))
  first | refine wpAny_bind (wpAny_typeNameOfWhole_valiter hit.typeIs (wpAny_pure (wpAny_bind (wpAny_fieldsOf ho hd ?_)))) | refine wpAny_bind (wpAny_typeNameOf_valiter hit.typeIs (wpAny_pure (wpAny_bind (wpAny_fieldsOf ho hd ?_))))
  have hown : Builtin.Dict_items.ownsTuple "dict_valueiterator" = false := by decide
  simp only [hown, Bool.false_eq_true, if_false]
  show wpAny _ _ (if (Value.ref d == Value.none) = true then _ else _) _ _ s
  rw [if_neg (show ¬ ((Value.ref d == Value.none) = true) from Bool.false_ne_true)]
  refine wpAny_bind (wpAny_pure (wpAny_bind (wpAny_dictEntries hod hdd ?_)))
  rw [if_neg (by rw [hsz]; simp)]
  refine wpAny_bind (wpAny_pure (wpAny_bind (wpAny_dictEpoch hod hdd ?_)))
  rw [if_neg (by simp)]
  refine wpAny_pure ?_
  have hge' : es.size ≤ i := by rw [hsz]; exact hge
  simp only [show ¬ ((i : Int) < 0) from by omega, if_false, Int.toNat_natCast, Array.getElem?_eq_none hge']
  refine wpAny_bind ?_
  first | refine wpAny_bind (wpAny_typeNameOfWhole_valiter hit.typeIs (wpAny_pure ?_)) | refine wpAny_bind (wpAny_typeNameOf_valiter hit.typeIs (wpAny_pure ?_))
  show wpAny _ _ (setField (.ref it) 0 .none >>= _) _ _ s
  refine wpAny_bind (wpAny_setField ho hd (by simp) ?_)
  show wpAny _ _ (newExc (.type "StopIteration") [] >>= _) _ _ _
  refine wpAny_bind ?_
  simp only [newExc, newTuple]
  refine wpAny_bind (wpAny_newObj_type ?_ (by size_fits))
  refine wpAny_bind (m := firstArgMember _ _) (wpAny_of_eq (a := Value.none) (by first | rfl | (simp only [firstArgMember]; rfl)) ?_)
  refine wpAny_newObj_type ?_ (by size_fits)
  simp only [raiseNew]
  refine wpAny_bind (wpAny_handled ?_)
  rw [show A.in1.handled = none from hh]
  refine wpAny_bind (wpAny_pure (wpAny_throw ?_))
  refine wpAny_bind (wpAny_isInstance (T := "StopIteration") (b := true) ⟨_, Heap.get?_push_size _ rfl, rfl⟩ isSubtype_stop ?_)
  exact wpAny_pure (hQ _ (((Heap.SameBut.update ..).extBut.push _).push _))
/-- a pair comes, a new tuple -/
theorem next_pair_item {it d : Addr} {i n ep : Nat} {od : Obj} {es : Array DictEntry} {en : DictEntry} {ok ov : Value} {Q : Option Value → Shared → Prop} (hit : IsItemIter s.heap it d i n ep ok ov) (hod : s.heap.get? d = some od) (hdd : od.data = .dict es ep)
    (hsz : es.size = n) (hx : es[i]? = some en)
    (hQ : ∀ h', IsItemIterOut h' it d (i + 1) n ep en.key en.val s.heap.objs.size → h'.get? s.heap.objs.size = some { cls := .type "tuple", data := .seq #[en.key, en.val] } →
      (∀ b o, b ≠ it → s.heap.get? b = some o → h'.get? b = some o) → Q (some (.ref s.heap.objs.size)) { s with heap := h' }) :
    wpAny (model prog w) A (pyNext (.ref it)) Q E s := by
  obtain ⟨hp, g, dr, tk, os⟩ := s
  have hT : Shared.TypeIs ⟨hp, g, dr, tk, os⟩ (.ref it) "dict_itemiterator" := ⟨_, hit, rfl⟩
  unfold pyNext
  refine wpAny_bind (wpAny_attempt (wpAny_callSpecial?_slot (name := Str.ofString "__next__") hT F.slot_dict_itemiterator_next
    (wpAny_call_entry F.slot_dict_itemiterator_next hT F.entry_dict_itemiterator_next ?_ (F.args_dict_itemiterator_next_1 _))))
  refine wpAny_bind (wpAny_pure (wpAny_bind (wpAny_bind ?_)))
  first | refine wpAny_bind (wpAny_typeNameOfWhole_itemiter hT (wpAny_pure (wpAny_bind (wpAny_fieldsOf hit rfl ?_)))) | refine wpAny_bind (wpAny_typeNameOf_itemiter hT (wpAny_pure (wpAny_bind (wpAny_fieldsOf hit rfl ?_))))
  have hown : Builtin.Dict_items.ownsTuple "dict_itemiterator" = true := by decide
  simp only [hown, if_true]
  show wpAny _ _ (if (Value.ref d == Value.none) = true then _ else _) _ _ _
  rw [if_neg (show ¬ ((Value.ref d == Value.none) = true) from Bool.false_ne_true)]
  refine wpAny_bind (wpAny_pure (wpAny_bind (wpAny_dictEntries hod hdd ?_)))
  rw [if_neg (by rw [hsz]; simp)]
  refine wpAny_bind (wpAny_pure (wpAny_bind (wpAny_dictEpoch hod hdd ?_)))
  rw [if_neg (by simp)]
  refine wpAny_pure ?_
  obtain ⟨hlt', hen⟩ := Array.getElem?_eq_some_iff.mp hx
  simp only [show ¬ ((i : Int) < 0) from by omega, if_false, Int.toNat_natCast, Array.getElem?_eq_getElem hlt']
  rw [hen]
  refine wpAny_bind ?_
  first | refine wpAny_bind (wpAny_typeNameOfWhole_itemiter hT (wpAny_pure (wpAny_bind (wpAny_isOneOf_itemiter hT ?_)))) | refine wpAny_bind (wpAny_typeNameOf_itemiter hT (wpAny_pure (wpAny_bind (wpAny_isOneOf_itemiter hT ?_))))
  show wpAny _ _ (setField (.ref it) 3 (rawInt ((i : Int) + 1)) >>= _) _ _ ⟨hp, g, dr, tk, os⟩
  refine wpAny_bind (wpAny_setField_rec hit (by simp) fun h₁ he₁ hs₁ => ?_)
  replace hs₁ : Heap.SameBut it hp h₁ := hs₁
  replace he₁ : IsItemIter h₁ it d (i + 1) n ep ok ov := by
    have e : ((i + 1 : Nat) : Int) = (i : Int) + 1 := by omega
    unfold IsItemIter; rw [e]; simpa [rawInt] using he₁
  have hT₁ : Shared.TypeIs ⟨h₁, g, dr, tk, os⟩ (.ref it) "dict_itemiterator" := ⟨_, he₁, rfl⟩
  refine wpAny_bind (wpAny_holding (wpAny_bind (wpAny_isOneOf_itemiter hT₁ (wpAny_bind (wpAny_isOneOf_itemiter hT₁ ?_)))))
  show wpAny _ _ (Builtin.Dict_items.pairFromOwner (.ref it) 6 en.key en.val) _ _ ⟨h₁, g, dr, tk, os⟩
  unfold Builtin.Dict_items.pairFromOwner
  refine wpAny_bind (wpAny_newTuple ?_)
  have he₂ : IsItemIter (h₁.push { cls := .type "tuple", data := .seq #[en.key, en.val] }) it d (i + 1) n ep ok ov := Heap.get?_push_of_some _ he₁
  generalize hh₂ : h₁.push { cls := .type "tuple", data := .seq #[en.key, en.val] } = h₂ at he₂
  have hz₁ : h₁.objs.size = hp.objs.size := hs₁.1
  have hil : it < hp.objs.size := Heap.lt_size hit
  have ht₂ : h₂.get? hp.objs.size = some { cls := .type "tuple", data := .seq #[en.key, en.val] } := by rw [← hh₂, ← hz₁]; exact Heap.get?_push_size _ rfl
  have hk₂ : ∀ b o, b ≠ it → hp.get? b = some o → h₂.get? b = some o := fun b o hb e => by rw [← hh₂]; exact Heap.get?_push_of_some _ (hs₁.extBut b o hb e)
  show wpAny _ _ (Builtin.Dict_items.ownedTupleIsFree (.ref it) >>= _) _ _ ⟨h₂, g, dr, tk, os⟩
  rw [hz₁]
  clear hh₂ he₁ hs₁ hT₁ hz₁ h₁
  refine wpAny_bind ?_
  unfold Builtin.Dict_items.ownedTupleIsFree
  refine wpAny_bind (wpAny_field he₂ rfl (x := .none) rfl (wpAny_pure ?_))
  simp only [if_true]
  refine wpAny_bind (wpAny_field he₂ rfl (x := ok) rfl (wpAny_bind (wpAny_field he₂ rfl (x := ov) rfl ?_)))
  refine wpAny_bind (wpAny_setField_rec he₂ (by simp) fun h₃ he₃ hs₃ => ?_)
  replace hs₃ : Heap.SameBut it h₂ h₃ := hs₃
  replace he₃ : IsItemIter h₃ it d (i + 1) n ep en.key ov := he₃
  refine wpAny_bind (wpAny_setField_rec he₃ (by simp) fun h₄ he₄ hs₄ => ?_)
  replace hs₄ : Heap.SameBut it h₃ h₄ := hs₄
  replace he₄ : IsItemIter h₄ it d (i + 1) n ep en.key en.val := he₄
  refine wpAny_bind (wpAny_setField_rec he₄ (by simp) fun h₅ he₅ hs₅ => ?_)
  replace hs₅ : Heap.SameBut it h₄ h₅ := hs₅
  replace he₅ : IsItemIterOut h₅ it d (i + 1) n ep en.key en.val hp.objs.size := he₅
  refine wpAny_bind (wpAny_setField_rec he₅ (by simp) fun h₆ he₆ hs₆ => ?_)
  replace hs₆ : Heap.SameBut it h₅ h₆ := hs₆
  have up : ∀ b o, b ≠ it → h₂.get? b = some o → h₆.get? b = some o := fun b o hb e => hs₆.extBut b o hb (hs₅.extBut b o hb (hs₄.extBut b o hb (hs₃.extBut b o hb e)))
  exact wpAny_bind (wpAny_letGo (wpAny_pure (wpAny_pure ⟨_, rfl, wpAny_pure (hQ h₆ he₆ (up _ _ (Nat.ne_of_gt hil) ht₂) fun b o hb e => up b o hb (hk₂ b o hb e))⟩)))
/-- no more pairs -/
theorem next_pair_end {it d : Addr} {i n ep : Nat} {od : Obj} {es : Array DictEntry} {ok ov : Value} {Q : Option Value → Shared → Prop} (hh : A.handled = none) (hit : IsItemIter s.heap it d i n ep ok ov) (hod : s.heap.get? d = some od) (hdd : od.data = .dict es ep)
    (hsz : es.size = n) (hge : n ≤ i) (hQ : ∀ h', Heap.ExtBut it s.heap h' → Q none { s with heap := h' }) : wpAny (model prog w) A (pyNext (.ref it)) Q E s := by
  have hT : s.TypeIs (.ref it) "dict_itemiterator" := ⟨_, hit, rfl⟩
  unfold pyNext
  refine wpAny_bind (wpAny_attempt (wpAny_callSpecial?_slot (name := Str.ofString "__next__") hT F.slot_dict_itemiterator_next
    (wpAny_call_entry F.slot_dict_itemiterator_next hT F.entry_dict_itemiterator_next ?_ (F.args_dict_itemiterator_next_1 _))))
  refine wpAny_bind (wpAny_pure (wpAny_bind (wpAny_bind ?_)))
  first | refine wpAny_bind (wpAny_typeNameOfWhole_itemiter hT (wpAny_pure (wpAny_bind (wpAny_fieldsOf hit rfl ?_)))) | refine wpAny_bind (wpAny_typeNameOf_itemiter hT (wpAny_pure (wpAny_bind (wpAny_fieldsOf hit rfl ?_))))
  have hown : Builtin.Dict_items.ownsTuple "dict_itemiterator" = true := by decide
  simp only [hown, if_true]
  show wpAny _ _ (if (Value.ref d == Value.none) = true then _ else _) _ _ s
  rw [if_neg (show ¬ ((Value.ref d == Value.none) = true) from Bool.false_ne_true)]
  refine wpAny_bind (wpAny_pure (wpAny_bind (wpAny_dictEntries hod hdd ?_)))
  rw [if_neg (by rw [hsz]; simp)]
  refine wpAny_bind (wpAny_pure (wpAny_bind (wpAny_dictEpoch hod hdd ?_)))
  rw [if_neg (by simp)]
  refine wpAny_pure ?_
  have hge' : es.size ≤ i := by rw [hsz]; exact hge
  simp only [show ¬ ((i : Int) < 0) from by omega, if_false, Int.toNat_natCast, Array.getElem?_eq_none hge']
  refine wpAny_bind ?_
  first | refine wpAny_bind (wpAny_typeNameOfWhole_itemiter hT (wpAny_pure ?_)) | refine wpAny_bind (wpAny_typeNameOf_itemiter hT (wpAny_pure ?_))
  show wpAny _ _ (setField (.ref it) 2 .none >>= _) _ _ s
  refine wpAny_bind (wpAny_setField hit rfl (by simp) ?_)
  show wpAny _ _ (newExc (.type "StopIteration") [] >>= _) _ _ _
  refine wpAny_bind ?_
  simp only [newExc, newTuple]
  refine wpAny_bind (wpAny_newObj_type ?_ (by size_fits))
  refine wpAny_bind (m := firstArgMember _ _) (wpAny_of_eq (a := Value.none) (by first | rfl | (simp only [firstArgMember]; rfl)) ?_)
  refine wpAny_newObj_type ?_ (by size_fits)
  simp only [raiseNew]
  refine wpAny_bind (wpAny_handled ?_)
  rw [show A.in1.handled = none from hh]
  refine wpAny_bind (wpAny_pure (wpAny_throw ?_))
  refine wpAny_bind (wpAny_isInstance (T := "StopIteration") (b := true) ⟨_, Heap.get?_push_size _ rfl, rfl⟩ isSubtype_stop ?_)
  exact wpAny_pure (hQ _ (((Heap.SameBut.update ..).extBut.push _).push _))
end
end L2

end
section
set_option Elab.async false
set_option linter.all false
set_option maxRecDepth 100000
namespace L2
open PySem PySem.Spec PyProof.Rows

theorem Inv.frzTV {X : Cx} {pins : List (Addr × Obj)} {σ : St} {H : Hp} {s : Shared} {d : Addr} {o : Obj} {kvs : List (List Key × V)} (I : Inv X pins σ H s) (h : H d = some (.frz o (.dT kvs))) :
    (d == sysModules) = false ∧ s.heap.get? d = some o ∧ o.ExactDict ∧ ∃ (es : Array DictEntry) (ep : Nat), o.data = .dict es ep ∧ es.size = kvs.length ∧
      ∀ (i : Nat) (k : List Key) (v : V), kvs[i]? = some (k, v) → ∃ (en : DictEntry) (q : Addr), es[i]? = some en ∧ en.key = .ref q ∧ H q = some (.tup (k.map kV)) ∧ RelV v en.val := by
  obtain ⟨hd, z, hs, xs, pr, o', es, ep, ho, hx, hdt, he, _⟩ := I.hok d _ h
  rw [hd] at ho
  cases ho
  have l1 : es.size = xs.length := size_of_entries he
  have l2 : kvs.length = xs.length := Paired.length pr
  refine ⟨hs, hd, hx, es, ep, hdt, by omega, fun i k v e => ?_⟩
  obtain ⟨b, hb, e1, e2, e3⟩ := paired_get pr e
  have q := entry_at he i
  rw [hb] at q
  exact ⟨_, b.2.1, q, rfl, e2, e3⟩

/-- the values of the locked dict at d, tuple keys; the pairs -/
def ItdT (d : Addr) (o : Obj) (kvs : List (List Key × V)) : It :=
  ⟨fun i H => H d = some (.frz o (.dT kvs)) ∧ i < kvs.length, fun i H x H' => H' = H ∧ ∃ k, kvs[i]? = some (k, x), fun i H => H d = some (.frz o (.dT kvs)) ∧ kvs.length ≤ i⟩
def ItiT (d : Addr) (o : Obj) (kvs : List (List Key × V)) : It :=
  ⟨fun i H => H d = some (.frz o (.dT kvs)) ∧ i < kvs.length,
    fun i H x H' => ∃ (T q : Addr) (k : List Key) (v : V), kvs[i]? = some (k, v) ∧ H q = some (.tup (k.map kV)) ∧ x = .ref T ∧ H T = none ∧ H' = upd H T (.tup [.ref q, v]),
    fun i H => H d = some (.frz o (.dT kvs)) ∧ kvs.length ≤ i⟩
section
variable {P : Program} {w : World} {K : PySem.W.Frag} {tg : Expr} {d : Addr} {o : Obj} {es : Array DictEntry} {ep : Nat}
theorem turn_valsT {kvs : List (List Key × V)} (it : Addr) (hod : o.data = .dict es ep) : Turn P w K tg (ItdT d o kvs) [it] it (fun i h => h.IsValIter it d i kvs.length ep) where
  mem := by simp
  obj := fun i h st b hb => by
    have e : b = it := by simpa using hb
    subst e
    obtain ⟨oi, e, c, dd⟩ := st
    exact ⟨oi, e, fun v z => by rw [dd] at z; cases z⟩
  keep := fun i h h' st k => by
    obtain ⟨oi, e, r⟩ := st
    exact ⟨oi, k it (by simp) oi e, r⟩
  item := by
    intro X hP hw hK hc i pins s σ H E I hf st hg
    subst hP hw hK
    obtain ⟨hd, hi⟩ := hg
    obtain ⟨f0, f1, f2, f3, f4, f5⟩ := hf it (by simp)
    obtain ⟨hs, hgd, hx, es', ep', hdt, hsz, ent⟩ := I.frzTV hd
    obtain ⟨rfl, rfl⟩ := dict_ep hod hdt
    obtain ⟨⟨k, v⟩, hkv⟩ : ∃ p, kvs[i]? = some p := ⟨kvs[i], List.getElem?_eq_getElem hi⟩
    obtain ⟨en, q, hen, hkey, hq, hv⟩ := ent i k v hkv
    refine next_val_item st hgd hdt hsz hen fun h' st' sb => ?_
    have I1 : Inv X pins σ H { s with heap := h' } := I.turned (t' := s.toks) (fun b ob hb e => (sb.2 b hb).trans e) f0 f1 f3 f4 f5
    obtain ⟨oi, e, c, dd⟩ := id st'
    exact ⟨en.val, rfl, go_of (s := { s with heap := h' }) e c dd (by decide) ⟨v, H, I1, hv, ⟨rfl, k, hkv⟩, st', fun b hb => (hf b hb).1⟩⟩
  done := by
    intro X hP hw hK hc i pins s σ H E I hf st hg
    subst hP hw hK
    obtain ⟨hd, hi⟩ := hg
    obtain ⟨f0, f1, f2, f3, f4, f5⟩ := hf it (by simp)
    obtain ⟨hs, hgd, hx, es', ep', hdt, hsz, ent⟩ := I.frzTV hd
    obtain ⟨rfl, rfl⟩ := dict_ep hod hdt
    exact next_val_end (I.ok.hd hc) st hgd hdt hsz hi fun h' eb => ⟨rfl, I.turned (t' := s.toks) (fun b ob hb e => eb b ob hb e) f0 f1 f3 f4 f5⟩
  self := fun A i s Q E st h => wpAny_pyIter_valiter st h
theorem turn_itemsT {kvs : List (List Key × V)} {elts : List Expr} {kk : Nat} {tpos : Pos} (it : Addr) (hod : o.data = .dict es ep) :
    Turn P w K (.Tuple elts kk tpos) (ItiT d o kvs) [it] it (fun i h => ∃ ok ov, IsItemIter h it d i kvs.length ep ok ov) where
  mem := by simp
  obj := fun i h st b hb => by
    have e : b = it := by simpa using hb
    subst e
    obtain ⟨ok, ov, e⟩ := st
    exact ⟨_, e, fun v z => nomatch z⟩
  keep := fun i h h' st k => let ⟨ok, ov, e⟩ := st; ⟨ok, ov, k it (by simp) _ e⟩
  item := by
    intro X hP hw hK hc i pins s σ H E I hf st hg
    subst hP hw hK
    obtain ⟨hd, hi⟩ := hg
    obtain ⟨hs, hgd, hx, es', ep', hdt, hsz, ent⟩ := I.frzTV hd
    obtain ⟨rfl, rfl⟩ := dict_ep hod hdt
    obtain ⟨⟨k, v⟩, hkv⟩ : ∃ p, kvs[i]? = some p := ⟨kvs[i], List.getElem?_eq_getElem hi⟩
    obtain ⟨en, q, hen, hkey, hq, hv⟩ := ent i k v hkv
    obtain ⟨ok, ov, he⟩ := st
    have hlt : it < s.heap.objs.size := Heap.lt_size he
    refine next_pair_item he hgd hdt hsz hen fun h' ho hT hk => ?_
    refine ⟨_, rfl, wpAny_letOwnedTupleGo_items (s := { s with heap := h' }) ho fun h'' he' sb => ?_⟩
    have hT2 : h''.get? s.heap.objs.size = some { cls := .type "tuple", data := .seq #[en.key, en.val] } := (sb.2 _ (Nat.ne_of_gt hlt)).trans hT
    have new : ObjOk X.prog X.w (upd H s.heap.objs.size (.tup [.ref q, v])) h'' s.heap.objs.size (.tup [.ref q, v]) :=
      ⟨by show 2 ≤ sizeLine; decide, [en.key, en.val], .cons hkey (.cons hv .nil), ⟨_, hT2, rfl, _, rfl⟩⟩
    have I1 : Inv X pins σ (upd H s.heap.objs.size (.tup [.ref q, v])) { s with heap := h'' } :=
      I.turnedNew (t' := s.toks) (ch := [it]) (fun b ob hb e => (sb.2 b (by simpa using hb)).trans (hk b ob (by simpa using hb) e)) hf (Nat.le_refl _) new
    refine ⟨.ref s.heap.objs.size, _, I1, rfl, ⟨_, q, k, v, hkv, hq, rfl, I.hok.fresh (Nat.le_refl _), rfl⟩, ⟨en.key, en.val, he'⟩, fun b hb => ?_⟩
    have e : b = it := by simpa using hb
    rw [e, upd_ne (Nat.ne_of_lt hlt)]
    exact (hf it (by simp)).1
  done := by
    intro X hP hw hK hc i pins s σ H E I hf st hg
    subst hP hw hK
    obtain ⟨hd, hi⟩ := hg
    obtain ⟨f0, f1, f2, f3, f4, f5⟩ := hf it (by simp)
    obtain ⟨hs, hgd, hx, es', ep', hdt, hsz, ent⟩ := I.frzTV hd
    obtain ⟨rfl, rfl⟩ := dict_ep hod hdt
    obtain ⟨ok, ov, he⟩ := st
    exact next_pair_end (I.ok.hd hc) he hgd hdt hsz hi fun h' eb => ⟨rfl, I.turned (t' := s.toks) (fun b ob hb e => eb b ob hb e) f0 f1 f3 f4 f5⟩
  self := fun A i s Q E st h => let ⟨_, _, e⟩ := st; PySem.W.kcp_self e h
end
def iValsT (td : TE) : TI := fun σ H R => td σ H fun x H1 => ∃ d o kvs, x = .ref d ∧ H1 d = some (.frz o (.dT kvs)) ∧ R (ItdT d o kvs) H1
def iItemsT (td : TE) : TI := fun σ H R => td σ H fun x H1 => ∃ d o kvs, x = .ref d ∧ H1 d = some (.frz o (.dT kvs)) ∧ R (ItiT d o kvs) H1
section
variable {X : Cx} {tg e : Expr} {td : TE} {apos cpos : Pos}
theorem pi_valuesT (he : PE X e td) (hbase : attributeBase e "values" X.env (eval e X.env) = eval e X.env := by rfl) (hline : (apos.endLine == cpos.line) = true := by rfl) :
    PI X tg (.Call (.Attribute e "values" apos) [] [] cpos) (iValsT td) := by
  intro pins s σ H R I h
  refine wpAny_Call_method (T := "dict") (id := "dict.values") hbase rfl hline F.plainAttrs_dict F.slot_dict_values F.type_dict_values (thn (he pins s σ H _ I h) fun u s1 ⟨x, H1, I1, rx, d, o, kvs, ex, hd, q⟩ => ?_)
  subst ex
  obtain rfl : u = Value.ref d := rx
  obtain ⟨hs, hgd, hx, es, ep, hdt, hsz, ent⟩ := I1.frzTV hd
  have hT : s1.TypeIs (.ref d) "dict" := ⟨o, hgd, hx.1⟩
  refine ⟨hT, fun b q => by cases q; exact ⟨o, hgd, hx.2.1⟩, ?_⟩
  have I2 : Inv X pins σ H1 { s1 with heap := s1.heap.push { cls := .type "dict_values", data := .fields #[.ref d] } } := I1.kept (t' := s1.toks) fun b ob q => Heap.get?_push_of_some _ q
  have fin : wpAny (model X.prog X.w) X.A (pyIter (.ref s1.heap.objs.size)) (PIE X pins σ tg R) X.xe { s1 with heap := s1.heap.push { cls := .type "dict_values", data := .fields #[.ref d] } } := by
    refine iter_vals (d := d) ⟨_, Heap.get?_push_size _ rfl, rfl, rfl⟩ (Heap.get?_push_of_some _ hgd) hdt (pi_one (tk := s1.toks) I2 _ (turn_valsT _ hdt) ⟨_, Heap.get?_push_size _ rfl, rfl, ?_⟩ q)
    rw [hsz] <;> rfl
  show wpAny _ _ (callWith cpos (.builtin "dict.values") [.ref d] [] []) _ X.xe s1
  exact method_meetsIn F.slot_dict_values F.entry_dict_values rfl (PySem.evalArgs_none ⟨rfl, hT, F.args_dict_values_1 _, _, view_vals (R := fun _ _ => True) hs hx, hgd, fin⟩)
theorem pi_itemsT {elts : List Expr} {kk : Nat} {tpos : Pos} (he : PE X e td) (hbase : attributeBase e "items" X.env (eval e X.env) = eval e X.env := by rfl) (hline : (apos.endLine == cpos.line) = true := by rfl) :
    PI X (.Tuple elts kk tpos) (.Call (.Attribute e "items" apos) [] [] cpos) (iItemsT td) := by
  intro pins s σ H R I h
  refine wpAny_Call_method (T := "dict") (id := "dict.items") hbase rfl hline F.plainAttrs_dict F.slot_dict_items F.type_dict_items (thn (he pins s σ H _ I h) fun u s1 ⟨x, H1, I1, rx, d, o, kvs, ex, hd, q⟩ => ?_)
  subst ex
  obtain rfl : u = Value.ref d := rx
  obtain ⟨hs, hgd, hx, es, ep, hdt, hsz, ent⟩ := I1.frzTV hd
  have hT : s1.TypeIs (.ref d) "dict" := ⟨o, hgd, hx.1⟩
  refine ⟨hT, fun b q => by cases q; exact ⟨o, hgd, hx.2.1⟩, ?_⟩
  have I2 : Inv X pins σ H1 { s1 with heap := s1.heap.push { cls := .type "dict_items", data := .fields #[.ref d] } } := I1.kept (t' := s1.toks) fun b ob q => Heap.get?_push_of_some _ q
  have fin : wpAny (model X.prog X.w) X.A (pyIter (.ref s1.heap.objs.size)) (PIE X pins σ (.Tuple elts kk tpos) R) X.xe { s1 with heap := s1.heap.push { cls := .type "dict_items", data := .fields #[.ref d] } } := by
    refine iter_items (d := d) ⟨_, Heap.get?_push_size _ rfl, rfl, rfl⟩ (Heap.get?_push_of_some _ hgd) hdt (pi_one (tk := s1.toks) I2 _ (turn_itemsT _ hdt) ⟨.none, .none, ?_⟩ q)
    rw [← hsz]
    exact Heap.get?_push_size _ rfl
  show wpAny _ _ (callWith cpos (.builtin "dict.items") [.ref d] [] []) _ X.xe s1
  exact method_meetsIn F.slot_dict_items F.entry_dict_items rfl (PySem.evalArgs_none ⟨rfl, hT, F.args_dict_items_1 _, _, view_items (R := fun _ _ => True) hs hx, hgd, fin⟩)
end
end L2

end
section
set_option Elab.async false
set_option linter.all false
set_option maxRecDepth 100000
namespace L2
open PySem PySem.Spec PyProof.Rows

/-- {k: v} with a tuple for a key; the new dict stands empty while the pair is made -/
def tDisp1 (tk tv : TE) : TE := fun σ H Q => ∀ p, H p = none → tk σ (upd H p (.dT [])) fun x H1 => tv σ H1 fun y H2 => H2 p = some (.dT []) ∧ ∃ (b : Addr) (k : List Key), x = .ref b ∧ H2 b = some (.tup (k.map kV)) ∧ Q (.ref p) (upd H2 p (.dT [(k, y)]))
theorem pe_disp1 {X : Cx} {pos : Pos} {k v : Expr} {tk tv : TE} (hu : X.A.units + 1 < cLine) (hk : PE X k tk) (hv : PE X v tv) : PE X (.Dict [some k] [v] pos) (tDisp1 tk tv) := by
  intro pins s σ H Q I q
  have hn := I.hok.fresh (Nat.le_refl s.heap.objs.size)
  have I1 := I.laid (a := s.heap.objs.size) (o := .dT []) (h' := s.heap.push { cls := .type "dict", data := .dict #[] }) (t' := s.toks) (fun _ _ q => Heap.get?_push_of_some _ q) (Nat.le_refl _) (dt_empty s.heap I.big)
  have q1 := q _ hn
  rw [arm_eval_Dict, zip_pairTrees [some k] [v] X.env pos rfl rfl, dictDisplay_pairs _ (by
    intro e
    have := pairTrees_length [some k] [v] X.env pos rfl rfl
    rw [e] at this
    cases this) (by rw [pairTrees_length [some k] [v] X.env pos rfl rfl]; show 1 < 17; decide)]
  refine wpAny_bind (wpAny_standAt (wpAny_bind ?_))
  unfold subDict
  refine wpAny_bind (wpAny_alloc (wpAny_bind (wpAny_holding ?_)))
  rw [if_pos (by rw [pairTrees_length [some k] [v] X.env pos rfl rfl]; show 1 ≤ 15; decide)]
  refine wpAny_bind (pairTrees_cons_walk (thn (hk pins _ σ _ _ I1 q1) fun u s1 ⟨x, H1, I2, rx, q2⟩ => thn (hv pins s1 σ H1 _ I2 q2) fun w2 s2 ⟨y, H2, I3, ry, hp, b, ks, ex, hb, q3⟩ => pairTrees_nil_walk ?_))
  subst ex
  obtain rfl : u = Value.ref b := rx
  obtain ⟨z, hd, xs, rel, dd⟩ := dt_of I3.hok hp
  cases rel
  refine wpAny_holding ?_
  rw [List.forIn_cons]
  refine wpAny_bind (wpAny_bind ?_)
  show wpAny _ _ (dictSet s.heap.objs.size (Value.ref b) w2 >>= _) _ _ s2
  refine wpAny_bind (wpAny_dictSet_heap (hsz := by show 0 ≤ sizeLine; exact Nat.zero_le _) (show (tupleKind (mixKind X.prog X.w)).room X.A from Nat.lt_of_succ_lt hu) (key_of I3.hok hb) dd fun h' dd' hs => wpAny_pure ?_)
  dsimp only
  rw [List.forIn_nil]
  refine wpAny_pure (wpAny_pure (wpAny_pure (wpAny_pure ?_)))
  obtain ⟨o, es, ep, ho, h2, h3, h4, _, h5⟩ := dd'
  refine ⟨.ref s.heap.objs.size, _, d_write I3 (by rw [hp]; exact True.intro) hs ⟨o, ho⟩ (show ObjOk X.prog X.w _ h' _ (.dT [(ks, y)]) from ⟨by show 1 ≤ sizeLine; decide, hd, _, ?_, o, es, ep, ho, h2, h3, h4, h5⟩), rfl, q3⟩
  refine Paired.cons ⟨rfl, ?_, ry⟩ .nil
  rw [upd_ne (ne_of hb hp (fun z => nomatch z))]
  exact hb
end L2

end
section
set_option Elab.async false
set_option linter.all false
set_option maxRecDepth 100000
namespace L2
open PySem PySem.Spec PyProof.Rows

/-! ### zip of two tuples -/
section
variable {prog : Program} {w : World} {A : Around} {E : Value → Shared → Prop} {s : Shared}
theorem nextOf_tup {it t : Addr} {i : Nat} {items : Array Value} {x : Value} {Q : Value → Shared → Prop} (hit : s.heap.IsTupleIter it t i) (ht : s.heap.IsTuple t items) (hx : items[i]? = some x)
    (hQ : ∀ h', h'.IsTupleIter it t (i + 1) → Heap.SameBut it s.heap h' → Q x { s with heap := h' }) : wpAny (model prog w) A (Builtin.SmallTypes.nextOf (.ref it)) Q E s := by
  obtain ⟨o, ho, hc, hd⟩ := id hit
  obtain ⟨ol, hol, _, nl, hdl⟩ := ht
  unfold Builtin.SmallTypes.nextOf
  refine wpAny_bind (wpAny_callSpecial?_slot (name := Str.ofString "__next__") hit.typeIs F.slot_tuple_iterator_next
    (wpAny_call_entry F.slot_tuple_iterator_next hit.typeIs F.entry_tuple_iterator_next ?_ (F.args_tuple_iterator_next_1 _)))
  show wpAny _ _ (field (.ref it) 0 >>= _) _ _ s
  refine wpAny_bind (wpAny_field ho hd (x := .ref t) rfl ?_)
  show wpAny _ _ (if (Value.ref t == Value.none) = true then _ else _) _ _ s
  rw [if_neg (show ¬ ((Value.ref t == Value.none) = true) from Bool.false_ne_true)]
  show wpAny _ _ (field (.ref it) 1 >>= _) _ _ s
  refine wpAny_bind (wpAny_field ho hd (x := .int i 0) rfl ?_)
  show wpAny _ _ (seqItems? (.ref t) >>= _) _ _ s
  refine wpAny_bind (wpAny_seqItems hol hdl ?_)
  simp only [Int.toNat_natCast, hx]
  refine wpAny_bind (wpAny_setField ho hd (by simp) (wpAny_pure ⟨x, rfl, wpAny_pure (hQ _ ⟨_, Heap.get?_update_self _ ho (Obj.isFreed_of_fields (Obj.data_mapFields hd _)), (Obj.cls_mapFields ..).trans hc, ?_⟩ (Heap.SameBut.update ..))⟩))
  rw [Obj.data_mapFields hd]
  simp [rawInt]
theorem nextOf_tupEnd {it t : Addr} {i : Nat} {items : Array Value} {Q : Value → Shared → Prop} (hh : A.handled = none) (hit : s.heap.IsTupleIter it t i) (ht : s.heap.IsTuple t items) (hx : items[i]? = none)
    (hE : ∀ h' e, Heap.ExtBut it s.heap h' → (∃ o, h'.get? e = some o ∧ o.cls = .type "StopIteration") → E (.ref e) { s with heap := h' }) : wpAny (model prog w) A (Builtin.SmallTypes.nextOf (.ref it)) Q E s := by
  obtain ⟨o, ho, hc, hd⟩ := id hit
  obtain ⟨ol, hol, _, nl, hdl⟩ := ht
  unfold Builtin.SmallTypes.nextOf
  refine wpAny_bind (wpAny_callSpecial?_slot (name := Str.ofString "__next__") hit.typeIs F.slot_tuple_iterator_next
    (wpAny_call_entry F.slot_tuple_iterator_next hit.typeIs F.entry_tuple_iterator_next ?_ (F.args_tuple_iterator_next_1 _)))
  show wpAny _ _ (field (.ref it) 0 >>= _) _ _ s
  refine wpAny_bind (wpAny_field ho hd (x := .ref t) rfl ?_)
  show wpAny _ _ (if (Value.ref t == Value.none) = true then _ else _) _ _ s
  rw [if_neg (show ¬ ((Value.ref t == Value.none) = true) from Bool.false_ne_true)]
  show wpAny _ _ (field (.ref it) 1 >>= _) _ _ s
  refine wpAny_bind (wpAny_field ho hd (x := .int i 0) rfl ?_)
  show wpAny _ _ (seqItems? (.ref t) >>= _) _ _ s
  refine wpAny_bind (wpAny_seqItems hol hdl ?_)
  simp only [Int.toNat_natCast, hx]
  refine wpAny_bind (wpAny_rule (wpAny_bind (wpAny_setField ho hd (by simp) ?_)))
  show wpAny _ _ (newExc (.type "StopIteration") [] >>= _) _ _ _
  refine wpAny_bind ?_
  simp only [newExc, newTuple]
  refine wpAny_bind (wpAny_newObj_type ?_ (by size_fits))
  refine wpAny_bind (m := firstArgMember _ _) (wpAny_of_eq (a := Value.none) (by first | rfl | (simp only [firstArgMember]; rfl)) ?_)
  refine wpAny_newObj_type ?_ (by size_fits)
  simp only [raiseNew]
  refine wpAny_bind (wpAny_handled ?_)
  first | rw [show A.in1.handled = none from hh] | rw [hh]
  exact wpAny_bind (wpAny_pure (wpAny_throw (hE _ _ (((Heap.SameBut.update ..).extBut.push _).push _) ⟨_, Heap.get?_push_size _ rfl, rfl⟩)))

theorem TupIter.ext {h h' : Heap} {it b t : Addr} {i : Nat} (x : h.IsTupleIter it t i) (hs : Heap.ExtBut b h h') (hab : it ≠ b) : h'.IsTupleIter it t i := x.at fun o e => hs it o hab e
theorem Tup.ext {h h' : Heap} {b t : Addr} {items : Array Value} (x : h.IsTuple t items) (hs : Heap.ExtBut b h h') (hab : t ≠ b) : h'.IsTuple t items := x.at fun o e => hs t o hab e

theorem zipT_item {z TI TO i1 i2 l1 l2 : Addr} {k1 k2 : Nat} {xs ys : Array Value} {x y a b : Value} {Q : Value → Shared → Prop} (D : ZipApart z TI TO i1 i2 l1 l2)
    (hz : IsZip s.heap z TI TO .none) (hTI : IsPair s.heap TI (.ref i1) (.ref i2)) (hTO : IsPair s.heap TO a b) (h1 : s.heap.IsTupleIter i1 l1 k1) (h2 : s.heap.IsTupleIter i2 l2 k2)
    (hl1 : s.heap.IsTuple l1 xs) (hl2 : s.heap.IsTuple l2 ys) (hx : xs[k1]? = some x) (hy : ys[k2]? = some y)
    (hQ : ∀ h', IsZip h' z TI TO (rawInt s.heap.objs.size) → IsPair h' TO x y → h'.IsTupleIter i1 l1 (k1 + 1) → h'.IsTupleIter i2 l2 (k2 + 1) → IsPair h' s.heap.objs.size x y →
      (∀ c o, c ≠ z → c ≠ TO → c ≠ i1 → c ≠ i2 → s.heap.get? c = some o → h'.get? c = some o) → Q (.ref s.heap.objs.size) { s with heap := h' }) :
    wpAny (model prog w) A (Builtin.«zip.__next__» ⟨[.ref z], []⟩) (fun fin s' => ∃ v, fin = .done (.ret v) ∧ Q v s') E s := by
  show wpAny _ _ (field (.ref z) 2 >>= _) _ _ _
  refine wpAny_bind (wpAny_field hz rfl (x := .bool false) rfl ?_)
  show wpAny _ _ (field (.ref z) 3 >>= _) _ _ _
  refine wpAny_bind (wpAny_field hz rfl (x := .ref TI) rfl (wpAny_bind (wpAny_seqItems hTI rfl ?_)))
  show wpAny _ _ (Builtin.SmallTypes.ownedTupleIsFree (.ref z) >>= _) _ _ _
  refine wpAny_bind ?_
  unfold Builtin.SmallTypes.ownedTupleIsFree
  refine wpAny_bind (wpAny_field hz rfl (x := .none) rfl (wpAny_pure ?_))
  simp only [if_true]
  refine wpAny_bind (wpAny_rule (wpAny_bind (wpAny_field hz rfl (x := .ref TO) rfl ?_)))
  refine wpAny_bind (wpAny_setField_rec hz (by simp) fun g1 hz1 s1 => ?_)
  replace hz1 : IsZip g1 z TI TO .ellipsis := hz1
  refine wpAny_bind ?_
  simp only [List.zipIdx_cons, List.zipIdx_nil, List.forIn_cons, List.forIn_nil]
  refine wpAny_bind (wpAny_bind (wpAny_onRaise ?_))
  show wpAny _ _ (Builtin.SmallTypes.nextOf (.ref i1) >>= _) _ _ _
  refine wpAny_bind (nextOf_tup (TupIter.ext h1 s1.extBut D.i1z) (Tup.ext hl1 s1.extBut D.l1z) hx fun g2 h12 s2 => wpAny_pure ?_)
  have hTO2 : IsPair g2 TO a b := s2.extBut _ _ D.TOi1 (s1.extBut _ _ D.TOz hTO)
  refine wpAny_bind (wpAny_seqItems hTO2 rfl (wpAny_bind (wpAny_updateSeq_pair hTO2 fun g3 hTO3 s3 => ?_)))
  replace hTO3 : IsPair g3 TO x b := hTO3
  refine wpAny_bind (wpAny_letGo (wpAny_pure (wpAny_bind (wpAny_bind (wpAny_onRaise ?_)))))
  show wpAny _ _ (Builtin.SmallTypes.nextOf (.ref i2) >>= _) _ _ _
  refine wpAny_bind (nextOf_tup (TupIter.ext (TupIter.ext (TupIter.ext h2 s1.extBut D.i2z) s2.extBut D.i12.symm) s3.extBut D.TOi2.symm)
    (Tup.ext (Tup.ext (Tup.ext hl2 s1.extBut D.l2z) s2.extBut D.l2i1) s3.extBut D.l2TO) hy fun g4 h24 s4 => wpAny_pure ?_)
  have hTO4 : IsPair g4 TO x b := s4.extBut _ _ D.TOi2 hTO3
  refine wpAny_bind (wpAny_seqItems hTO4 rfl (wpAny_bind (wpAny_updateSeq_pair hTO4 fun g5 hTO5 s5 => ?_)))
  replace hTO5 : IsPair g5 TO x y := hTO5
  refine wpAny_bind (wpAny_letGo (wpAny_pure (wpAny_pure (wpAny_bind (wpAny_seqItems hTO5 rfl (wpAny_bind (wpAny_newTuple ?_)))))))
  have hsz : g5.objs.size = s.heap.objs.size := by rw [s5.1, s4.1, s3.1, s2.1, s1.1]
  have hz5 : IsZip g5 z TI TO .ellipsis := s5.extBut _ _ D.TOz.symm (s4.extBut _ _ D.i2z.symm (s3.extBut _ _ D.TOz.symm (s2.extBut _ _ D.i1z.symm hz1)))
  have hk5 : ∀ c o, c ≠ z → c ≠ TO → c ≠ i1 → c ≠ i2 → s.heap.get? c = some o → g5.get? c = some o := fun c o c1 c2 c3 c4 e =>
    s5.extBut _ _ c2 (s4.extBut _ _ c4 (s3.extBut _ _ c2 (s2.extBut _ _ c3 (s1.extBut _ _ c1 e))))
  have h15 : g5.IsTupleIter i1 l1 (k1 + 1) := TupIter.ext (TupIter.ext (TupIter.ext h12 s3.extBut D.TOi1.symm) s4.extBut D.i12) s5.extBut D.TOi1.symm
  have h25 : g5.IsTupleIter i2 l2 (k2 + 1) := TupIter.ext h24 s5.extBut D.TOi2.symm
  have hzlt : z < g5.objs.size := Heap.lt_size hz5
  show wpAny _ _ (Builtin.SmallTypes.ownedTupleHandOut (.ref z) (.ref g5.objs.size) >>= _) _ _ _
  refine wpAny_bind ?_
  unfold Builtin.SmallTypes.ownedTupleHandOut
  have hz6 : IsZip (g5.push { cls := .type "tuple", data := .seq #[x, y] }) z TI TO .ellipsis := Heap.get?_push_of_some _ hz5
  refine wpAny_bind (wpAny_setField_rec hz6 (by simp) fun g7 hz7 s7 => ?_)
  replace hz7 : IsZip g7 z TI TO (rawInt g5.objs.size) := hz7
  refine wpAny_setField_rec hz7 (by simp) fun g8 hz8 s8 => ?_
  replace hz8 : IsZip g8 z TI TO (rawInt g5.objs.size) := hz8
  have up : ∀ c o, c ≠ z → g5.get? c = some o → g8.get? c = some o := fun c o c1 e => s8.extBut _ _ c1 (s7.extBut _ _ c1 (Heap.get?_push_of_some _ e))
  have hT8 : IsPair g8 g5.objs.size x y := s8.extBut _ _ (Nat.ne_of_gt hzlt) (s7.extBut _ _ (Nat.ne_of_gt hzlt) (Heap.get?_push_size _ rfl))
  rw [hsz] at hz8 hT8
  refine wpAny_pure ⟨_, rfl, ?_⟩
  show Q (.ref g5.objs.size) _
  rw [hsz]
  exact hQ g8 hz8 (up _ _ D.TOz hTO5) (h15.at fun o e => up _ o D.i1z e) (h25.at fun o e => up _ o D.i2z e) hT8 fun c o c1 c2 c3 c4 e => up c o c1 (hk5 c o c1 c2 c3 c4 e)

theorem zipT_end {z TI TO i1 i2 l1 l2 : Addr} {k1 k2 : Nat} {xs ys : Array Value} {a b : Value} {Q : Fin → Shared → Prop} (hh : A.handled = none) (D : ZipApart z TI TO i1 i2 l1 l2)
    (hz : IsZip s.heap z TI TO .none) (hTI : IsPair s.heap TI (.ref i1) (.ref i2)) (hTO : IsPair s.heap TO a b) (h1 : s.heap.IsTupleIter i1 l1 k1) (h2 : s.heap.IsTupleIter i2 l2 k2)
    (hl1 : s.heap.IsTuple l1 xs) (hl2 : s.heap.IsTuple l2 ys) (hend : xs[k1]? = none ∨ ys[k2]? = none)
    (hE : ∀ h' e, (∀ c o, c ≠ z → c ≠ TO → c ≠ i1 → c ≠ i2 → s.heap.get? c = some o → h'.get? c = some o) → (∃ o, h'.get? e = some o ∧ o.cls = .type "StopIteration") → E (.ref e) { s with heap := h' }) :
    wpAny (model prog w) A (Builtin.«zip.__next__» ⟨[.ref z], []⟩) Q E s := by
  show wpAny _ _ (field (.ref z) 2 >>= _) _ _ _
  refine wpAny_bind (wpAny_field hz rfl (x := .bool false) rfl ?_)
  show wpAny _ _ (field (.ref z) 3 >>= _) _ _ _
  refine wpAny_bind (wpAny_field hz rfl (x := .ref TI) rfl (wpAny_bind (wpAny_seqItems hTI rfl ?_)))
  show wpAny _ _ (Builtin.SmallTypes.ownedTupleIsFree (.ref z) >>= _) _ _ _
  refine wpAny_bind ?_
  unfold Builtin.SmallTypes.ownedTupleIsFree
  refine wpAny_bind (wpAny_field hz rfl (x := .none) rfl (wpAny_pure ?_))
  simp only [if_true]
  refine wpAny_bind (wpAny_rule (wpAny_bind (wpAny_field hz rfl (x := .ref TO) rfl ?_)))
  refine wpAny_bind (wpAny_setField_rec hz (by simp) fun g1 hz1 s1 => ?_)
  replace hz1 : IsZip g1 z TI TO .ellipsis := hz1
  refine wpAny_bind ?_
  simp only [List.zipIdx_cons, List.zipIdx_nil, List.forIn_cons, List.forIn_nil]
  refine wpAny_bind (wpAny_bind (wpAny_onRaise ?_))
  show wpAny _ _ (Builtin.SmallTypes.nextOf (.ref i1) >>= _) _ _ _
  cases hx : xs[k1]? with
  | none =>
    refine wpAny_bind (nextOf_tupEnd hh (TupIter.ext h1 s1.extBut D.i1z) (Tup.ext hl1 s1.extBut D.l1z) hx fun g2 e s2 he => ?_)
    obtain ⟨oe, hoe, hce⟩ := he
    have hz2 : IsZip g2 z TI TO .ellipsis := s2 _ _ D.i1z.symm hz1
    have hez : e ≠ z := fun x => by subst x; rw [hz2] at hoe; cases hoe; simp at hce
    exact wpAny_setField_rec hz2 (by simp) fun g3 _ s3 => hE g3 e (fun c o c1 _ c3 _ x => s3.extBut _ _ c1 (s2 _ _ c3 (s1.extBut _ _ c1 x))) ⟨oe, s3.extBut _ _ hez hoe, hce⟩
  | some x =>
    have hy : ys[k2]? = none := by
      rcases hend with h | h
      · rw [hx] at h; cases h
      · exact h
    refine wpAny_bind (nextOf_tup (TupIter.ext h1 s1.extBut D.i1z) (Tup.ext hl1 s1.extBut D.l1z) hx fun g2 h12 s2 => wpAny_pure ?_)
    have hTO2 : IsPair g2 TO a b := s2.extBut _ _ D.TOi1 (s1.extBut _ _ D.TOz hTO)
    refine wpAny_bind (wpAny_seqItems hTO2 rfl (wpAny_bind (wpAny_updateSeq_pair hTO2 fun g3 hTO3 s3 => ?_)))
    refine wpAny_bind (wpAny_letGo (wpAny_pure (wpAny_bind (wpAny_bind (wpAny_onRaise ?_)))))
    show wpAny _ _ (Builtin.SmallTypes.nextOf (.ref i2) >>= _) _ _ _
    refine wpAny_bind (nextOf_tupEnd hh (TupIter.ext (TupIter.ext (TupIter.ext h2 s1.extBut D.i2z) s2.extBut D.i12.symm) s3.extBut D.TOi2.symm)
      (Tup.ext (Tup.ext (Tup.ext hl2 s1.extBut D.l2z) s2.extBut D.l2i1) s3.extBut D.l2TO) hy fun g4 e s4 he => ?_)
    obtain ⟨oe, hoe, hce⟩ := he
    have hz4 : IsZip g4 z TI TO .ellipsis := s4 _ _ D.i2z.symm (s3.extBut _ _ D.TOz.symm (s2.extBut _ _ D.i1z.symm hz1))
    have hez : e ≠ z := fun x => by subst x; rw [hz4] at hoe; cases hoe; simp at hce
    exact wpAny_setField_rec hz4 (by simp) fun g5 _ s5 => hE g5 e (fun c o c1 c2 c3 c4 x => s5.extBut _ _ c1 (s4 _ _ c4 (s3.extBut _ _ c2 (s2.extBut _ _ c3 (s1.extBut _ _ c1 x))))) ⟨oe, s5.extBut _ _ hez hoe, hce⟩

abbrev zT1 (h : Heap) (l1 : Addr) : Heap := h.push { cls := .type "tuple_iterator", data := .fields #[.ref l1, .int 0 0] }
abbrev zT2 (h : Heap) (l1 l2 : Addr) : Heap := (zT1 h l1).push { cls := .type "tuple_iterator", data := .fields #[.ref l2, .int 0 0] }
abbrev zT3 (h : Heap) (l1 l2 : Addr) : Heap := (zT2 h l1 l2).push { cls := .type "tuple", data := .seq #[.ref h.objs.size, .ref (zT1 h l1).objs.size] }
abbrev zT4 (h : Heap) (l1 l2 : Addr) : Heap := (zT3 h l1 l2).push { cls := .type "tuple", data := .seq #[.none, .none] }
abbrev zT5 (h : Heap) (l1 l2 : Addr) : Heap := (zT4 h l1 l2).push { cls := .type "zip", data := .fields #[.none, .bool false, .bool false, .ref (zT2 h l1 l2).objs.size, .ref (zT3 h l1 l2).objs.size] }
theorem zipT_new (l1 l2 : Addr) (xs ys : Array Value) :
    Meets (Builtin.«zip.__new__» ⟨[.type "zip", .ref l1, .ref l2], []⟩) (fun _ R s => s.heap.IsTuple l1 xs ∧ s.heap.IsTuple l2 ys ∧
      R (.ok (.ret (.ref (zT4 s.heap l1 l2).objs.size))) { s with heap := zT5 s.heap l1 l2 }) :=
  .of_wp fun prog w A R s h => by
    obtain ⟨hp, g, d, tk, os⟩ := s
    obtain ⟨hl1, hl2, h⟩ := h
    have hsub := sub_zip
    have hL1 : Heap.IsTuple (Shared.heap ⟨hp, g, d, tk, os⟩) l1 xs := hl1
    have hL2 : Heap.IsTuple (Shared.heap ⟨hp.push { cls := .type "tuple_iterator", data := .fields #[.ref l1, .int 0 0] }, g, d, tk, os⟩) l2 ys := Heap.IsTuple.push hl2 _
    wp_walk using wpAny_pyIter_tuple hL1, wpAny_pyIter_tuple hL2
    exact ⟨_, rfl, h⟩
theorem call_zipT {l1 l2 : Addr} {xs ys : Array Value} {Q : Value → Shared → Prop} (hl1 : s.heap.IsTuple l1 xs) (hl2 : s.heap.IsTuple l2 ys)
    (h : ∀ h', IsZip h' (s.heap.objs.size + 4) (s.heap.objs.size + 2) (s.heap.objs.size + 3) .none → IsPair h' (s.heap.objs.size + 2) (.ref s.heap.objs.size) (.ref (s.heap.objs.size + 1)) →
      IsPair h' (s.heap.objs.size + 3) .none .none → h'.IsTupleIter s.heap.objs.size l1 0 → h'.IsTupleIter (s.heap.objs.size + 1) l2 0 →
      (∀ c o, s.heap.get? c = some o → h'.get? c = some o) → Q (.ref (s.heap.objs.size + 4)) { s with heap := h' }) : wpAny (model prog w) A (call (.type "zip") [.ref l1, .ref l2]) Q E s := by
  refine callType_new F.called_zip (by decide) (F.typeCall_zip_2 _ _) (F.newCall_zip_2 _ _) (fun obj => F.args_object_init_3 obj _ _) F.entry_zip_new (zipT_new l1 l2 xs ys) ⟨hl1, hl2, ?_⟩
  have z1 : (zT1 s.heap l1).objs.size = s.heap.objs.size + 1 := Heap.size_push ..
  have z2 : (zT2 s.heap l1 l2).objs.size = s.heap.objs.size + 2 := by rw [Heap.size_push, z1]
  have z3 : (zT3 s.heap l1 l2).objs.size = s.heap.objs.size + 3 := by rw [Heap.size_push, z2]
  have z4 : (zT4 s.heap l1 l2).objs.size = s.heap.objs.size + 4 := by rw [Heap.size_push, z3]
  have p : ∀ {g : Heap} {c : Addr} {o o' : Obj}, g.get? c = some o → (g.push o').get? c = some o := fun e => Heap.get?_push_of_some _ e
  have g5 : (zT5 s.heap l1 l2).get? (zT4 s.heap l1 l2).objs.size = some _ := Heap.get?_push_size _ rfl
  have g4 : (zT5 s.heap l1 l2).get? (zT3 s.heap l1 l2).objs.size = some _ := p (Heap.get?_push_size _ rfl)
  have g3 : (zT5 s.heap l1 l2).get? (zT2 s.heap l1 l2).objs.size = some _ := p (p (Heap.get?_push_size _ rfl))
  have g2 : (zT5 s.heap l1 l2).get? (zT1 s.heap l1).objs.size = some _ := p (p (p (Heap.get?_push_size _ rfl)))
  have g1 : (zT5 s.heap l1 l2).get? s.heap.objs.size = some _ := p (p (p (p (Heap.get?_push_size _ rfl))))
  show _ ∧ _
  rw [z2, z3, z4] at g5
  rw [z1, z2] at g3
  rw [z3] at g4
  rw [z1] at g2
  rw [z4]
  exact ⟨⟨_, g5, rfl⟩, h _ g5 g3 g4 ⟨_, g1, rfl, rfl⟩ ⟨_, g2, rfl, rfl⟩ fun c o x => p (p (p (p (p x))))⟩
theorem next_zipT {z TI TO i1 i2 l1 l2 : Addr} {k1 k2 : Nat} {xs ys : Array Value} {x y a b : Value} {Q : Option Value → Shared → Prop} (D : ZipApart z TI TO i1 i2 l1 l2)
    (hz : IsZip s.heap z TI TO .none) (hTI : IsPair s.heap TI (.ref i1) (.ref i2)) (hTO : IsPair s.heap TO a b) (h1 : s.heap.IsTupleIter i1 l1 k1) (h2 : s.heap.IsTupleIter i2 l2 k2)
    (hl1 : s.heap.IsTuple l1 xs) (hl2 : s.heap.IsTuple l2 ys) (hx : xs[k1]? = some x) (hy : ys[k2]? = some y)
    (hQ : ∀ h', IsZip h' z TI TO (rawInt s.heap.objs.size) → IsPair h' TO x y → h'.IsTupleIter i1 l1 (k1 + 1) → h'.IsTupleIter i2 l2 (k2 + 1) → IsPair h' s.heap.objs.size x y →
      (∀ c o, c ≠ z → c ≠ TO → c ≠ i1 → c ≠ i2 → s.heap.get? c = some o → h'.get? c = some o) → Q (some (.ref s.heap.objs.size)) { s with heap := h' }) :
    wpAny (model prog w) A (pyNext (.ref z)) Q E s := by
  have hT : s.TypeIs (.ref z) "zip" := ⟨_, hz, rfl⟩
  unfold pyNext
  exact wpAny_bind (wpAny_attempt (wpAny_callSpecial?_slot (name := Str.ofString "__next__") hT F.slot_zip_next (wpAny_call_entry F.slot_zip_next hT F.entry_zip_next
    (zipT_item D hz hTI hTO h1 h2 hl1 hl2 hx hy fun h' a1 a2 a3 a4 a5 a6 => wpAny_pure (hQ h' a1 a2 a3 a4 a5 a6)) (F.args_zip_next_1 _))))
theorem next_zipTend {z TI TO i1 i2 l1 l2 : Addr} {k1 k2 : Nat} {xs ys : Array Value} {a b : Value} {Q : Option Value → Shared → Prop} (hh : A.handled = none) (D : ZipApart z TI TO i1 i2 l1 l2)
    (hz : IsZip s.heap z TI TO .none) (hTI : IsPair s.heap TI (.ref i1) (.ref i2)) (hTO : IsPair s.heap TO a b) (h1 : s.heap.IsTupleIter i1 l1 k1) (h2 : s.heap.IsTupleIter i2 l2 k2)
    (hl1 : s.heap.IsTuple l1 xs) (hl2 : s.heap.IsTuple l2 ys) (hend : xs[k1]? = none ∨ ys[k2]? = none)
    (hQ : ∀ h', (∀ c o, c ≠ z → c ≠ TO → c ≠ i1 → c ≠ i2 → s.heap.get? c = some o → h'.get? c = some o) → Q none { s with heap := h' }) : wpAny (model prog w) A (pyNext (.ref z)) Q E s := by
  have hT : s.TypeIs (.ref z) "zip" := ⟨_, hz, rfl⟩
  unfold pyNext
  refine wpAny_bind (wpAny_attempt (wpAny_callSpecial?_slot (name := Str.ofString "__next__") hT F.slot_zip_next (wpAny_call_entry F.slot_zip_next hT F.entry_zip_next
    (zipT_end hh D hz hTI hTO h1 h2 hl1 hl2 hend fun h' e hk ⟨o, ho, hc⟩ => wpAny_bind (wpAny_isInstance (T := "StopIteration") (b := true) ⟨o, ho, hc⟩ isSubtype_stop (wpAny_pure (hQ _ hk)))) (F.args_zip_next_1 _))))
end

/-- the tuples at a and b, the items in new pairs -/
def ItzT (K : PySem.W.Frag) (a b : Addr) : It :=
  ⟨fun i H => ∃ (xs ys : List V) (x y : V), SqT K H a xs ∧ SqT K H b ys ∧ xs[i]? = some x ∧ ys[i]? = some y,
    fun i H v H' => ∃ T x y, v = .ref T ∧ H T = none ∧ H' = upd H T (.tup [x, y]) ∧ (∀ xs, SqT K H a xs → xs[i]? = some x) ∧ ∀ ys, SqT K H b ys → ys[i]? = some y,
    fun i H => ∃ xs ys : List V, SqT K H a xs ∧ SqT K H b ys ∧ (xs.length ≤ i ∨ ys.length ≤ i)⟩
theorem turn_zipT {P : Program} {w : World} {K : PySem.W.Frag} {elts : List Expr} {kk : Nat} {tpos : Pos} {a b z TI TO i1 i2 : Addr} (D : ZipApart z TI TO i1 i2 a b) :
    Turn P w K (.Tuple elts kk tpos) (ItzT K a b) [z, TI, TO, i1, i2] z (fun i h => IsZip h z TI TO .none ∧ IsPair h TI (.ref i1) (.ref i2) ∧ (∃ x y, IsPair h TO x y) ∧ h.IsTupleIter i1 a i ∧ h.IsTupleIter i2 b i) where
  mem := by simp
  obj := fun i h st c hc => by
    obtain ⟨hz, hTI, ⟨x, y, hTO⟩, ⟨o1, e1, _, d1⟩, ⟨o2, e2, _, d2⟩⟩ := st
    have e' : c = z ∨ c = TI ∨ c = TO ∨ c = i1 ∨ c = i2 := by simpa using hc
    rcases e' with q | q | q | q | q
    · rw [q]; exact ⟨_, hz, fun v q => nomatch q⟩
    · rw [q]; exact ⟨_, hTI, fun v q => nomatch q⟩
    · rw [q]; exact ⟨_, hTO, fun v q => nomatch q⟩
    · rw [q]; exact ⟨o1, e1, fun v q => by rw [d1] at q; cases q⟩
    · rw [q]; exact ⟨o2, e2, fun v q => by rw [d2] at q; cases q⟩
  keep := fun i h h' st k => by
    obtain ⟨hz, hTI, ⟨x, y, hTO⟩, h1, h2⟩ := st
    exact ⟨k z (by simp) _ hz, k TI (by simp) _ hTI, ⟨x, y, k TO (by simp) _ hTO⟩, h1.at fun o q => k i1 (by simp) o q, h2.at fun o q => k i2 (by simp) o q⟩
  item := by
    intro X hP hw hK hc i pins s σ H E I hf st hg
    subst hP hw hK
    obtain ⟨hz, hTI, ⟨x0, y0, hTO⟩, h1, h2⟩ := st
    obtain ⟨xs, ys, x, y, hqx, hqy, hx, hy⟩ := hg
    obtain ⟨its, rv, p, _⟩ := I.tuple hqx
    obtain ⟨its2, rv2, p2, _⟩ := I.tuple hqy
    obtain ⟨u, hu, ru⟩ := rv.get hx
    obtain ⟨u2, hu2, ru2⟩ := rv2.get hy
    have hzl : z < s.heap.objs.size := Heap.lt_size hz
    refine next_zipT D hz hTI hTO h1 h2 p p2 (x := u) (y := u2) (by simpa using hu) (by simpa using hu2) fun h' z' TO' h1' h2' hT hk => ?_
    refine ⟨_, rfl, wpAny_letOwnedTupleGo_zip (s := { s with heap := h' }) z' fun h'' z'' sb => ?_⟩
    have hT2 : h''.get? s.heap.objs.size = some { cls := .type "tuple", data := .seq #[u, u2] } := (sb.2 _ (Nat.ne_of_gt hzl)).trans hT
    have new : ObjOk X.prog X.w (upd H s.heap.objs.size (.tup [x, y])) h'' s.heap.objs.size (.tup [x, y]) :=
      ⟨by show 2 ≤ sizeLine; decide, [u, u2], .cons ru (.cons ru2 .nil), ⟨_, hT2, rfl, _, rfl⟩⟩
    have I1 : Inv X pins σ (upd H s.heap.objs.size (.tup [x, y])) { s with heap := h'' } :=
      I.turnedNew (t' := s.toks) (ch := [z, TI, TO, i1, i2]) (fun c o hb q => (sb.2 c (fun q' => hb (by simp [q']))).trans (hk c o (fun q' => hb (by simp [q'])) (fun q' => hb (by simp [q'])) (fun q' => hb (by simp [q'])) (fun q' => hb (by simp [q'])) q)) hf (Nat.le_refl _) new
    refine ⟨.ref s.heap.objs.size, _, I1, rfl, ⟨_, x, y, rfl, I.hok.fresh (Nat.le_refl _), rfl, fun l hl => by rw [I.tuple_inj hl hqx]; exact hx, fun l hl => by rw [I.tuple_inj hl hqy]; exact hy⟩, ⟨z'', ?_, ⟨u, u2, ?_⟩, ?_, ?_⟩, fun c hcm => ?_⟩
    · exact (sb.2 _ D.TIz).trans (hk _ _ D.TIz D.TITO D.TIi1 D.TIi2 hTI)
    · exact (sb.2 _ D.TOz).trans TO'
    · exact h1'.at fun o q => (sb.2 _ D.i1z).trans q
    · exact h2'.at fun o q => (sb.2 _ D.i2z).trans q
    · have hlt : c < s.heap.objs.size := by
        have e' : c = z ∨ c = TI ∨ c = TO ∨ c = i1 ∨ c = i2 := by simpa using hcm
        rcases e' with q | q | q | q | q
        · rw [q]; exact hzl
        · rw [q]; exact Heap.lt_size hTI
        · rw [q]; exact Heap.lt_size hTO
        · rw [q]; obtain ⟨_, e1, _⟩ := h1; exact Heap.lt_size e1
        · rw [q]; obtain ⟨_, e2, _⟩ := h2; exact Heap.lt_size e2
      rw [upd_ne (Nat.ne_of_lt hlt)]
      exact (hf c hcm).1
  done := by
    intro X hP hw hK hc i pins s σ H E I hf st hg
    subst hP hw hK
    obtain ⟨hz, hTI, ⟨x0, y0, hTO⟩, h1, h2⟩ := st
    obtain ⟨xs, ys, hqx, hqy, hend⟩ := hg
    obtain ⟨its, rv, p, _⟩ := I.tuple hqx
    obtain ⟨its2, rv2, p2, _⟩ := I.tuple hqy
    have l1 := rv.length
    have l2 := rv2.length
    have he : its.toArray[i]? = none ∨ its2.toArray[i]? = none := by
      rcases hend with q | q
      · exact .inl (by simp; omega)
      · exact .inr (by simp; omega)
    exact next_zipTend (I.ok.hd hc) D hz hTI hTO h1 h2 p p2 he fun h' hk => ⟨rfl, I.turnedL (t' := s.toks) (ch := [z, TI, TO, i1, i2]) (fun c o hb q =>
      hk c o (fun q' => hb (by simp [q'])) (fun q' => hb (by simp [q'])) (fun q' => hb (by simp [q'])) (fun q' => hb (by simp [q'])) q) hf⟩
  self := fun A i s Q E st h => wpAny_pyIter_zip st.1 h
def iZipT (K : PySem.W.Frag) (ta : TA) : TI := fun σ H R => ta σ H fun vs H1 => ∃ a b xs ys, vs = [.ref a, .ref b] ∧ SqT K H1 a xs ∧ SqT K H1 b ys ∧ R (ItzT K a b) H1
theorem pi_zipT {X : Cx} {e e2 : Expr} {ta : TA} {p pos tpos : Pos} {elts : List Expr} {kk : Nat} (hg : Gl X "zip") (hm : X.mg "zip" = none) (ha : PA X [e, e2] ta)
    (hs : starEach [e, e2] X.env = (false, eval e X.env) :: starEach [e2] X.env := by rfl) (hpl : (backTo pos (starEach [e2] X.env)).any (·.1) = false := by rfl) :
    PI X (.Tuple elts kk tpos) (.Call (.Name "zip" p) [e, e2] [] pos) (iZipT X.K ta) := by
  intro pins s σ H R I h
  refine Call_ (ld_blt I hg hm boot_zip5 (PyProof.Rows.callWith_type1 (thn (ha pos pins s σ H _ I h) fun us s1 ⟨vs, H1, I1, r1, q1⟩ => ?_) hs hpl))
  obtain ⟨a, b, xs, ys, ex, hqx, hqy, q⟩ := q1
  subst ex
  cases r1 with
  | cons r rr =>
    cases rr with
    | cons r' rr =>
      cases rr
      cases r
      cases r'
      obtain ⟨its, rv, p1, _⟩ := I1.tuple hqx
      obtain ⟨its2, rv2, p2, _⟩ := I1.tuple hqy
      have la : a < s1.heap.objs.size := p1.lt
      have lb : b < s1.heap.objs.size := p2.lt
      refine call_zipT p1 p2 fun h' hz hTI hTO h1 h2 hk => wpAny_pyIter_zip hz ?_
      have I2 : Inv X pins σ H1 { s1 with heap := h' } := I1.kept (t' := s1.toks) hk
      refine ⟨s1.heap.objs.size + 4, [s1.heap.objs.size + 4, s1.heap.objs.size + 2, s1.heap.objs.size + 3, s1.heap.objs.size, s1.heap.objs.size + 1], _, _, H1, rfl, I2, turn_zipT (PySem.W.ktu_apart s1.heap.objs.size a b la lb), ⟨hz, hTI, ⟨_, _, hTO⟩, h1, h2⟩, fun c hcm => ?_, q⟩
      have e' : c = s1.heap.objs.size + 4 ∨ c = s1.heap.objs.size + 2 ∨ c = s1.heap.objs.size + 3 ∨ c = s1.heap.objs.size ∨ c = s1.heap.objs.size + 1 := by simpa using hcm
      have hle : s1.heap.objs.size ≤ c := by
        rcases e' with z | z | z | z | z
        · rw [z]; exact Nat.le_add_right _ _
        · rw [z]; exact Nat.le_add_right _ _
        · rw [z]; exact Nat.le_add_right _ _
        · rw [z]; exact Nat.le_refl _
        · rw [z]; exact Nat.le_add_right _ _
      exact I1.fpOk hle (I1.hok.fresh hle)
end L2

end
section
set_option Elab.async false
set_option linter.all false
set_option maxRecDepth 100000
namespace L2
open PySem PySem.Spec PyProof.Rows

/-! ### tuple(reversed(t)) of a tuple -/
namespace RV
theorem slot_next : Slot "reversed" "__next__" "reversed.__next__" :=
  .of (owner := "reversed") (n := "__next__") (by rw [typeLookup_type, builtinLookup_eq_fast]; kernel_rfl)
    (by decide +kernel) (by decide +kernel) (by decide +kernel) (by first | exact .inl (by decide +kernel) | exact .inr (by decide +kernel)) (by rw [isSubtype_type]; kernel_rfl)
theorem entry_next : entryFor table "reversed.__next__" = some Builtin.«reversed.__next__» := entryFor_of_tree (by kernel_rfl)
theorem owner_rev : Manifest.owners.lookup (String.ofList ['d', 'e', 's', 'r', 'e', 'v', 'e', 'r'].reverse) = some Manifest.sig_reversed := by kernel_rfl
theorem args_next (a : Value) : argsOk "reversed.__next__" ⟨[a], []⟩ := by
  unfold argsOk
  rw [signature?_of (id := "reversed.__next__") (n := ['_', '_', 't', 'x', 'e', 'n', '_', '_']) (o := ['d', 'e', 's', 'r', 'e', 'v', 'e', 'r']) (by kernel_rfl) owner_rev]
  kernel_rfl
theorem slot_iter : Slot "reversed" "__iter__" "reversed.__iter__" :=
  .of (owner := "reversed") (n := "__iter__") (by rw [typeLookup_type, builtinLookup_eq_fast]; kernel_rfl)
    (by decide +kernel) (by decide +kernel) (by decide +kernel) (by first | exact .inl (by decide +kernel) | exact .inr (by decide +kernel)) (by rw [isSubtype_type]; kernel_rfl)
theorem args_iter (a : Value) : argsOk "reversed.__iter__" ⟨[a], []⟩ := by
  unfold argsOk
  rw [signature?_of (id := "reversed.__iter__") (n := ['_', '_', 'r', 'e', 't', 'i', '_', '_']) (o := ['d', 'e', 's', 'r', 'e', 'v', 'e', 'r']) (by kernel_rfl) owner_rev]
  kernel_rfl
theorem entry_iter : entryFor table "reversed.__iter__" = some Builtin.«dict_keyiterator.__iter__» :=
  entryFor_alias (id' := "dict_keyiterator.__iter__") (by kernel_rfl) (by first | rfl | decide +kernel | (unfold String.splitOn; simp +decide [String.splitOnAux]))
    (by decide +kernel) (by kernel_rfl)
theorem slot_hint : Slot "reversed" "__length_hint__" "reversed.__length_hint__" :=
  .of (owner := "reversed") (n := "__length_hint__") (by rw [typeLookup_type, builtinLookup_eq_fast]; kernel_rfl)
    (by decide +kernel) (by decide +kernel) (by decide +kernel) (by first | exact .inl (by decide +kernel) | exact .inr (by decide +kernel)) (by rw [isSubtype_type]; kernel_rfl)
theorem entry_hint : entryFor table "reversed.__length_hint__" = some Builtin.«reversed.__length_hint__» := entryFor_of_tree (by kernel_rfl)
theorem args_hint (a : Value) : argsOk "reversed.__length_hint__" ⟨[a], []⟩ := by
  unfold argsOk
  rw [signature?_of (id := "reversed.__length_hint__") (n := ['_', '_', 't', 'n', 'i', 'h', '_', 'h', 't', 'g', 'n', 'e', 'l', '_', '_']) (o := ['d', 'e', 's', 'r', 'e', 'v', 'e', 'r']) (by kernel_rfl) owner_rev]
  kernel_rfl
theorem nolen : typeLookup (.type "reversed") "__len__" = pure none := by rw [typeLookup_type, builtinLookup_eq_fast]; kernel_rfl
theorem norev : typeLookup (.type "tuple") "__reversed__" = pure none := by rw [typeLookup_type, builtinLookup_eq_fast]; kernel_rfl
theorem sub_td : isSubtype (.type "tuple") (.type "dict") = pure false := by rw [isSubtype_type]; kernel_rfl
theorem noinit : typeLookup (.type "reversed") "__init__" = pure (some (.builtin "object.__init__")) := by rw [typeLookup_type, builtinLookup_eq_fast]; kernel_rfl
theorem slot_init : Slot "reversed" "__init__" "object.__init__" :=
  .of (owner := "object") (n := "__init__") (by rw [typeLookup_type, builtinLookup_eq_fast]; kernel_rfl)
    (by decide +kernel) (by decide +kernel) (by decide +kernel) (by first | exact .inl (by decide +kernel) | exact .inr (by decide +kernel)) (by rw [isSubtype_type]; kernel_rfl)
theorem called : TypeCalled "reversed" "reversed.__new__" "object.__init__" :=
  ⟨by decide +kernel, by decide +kernel, ⟨_, _, PySem.F.mro_reversed⟩, PySem.F.made_reversed, by decide +kernel, by rw [isSubtype_type]; kernel_rfl, slot_init⟩
end RV
def IsRv (h : Heap) (r t : Addr) (i : Int) : Prop := h.get? r = some { cls := .type "reversed", dict := none, data := .fields #[.ref t, rawInt i], slots := #[] }
section
variable {prog : Program} {w : World} {A : Around} {E : Value → Shared → Prop} {s : Shared}
theorem rv_new (t : Addr) (items : Array Value) (hz : items.size ≤ sizeLine) :
    Meets (Builtin.«reversed.__new__» ⟨[.type "reversed", .ref t], []⟩) (fun _ R s => IsTup s.heap t items ∧
      ∀ tk, R (.ok (.ret (.ref s.heap.objs.size))) { s with heap := s.heap.push { cls := .type "reversed", data := .fields #[.ref t, rawInt ((items.size : Int) - 1)] }, toks := tk }) :=
  .of_wp fun prog w A R s ⟨ht, h⟩ => by
    unfold Builtin.«reversed.__new__»
    refine wpAny_bind (wpAny_of_eq (newClass_reversed _) ?_)
    try dsimp only
    refine wpAny_bind (wpAny_of_eq (a := ()) (by first | rfl | kernel_rfl) ?_)
    refine wpAny_bind (wpAny_of_eq (a := ()) (by first | rfl | kernel_rfl) ?_)
    try dsimp only
    refine wpAny_bind (wpAny_specialOf ht.typeIs RV.norev ?_)
    dsimp only
    refine wpAny_bind ?_
    wp_delta
    refine wpAny_bind (wpAny_isInstance (b := false) ht.typeIs RV.sub_td ?_)
    rw [if_neg Bool.false_ne_true]
    refine wpAny_bind (wpAny_specialOf ht.typeIs PyProof.Rows.slot_tuple_getitem.lookup ?_)
    dsimp only
    rw [if_pos (by decide)]
    refine wpAny_pure ?_
    rw [if_neg (by decide)]
    have hn := line63
    refine wpAny_bind (PyProof.Rows.len_tuple ht (by omega) ?_)
    refine wpAny_bind (m := asInt? (.int _ _)) (wpAny_pure ?_)
    dsimp only
    unfold Builtin.SmallTypes.newRecord
    exact wpAny_bind (wpAny_newObj_type (wpAny_pure ⟨_, rfl, h _⟩))
theorem call_rv {t : Addr} {items : Array Value} {Q : Value → Shared → Prop} (ht : IsTup s.heap t items) (hz : items.size ≤ sizeLine)
    (h : ∀ tk, Q (.ref s.heap.objs.size) { s with heap := s.heap.push { cls := .type "reversed", data := .fields #[.ref t, rawInt ((items.size : Int) - 1)] }, toks := tk }) :
    wpAny (model prog w) A (call (.type "reversed") [.ref t]) Q E s :=
  callType_new RV.called (by decide) (PySem.F.typeCall_reversed_1 _) (PySem.F.newCall_reversed_1 _) (fun obj => F.args_object_init_2 obj _) PySem.F.entry_reversed_new
    (rv_new t items hz) ⟨ht, fun tk => ⟨⟨_, Heap.get?_push_size _ rfl, rfl⟩, h tk⟩⟩
theorem IsRv.typeIs {r t : Addr} {i : Int} (x : IsRv s.heap r t i) : s.TypeIs (.ref r) "reversed" := ⟨_, x, rfl⟩
theorem iter_rv {r t : Addr} {i : Int} {Q : Value → Shared → Prop} (x : IsRv s.heap r t i) (h : Q (.ref r) s) : wpAny (model prog w) A (pyIter (.ref r)) Q E s := by
  refine wpAny_pyIter_slot x.typeIs RV.slot_iter (wpAny_call_entry RV.slot_iter x.typeIs RV.entry_iter ?_ (RV.args_iter _))
  show wpAny _ _ (ret (.ref r)) _ _ s
  exact wpAny_pure ⟨_, rfl, "reversed", _, x.typeIs, RV.slot_next.lookup, h⟩
theorem next_rv {r t : Addr} {i : Nat} {items : Array Value} {x : Value} {Q : Option Value → Shared → Prop} (hit : IsRv s.heap r t (i : Int)) (ht : IsTup s.heap t items) (hz : items.size ≤ sizeLine) (hx : items[i]? = some x)
    (hQ : ∀ h' tk, IsRv h' r t ((i : Int) - 1) → Heap.SameBut r s.heap h' → Q (some x) { s with heap := h', toks := tk }) : wpAny (model prog w) A (pyNext (.ref r)) Q E s := by
  unfold pyNext
  refine wpAny_bind (wpAny_attempt (wpAny_callSpecial?_slot (name := Str.ofString "__next__") hit.typeIs RV.slot_next (wpAny_call_entry RV.slot_next hit.typeIs RV.entry_next ?_ (RV.args_next _))))
  unfold Builtin.«reversed.__next__»
  refine wpAny_bind (wpAny_of_eq (a := (Value.ref r, [])) rfl ?_)
  try dsimp only
  refine wpAny_bind (wpAny_field hit rfl (x := .ref t) rfl ?_)
  refine wpAny_bind (wpAny_field hit rfl (x := rawInt (i : Int)) rfl ?_)
  show wpAny _ _ (if (i : Int) < 0 then _ else _) _ _ s
  rw [if_neg (by omega)]
  refine wpAny_bind (wpAny_specialOf ht.typeIs PyProof.Rows.slot_tuple_getitem.lookup ?_)
  try dsimp only
  rw [if_neg (by simp)]
  refine wpAny_bind (wpAny_mkInt ?_)
  have hlt : i < items.size := (Array.getElem?_eq_some_iff.mp hx).1
  have hn := line63
  refine wpAny_bind (wpAny_attempt (PyProof.Rows.getItem_tuple (j := i) ht (by omega) (by omega) ?_ hx ?_))
  · unfold seqIndex?
    simp
    omega
  try dsimp only
  refine wpAny_bind (wpAny_field (s := { s with toks := s.toks + 1 }) hit rfl (x := rawInt (i : Int)) rfl ?_)
  show wpAny _ _ (setField (.ref r) 1 (rawInt ((i : Int) - 1)) >>= _) _ _ _
  exact wpAny_bind (wpAny_setField_rec (s := { s with toks := s.toks + 1 }) hit (by simp) fun h' he hs => wpAny_pure ⟨_, rfl, wpAny_pure (hQ h' _ he hs)⟩)
theorem next_rvEnd {r t : Addr} {Q : Option Value → Shared → Prop} (hh : A.handled = none) (hit : IsRv s.heap r t (-1))
    (hQ : ∀ h', Heap.ExtBut r s.heap h' → Q none { s with heap := h' }) : wpAny (model prog w) A (pyNext (.ref r)) Q E s := by
  unfold pyNext
  refine wpAny_bind (wpAny_attempt (wpAny_callSpecial?_slot (name := Str.ofString "__next__") hit.typeIs RV.slot_next (wpAny_call_entry RV.slot_next hit.typeIs RV.entry_next ?_ (RV.args_next _))))
  unfold Builtin.«reversed.__next__»
  refine wpAny_bind (wpAny_of_eq (a := (Value.ref r, [])) rfl ?_)
  try dsimp only
  refine wpAny_bind (wpAny_field hit rfl (x := .ref t) rfl ?_)
  refine wpAny_bind (wpAny_field hit rfl (x := rawInt (-1)) rfl ?_)
  show wpAny _ _ (if (-1 : Int) < 0 then _ else _) _ _ s
  rw [if_pos (by omega)]
  refine wpAny_bind (wpAny_rule (wpAny_bind ?_))
  wp_delta
  refine wpAny_bind (wpAny_setField_rec hit (by simp) fun g1 he1 s1 => ?_)
  refine wpAny_setField_rec he1 (by simp) fun g2 he2 s2 => ?_
  refine wpAny_bind ?_
  unfold Builtin.SmallTypes.stopIteration
  show wpAny _ _ (newExc (.type "StopIteration") [] >>= _) _ _ _
  refine wpAny_bind ?_
  simp only [newExc, newTuple]
  refine wpAny_bind (wpAny_newObj_type ?_ (by size_fits))
  refine wpAny_bind (m := firstArgMember _ _) (wpAny_of_eq (a := Value.none) (by first | rfl | (simp only [firstArgMember]; rfl)) ?_)
  refine wpAny_newObj_type ?_ (by size_fits)
  simp only [raiseNew]
  refine wpAny_bind (wpAny_handled ?_)
  rw [show A.in1.handled = none from hh]
  refine wpAny_bind (wpAny_pure (wpAny_throw ?_))
  refine wpAny_bind (wpAny_isInstance (T := "StopIteration") (b := true) ⟨_, Heap.get?_push_size _ rfl, rfl⟩ isSubtype_stop ?_)
  refine wpAny_pure (hQ _ fun b o hb e => Heap.get?_push_of_some _ (Heap.get?_push_of_some _ (s2.extBut b o hb (s1.extBut b o hb e))))
theorem walks_rv (hh : A.handled = none) (r t : Addr) (hne : t ≠ r) (items : Array Value) (hz : items.size ≤ sizeLine) :
    Walks prog w A r [r, t] [r] items.size (fun i v => items[items.size - 1 - i]? = some v) (fun i h => i ≤ items.size ∧ IsRv h r t ((items.size : Int) - 1 - (i : Nat)) ∧ IsTup h t items) where
  sub := fun b hb => by simp at hb; simp [hb]
  frame := fun i h h' st hk => ⟨st.1, hk r (by simp) _ st.2.1, by
    obtain ⟨o, ho, q⟩ := st.2.2
    exact ⟨o, hk t (by simp) _ ho, q⟩⟩
  item := fun i s Q E hi st hQ => by
    obtain ⟨_, h1, h2⟩ := st
    have e1 : (items.size : Int) - 1 - ((i : Nat) : Int) = ((items.size - 1 - i : Nat) : Int) := by omega
    rw [e1] at h1
    obtain ⟨x, hx⟩ : ∃ x, items[items.size - 1 - i]? = some x := ⟨items[items.size - 1 - i]'(by omega), Array.getElem?_eq_getElem (by omega)⟩
    refine next_rv h1 h2 hz hx fun h' tk h1' sb => hQ x h' tk hx ⟨hi, ?_, ?_⟩ fun b o hb e => sb.extBut b o (fun z => hb (by simp [z])) e
    · have e2 : ((items.size - 1 - i : Nat) : Int) - 1 = (items.size : Int) - 1 - ((i + 1 : Nat) : Int) := by omega
      rw [e2] at h1'
      exact h1'
    · obtain ⟨o, ho, q⟩ := h2
      exact ⟨o, sb.extBut _ _ hne ho, q⟩
  done := fun s Q E st hQ => by
    obtain ⟨_, h1, h2⟩ := st
    have e1 : (items.size : Int) - 1 - ((items.size : Nat) : Int) = -1 := by omega
    rw [e1] at h1
    exact next_rvEnd hh h1 fun h' eb => hQ h' s.toks fun b o hb e => eb b o (fun z => hb (by simp [z])) e
  self := fun i s Q E st hQ => iter_rv st.2.1 hQ
theorem hint_rv {r t : Addr} {items : Array Value} {Q : Value → Shared → Prop} (hit : IsRv s.heap r t ((items.size : Int) - 1)) (ht : IsTup s.heap t items) (hz : items.size ≤ sizeLine)
    (h : ∀ u tk, s.toks ≤ tk → Q (.int items.size u) { s with toks := tk }) : wpAny (model prog w) A (call (.builtin "reversed.__length_hint__") [.ref r]) Q E s := by
  refine wpAny_call_entry RV.slot_hint hit.typeIs RV.entry_hint ?_ (RV.args_hint _)
  unfold Builtin.«reversed.__length_hint__»
  refine wpAny_bind (wpAny_of_eq (a := Value.ref r) rfl ?_)
  refine wpAny_bind (wpAny_field hit rfl (x := .ref t) rfl ?_)
  show wpAny _ _ (if (Value.ref t == Value.none) = true then _ else _) _ _ s
  rw [if_neg (show ¬ ((Value.ref t == Value.none) = true) from Bool.false_ne_true)]
  have hn := line63
  refine wpAny_bind (PyProof.Rows.len_tuple ht (by omega) ?_)
  refine wpAny_bind (m := asInt? (.int _ _)) (wpAny_pure ?_)
  try dsimp only
  refine wpAny_bind (wpAny_field (s := { s with toks := s.toks + 1 + 1 }) hit rfl (x := rawInt ((items.size : Int) - 1)) rfl ?_)
  show wpAny _ _ (if (items.size : Int) < (items.size : Int) - 1 + 1 then _ else _) _ _ _
  rw [if_neg (by omega)]
  have e : (items.size : Int) - 1 + 1 = items.size := by omega
  rw [e]
  refine wpAny_bind (wpAny_mkInt (wpAny_pure ⟨_, rfl, h _ _ ?_⟩))
  show s.toks ≤ s.toks + 1 + 1 + 1
  omega
end
end L2

end
section
set_option Elab.async false
set_option linter.all false
set_option maxRecDepth 100000
namespace L2
open PySem PySem.Spec PyProof.Rows
section
variable {prog : Program} {w : World} {A : Around} {E : Value → Shared → Prop} {s : Shared}
theorem collect_rv {r t : Addr} {items : Array Value} {Q : List Value → Shared → Prop} (hh : A.handled = none) (hne : t ≠ r) (hit : IsRv s.heap r t ((items.size : Int) - 1)) (ht : IsTup s.heap t items) (hz : items.size ≤ sizeLine) (h0 : 0 < items.size)
    (hQ : ∀ h' tk, KeepBut [r] s.heap h' → Q items.toList.reverse { s with heap := h', toks := tk }) : wpAny (model prog w) A (collect (.ref r)) Q E s := by
  have W := (walks_rv (prog := prog) (w := w) (A := A.in1) hh r t hne items hz).toS
  have lr : r < s.heap.objs.size := Heap.lt_size hit
  have lt : t < s.heap.objs.size := by obtain ⟨o, ho, _⟩ := ht; exact Heap.lt_size ho
  have hSf : s.heap.objs.size ∉ [r, t] := fun hm => by
    rcases List.mem_cons.mp hm with z | z
    · rw [← z] at lr; exact Nat.lt_irrefl _ lr
    · rw [← List.mem_singleton.mp z] at lt; exact Nat.lt_irrefl _ lt
  have hSr : s.heap.objs.size ≠ r := Nat.ne_of_gt lr
  unfold collect
  refine wpAny_bind (wpAny_runValue (codeAny_builtin F.entry_proto_collect ?_))
  rw [Around.under_plainId F.plain_proto_collect _]
  show wpAny _ A.in1 (newList [] >>= fun l => again (.builtin "list.__iadd__" ⟨[l, .ref r], []⟩)) _ _ s
  refine wpAny_bind (wpAny_newObj_type ?_)
  refine wpAny_pure ⟨plainId_quiet F.plain_list_iadd _, codeAny_builtin F.entry_list_iadd ?_⟩
  rw [Around.under_plainId F.plain_list_iadd _]
  generalize hg : s.heap.push { cls := .type "list", data := .seq ([] : List Value).toArray } = g
  have kg : ∀ b o, s.heap.get? b = some o → g.get? b = some o := fun b o e => by rw [← hg]; exact Heap.get?_push_of_some _ e
  have hS1 : g.get? s.heap.objs.size = some { cls := .type "list", data := .seq #[] } := by rw [← hg]; exact Heap.get?_push_size _ rfl
  have hr1 : IsRv g r t ((items.size : Int) - 1) := kg _ _ hit
  have ht1 : IsTup g t items := by obtain ⟨o, ho, q⟩ := ht; exact ⟨o, kg _ _ ho, q⟩
  have h1 : Builtin.List.listSameRef (.ref s.heap.objs.size) (.ref r) = false := by simp [Builtin.List.listSameRef, hSr]
  show wpAny _ A.in1 (Builtin.List.listExtendWith (.ref s.heap.objs.size) (.ref r) (.ref s.heap.objs.size)) _ _ _
  unfold Builtin.List.listExtendWith
  refine wpAny_bind (wpAny_typeOf (IsRv.typeIs (s := { s with heap := g }) hr1) ?_)
  rw [if_neg (by rw [h1]; decide)]
  refine wpAny_bind (iter_rv (s := { s with heap := g }) hr1 (wpAny_bind (wpAny_holding ?_)))
  unfold Builtin.List.listLengthHint
  refine wpAny_bind (wpAny_specialOf (IsRv.typeIs (s := { s with heap := g }) hr1) RV.nolen ?_)
  show wpAny _ A.in1 (specialOf (Value.ref r) (Str.ofString "__length_hint__") >>= _) _ _ _
  refine wpAny_bind (wpAny_specialOf (IsRv.typeIs (s := { s with heap := g }) hr1) RV.slot_hint.lookup ?_)
  (generalize hid : ("reversed.__length_hint__" : String) = id0; (fail_if_success (clear hid id0)); wp_delta; rw [show splitId id0 = some ("reversed", "__length_hint__") from by subst hid; decide +kernel]; subst hid)
  refine wpAny_bind (wpAny_isInstance (b := true) (IsRv.typeIs (s := { s with heap := g }) hr1) (by rw [isSubtype_type]; kernel_rfl) ?_)
  rw [if_neg (by decide)]
  dsimp only
  rw [if_neg (by decide +kernel)]
  refine wpAny_bind (wpAny_rule (wpAny_bind (wpAny_of_eq (RV.slot_hint.bind _) ?_)))
  dsimp only
  refine wpAny_bind (wpAny_attempt (hint_rv (s := { s with heap := g }) hr1 ht1 hz fun u tk htk => ?_))
  dsimp only
  rw [show asInt? (Value.int ((items.size : Nat) : Int) u) = pure (some ((items.size : Nat) : Int)) from rfl, pure_bind]
  dsimp only
  have hn := line63
  have f1 : Builtin.List.listFitsIndex ((items.size : Nat) : Int) = true := fitsIndex_both (by omega) (by omega)
  have f2 : ¬ (!Builtin.List.listFitsIndex ((items.size : Nat) : Int)) = true := by
    rw [f1]
    exact Bool.false_ne_true
  have f3 : ¬ ((items.size : Nat) : Int) < 0 := by omega
  have f4 : ¬ Builtin.List.listTooLong ((items.size : Nat) : Int).toNat = true := by
    rw [Int.toNat_natCast, notLongL hz]
    exact Bool.false_ne_true
  simp only [if_neg f2, if_neg f3, if_neg f4]
  refine wpAny_pure ?_
  have hb : (((items.size : Nat) : Int) != 0) = true := by
    rw [bne_iff_ne]
    omega
  rw [hb, Bool.true_or, if_pos rfl]
  refine wpAny_bind (wpAny_rule (wpAny_bind ?_))
  unfold Builtin.List.listTouch
  show wpAny _ _ (updateSeq s.heap.objs.size (·.push .none) >>= fun _ => updateSeq s.heap.objs.size (·.pop)) _ _ _
  clear hn
  refine wpAny_bind (wpAny_updateSeq (s := { s with heap := g, toks := tk }) hS1 rfl ?_ (by show 0 ≤ sizeLine; exact Nat.zero_le _) (by show 1 ≤ sizeLine + 1; exact Nat.le_add_left _ _))
  have hS2 := Heap.get?_update_self (Obj.mapSeq (·.push Value.none)) hS1 rfl
  refine wpAny_updateSeq (s := { s with heap := g.update s.heap.objs.size (Obj.mapSeq (·.push Value.none)), toks := tk }) hS2 rfl ?_ (by show 1 ≤ sizeLine; decide) (by show 0 ≤ sizeLine + 1; exact Nat.zero_le _)
  have hS3 := Heap.get?_update_self (Obj.mapSeq (·.pop)) hS2 rfl
  generalize hg3 : (g.update s.heap.objs.size (Obj.mapSeq (·.push Value.none))).update s.heap.objs.size (Obj.mapSeq (·.pop)) = g3 at hS3
  have k3 : ∀ b o, s.heap.get? b = some o → g3.get? b = some o := fun b o e => by
    have ne : s.heap.objs.size ≠ b := Nat.ne_of_gt (Heap.lt_size e)
    rw [← hg3]
    exact (Heap.get?_update_other _ _ ne).trans ((Heap.get?_update_other _ _ ne).trans (kg b o e))
  have st3 : 0 ≤ items.size ∧ IsRv g3 r t ((items.size : Int) - 1 - ((0 : Nat) : Int)) ∧ IsTup g3 t items := by
    refine ⟨Nat.zero_le _, ?_, ?_⟩
    · have e : (items.size : Int) - 1 - ((0 : Nat) : Int) = (items.size : Int) - 1 := by omega
      rw [e]
      exact k3 _ _ hit
    · obtain ⟨o, ho, q⟩ := ht
      exact ⟨o, k3 _ _ ho, q⟩
  refine wpAny_pure ⟨plainId_quiet F.plain_extend_loop _, codeAny_extend_loopS W hz _ hSf _ items.size 0 _ _ _ rfl (Nat.zero_le _) st3 hS3 (ItemsOf.nil _) fun s' acc' c' hm hS' hacc => ?_⟩
  show wpAny _ A (load s.heap.objs.size >>= _) _ _ s'
  refine wpAny_bind (wpAny_load hS' (wpAny_pure ?_))
  have ea : acc'.toList = items.toList.reverse := by
    refine List.ext_getElem? fun j => ?_
    by_cases hj : j < items.size
    · have hj' : j < acc'.size := by rw [hacc.1]; exact hj
      have q := hacc.2 j acc'[j] (Array.getElem?_eq_getElem hj')
      rw [Array.getElem?_toList, Array.getElem?_eq_getElem hj', List.getElem?_reverse (by simpa using hj), Array.getElem?_toList, Array.length_toList]
      exact q.symm
    · rw [List.getElem?_eq_none (by rw [Array.length_toList, hacc.1]; omega), List.getElem?_eq_none (by rw [List.length_reverse, Array.length_toList]; omega)]
  show Q acc'.toList s'
  rw [ea]
  obtain ⟨m1, m2, m3, m4, m5⟩ := hm
  have es : s' = { s with heap := s'.heap, toks := s'.toks } := by
    obtain ⟨a1, a2, a3, a4, a5⟩ := s'
    simp only at m2 m3 m4
    subst m2 m3 m4
    rfl
  rw [es]
  refine hQ s'.heap s'.toks (fun b o hb e => m1 b o (fun hm => ?_) (k3 b o e))
  rcases List.mem_cons.mp hm with z | z
  · rw [z] at e; exact Nat.lt_irrefl _ (Heap.lt_size e)
  · exact hb z
theorem tuple_new_rv (r t : Addr) (items : Array Value) (hne : t ≠ r) (hz : items.size ≤ sizeLine) (h0 : 0 < items.size) :
    Meets (Builtin.«tuple.__new__» ⟨[.type "tuple", .ref r], []⟩)
      (fun A R s => A.handled = none ∧ IsRv s.heap r t ((items.size : Int) - 1) ∧ IsTup s.heap t items ∧ ∀ (h' : Heap) (tk : Nat), KeepBut [r] s.heap h' →
        R (.ok (.ret (.ref h'.objs.size))) { s with heap := h'.push { cls := .type "tuple", data := .seq items.toList.reverse.toArray }, toks := tk }) :=
  .of_wp fun prog w A R s ⟨hh, hit, ht, h⟩ => by
    obtain ⟨hp, g, d, tk, os⟩ := s
    have hsub := sub_tuple_self
    have hinit := init_tuple_lookup
    have hmh := madeHere_tuple
    have hT : Shared.TypeIs ⟨hp, g, d, tk, os⟩ (.ref r) "reversed" := ⟨_, hit, rfl⟩
    wp_walk using AutoSeq1.wpAny_loadPart' hit, wpAny_typeOf hT, collect_rv (prog := prog) (w := w) (A := A.in1) (s := ⟨hp, g, d, tk, os⟩) hh hne hit ht hz h0
    intro h' tk' hk
    show wpAny _ _ (Builtin.Tuple.tupleExact items.toList.reverse.toArray >>= fun v => ret v) _ _ _
    unfold Builtin.Tuple.tupleExact
    exact wpAny_bind (wpAny_newObj_type (wpAny_pure ⟨_, rfl, h h' tk' hk⟩) (by show items.toList.reverse.toArray.size ≤ sizeLine; simpa using hz))
theorem call_tuple_rv {r t : Addr} {items : Array Value} {Q : Value → Shared → Prop} (hh : A.handled = none) (hne : t ≠ r) (hit : IsRv s.heap r t ((items.size : Int) - 1)) (ht : IsTup s.heap t items) (hz : items.size ≤ sizeLine) (h0 : 0 < items.size)
    (h : ∀ (h' : Heap) (tk : Nat), KeepBut [r] s.heap h' → Q (.ref h'.objs.size) { s with heap := h'.push { cls := .type "tuple", data := .seq items.toList.reverse.toArray }, toks := tk }) :
    wpAny (model prog w) A (call (.type "tuple") [.ref r]) Q E s :=
  callType_new F.called_tuple (by decide) (F.typeCall_tuple_1 _) (F.newCall_tuple_1 _) (fun obj => F.args_object_init_2 obj _) F.entry_tuple_new
    (tuple_new_rv r t items hne hz h0) ⟨hh, hit, ht, fun h' tk hk => ⟨⟨_, Heap.get?_push_size _ rfl, rfl⟩, h h' tk hk⟩⟩
end
theorem Vals.rev {xs : List V} {us : List Value} (r : Vals xs us) : Vals xs.reverse us.reverse := by
  induction r with
  | nil => exact .nil
  | @cons x u xs us h t ih =>
    rw [List.reverse_cons, List.reverse_cons]
    exact Vals.append ih (.cons h .nil)
/-- tuple(reversed(t)) of a tuple that is not empty -/
def tRevT (te : TE) : TE := fun σ H Q => te σ H fun x H1 => ∃ a ys, x = .ref a ∧ H1 a = some (.tup ys) ∧ 0 < ys.length ∧ MkT H1 ys.reverse Q
theorem boot_tupleR : bootBuiltins "tuple" = some (.type "tuple") := by decide +kernel
theorem pe_revT {X : Cx} {e : Expr} {te : TE} {p p2 pos pos2 : Pos} (hc : X.calm = true) (hg : Gl X "tuple") (hm : X.mg "tuple" = none) (hg2 : Gl X "reversed") (hm2 : X.mg "reversed" = none) (he : PE X e te)
    (hs : starEach [e] X.env = [(false, eval e X.env)] := by rfl) (hs2 : starEach [Expr.Call (.Name "reversed" p2) [e] [] pos2] X.env = [(false, eval (.Call (.Name "reversed" p2) [e] [] pos2) X.env)] := by rfl) :
    PE X (.Call (.Name "tuple" p) [.Call (.Name "reversed" p2) [e] [] pos2] [] pos) (tRevT te) := by
  intro pins s σ H Q I h
  refine wpAny_Call_Name_kw (ld_blt I hg hm boot_tupleR ?_)
  refine PyProof.Rows.callWith_type1 ?_ hs2 rfl
  rw [hs2]
  show wpAny _ _ (spliced ((false, eval (.Call (.Name "reversed" p2) [e] [] pos2) X.env) :: [])) _ _ s
  refine Calls.spliced_cons ?_
  refine wpAny_Call_Name_kw (ld_blt I hg2 hm2 boot_reversed5 ?_)
  refine PyProof.Rows.callWith_type1 ?_ hs rfl
  rw [hs]
  show wpAny _ _ (spliced ((false, eval e X.env) :: [])) _ _ s
  refine Calls.spliced_cons (thn (he pins s σ H _ I h) fun u s1 ⟨x, H1, I1, r1, a, ys, ex, ha, h0, q⟩ => Calls.spliced_nil ?_)
  subst ex
  obtain rfl : u = Value.ref a := r1
  obtain ⟨its, rv, pt, hz⟩ := I1.tuple (SqT.of ha)
  have hl := rv.length
  have ez : its.toArray.size = ys.length := by rw [List.size_toArray]; omega
  have la : a < s1.heap.objs.size := by obtain ⟨o, ho, _⟩ := pt; exact Heap.lt_size ho
  refine call_rv pt (by rw [ez]; exact hz) fun tk => Calls.spliced_nil ?_
  refine call_tuple_rv (s := { s1 with heap := s1.heap.push { cls := .type "reversed", data := .fields #[.ref a, rawInt ((its.toArray.size : Int) - 1)] }, toks := tk }) (items := its.toArray) (I1.ok.hd hc) (Nat.ne_of_lt la)
    (Heap.get?_push_size _ rfl) (by obtain ⟨o, ho, q⟩ := pt; exact ⟨o, Heap.get?_push_of_some _ ho, q⟩) (by rw [ez]; exact hz) (by rw [ez]; exact h0) fun h' tk' hk => ?_
  have kp : ∀ b o, s1.heap.get? b = some o → h'.get? b = some o := fun b o e => hk b o (fun hm => by
    rw [List.mem_singleton.mp hm] at e
    exact Nat.lt_irrefl _ (Heap.lt_size e)) (Heap.get?_push_of_some _ e)
  have I2 : Inv X pins σ H1 { s1 with heap := h', toks := tk' } := I1.kept kp
  have I3 : Inv X pins σ (upd H1 h'.objs.size (.tup ys.reverse)) { s1 with heap := h'.push { cls := .type "tuple", data := .seq its.reverse.toArray }, toks := tk' } :=
    I2.laid (t' := tk') (fun b o e => Heap.get?_push_of_some _ e) (Nat.le_refl _) (show ObjOk X.prog X.w _ _ _ (.tup ys.reverse) from ⟨by rw [List.length_reverse]; exact hz, its.reverse, rv.rev, IsTupD.new _ _⟩)
  exact ⟨.ref h'.objs.size, _, I3, rfl, q.new _ (I2.hok.fresh (Nat.le_refl _))⟩
end L2

end
section
set_option Elab.async false
set_option linter.all false
set_option maxRecDepth 100000
namespace L2
open PySem
/-! ### the places of a set's table rise -/
def Rise (a : Array Nat) : Prop := ∀ (i k u v : Nat), i < k → a[i]? = some u → a[k]? = some v → u < v
theorem rise_iff (a : Array Nat) : Rise a ↔ a.toList.Pairwise (· < ·) := by
  constructor
  · intro h
    rw [List.pairwise_iff_getElem]
    intro i k hi hk hik
    exact h i k _ _ hik (by rw [← Array.getElem?_toList]; exact List.getElem?_eq_getElem hi) (by rw [← Array.getElem?_toList]; exact List.getElem?_eq_getElem hk)
  · intro h i k u v hik hu hv
    rw [← Array.getElem?_toList] at hu hv
    obtain ⟨hi, e1⟩ := List.getElem?_eq_some_iff.mp hu
    obtain ⟨hk, e2⟩ := List.getElem?_eq_some_iff.mp hv
    have := List.pairwise_iff_getElem.mp h i k hi hk hik
    rw [e1, e2] at this
    exact this
theorem go_spec (xs : Array Nat) (j : Nat) (hr : Rise xs) : ∀ (fuel lo hi : Nat), hi - lo ≤ fuel → lo ≤ hi → hi ≤ xs.size →
    (∀ (i v : Nat), i < lo → xs[i]? = some v → v < j) → (∀ (i v : Nat), hi ≤ i → xs[i]? = some v → j ≤ v) →
    (∀ (i v : Nat), i < SetTable.below.go xs j fuel lo hi → xs[i]? = some v → v < j) ∧ (∀ (i v : Nat), SetTable.below.go xs j fuel lo hi ≤ i → xs[i]? = some v → j ≤ v) ∧ SetTable.below.go xs j fuel lo hi ≤ xs.size
  | 0, lo, hi, hf, hlh, hhs, h1, h2 => by
    have e : lo = hi := by omega
    subst e
    exact ⟨h1, h2, hhs⟩
  | fuel + 1, lo, hi, hf, hlh, hhs, h1, h2 => by
    unfold SetTable.below.go
    by_cases hl : lo < hi
    · rw [if_pos hl]
      have hm1 : lo ≤ (lo + hi) / 2 := by omega
      have hm2 : (lo + hi) / 2 < hi := by omega
      obtain ⟨v, hv⟩ : ∃ v, xs[(lo + hi) / 2]? = some v := ⟨xs[(lo + hi) / 2]'(by omega), Array.getElem?_eq_getElem (by omega)⟩
      have hg : xs.getD ((lo + hi) / 2) j = v := by rw [Array.getD_eq_getD_getElem?, hv]; rfl
      show _ ∧ _
      dsimp only
      rw [hg]
      by_cases hvj : v < j
      · rw [if_pos hvj]
        refine go_spec xs j hr fuel _ hi (by omega) (by omega) hhs (fun i u hi' hu => ?_) h2
        by_cases e : i = (lo + hi) / 2
        · subst e
          rw [hv] at hu
          have := Option.some.inj hu
          omega
        · have := hr i _ _ _ (show i < (lo + hi) / 2 by omega) hu hv
          omega
      · rw [if_neg hvj]
        refine go_spec xs j hr fuel lo _ (by omega) (by omega) (by omega) h1 (fun i u hi' hu => ?_)
        by_cases e : i = (lo + hi) / 2
        · subst e
          rw [hv] at hu
          have := Option.some.inj hu
          omega
        · have := hr _ i _ _ (show (lo + hi) / 2 < i by omega) hv hu
          omega
    · rw [if_neg hl]
      have e : lo = hi := by omega
      subst e
      exact ⟨h1, h2, hhs⟩
theorem below_spec (xs : Array Nat) (j : Nat) (hr : Rise xs) : (∀ (i v : Nat), i < SetTable.below xs j → xs[i]? = some v → v < j) ∧ (∀ (i v : Nat), SetTable.below xs j ≤ i → xs[i]? = some v → j ≤ v) ∧ SetTable.below xs j ≤ xs.size :=
  go_spec xs j hr xs.size 0 xs.size (by omega) (Nat.zero_le _) (Nat.le_refl _) (fun i v h => absurd h (Nat.not_lt_zero _)) (fun i v h e => by
    have := (Array.getElem?_eq_some_iff.mp e).1
    omega)
theorem not_there {xs : Array Nat} {j : Nat} (hr : Rise xs) (h : xs[SetTable.below xs j]? ≠ some j) : ∀ (i : Nat), xs[i]? ≠ some j := fun i hi => by
  obtain ⟨b1, b2, b3⟩ := below_spec xs j hr
  by_cases hlt : i < SetTable.below xs j
  · have := b1 i j hlt hi
    omega
  · by_cases e : i = SetTable.below xs j
    · exact h (by rw [← e]; exact hi)
    · have hlt2 : SetTable.below xs j < i := by omega
      have hs := (Array.getElem?_eq_some_iff.mp hi).1
      obtain ⟨v, hv⟩ : ∃ v, xs[SetTable.below xs j]? = some v := ⟨xs[SetTable.below xs j]'(by omega), Array.getElem?_eq_getElem (by omega)⟩
      have h1 := b2 _ v (Nat.le_refl _) hv
      have h2 := hr _ _ _ _ hlt2 hv hi
      omega
theorem rise_insert {xs : Array Nat} {j : Nat} (hr : Rise xs) (h : ∀ (i : Nat), xs[i]? ≠ some j) : Rise (SetTable.insertAt xs (SetTable.below xs j) j) := by
  obtain ⟨b1, b2, b3⟩ := below_spec xs j hr
  rw [rise_iff, SetTable.toList_insertAt, List.pairwise_append, List.pairwise_cons]
  have hp := (rise_iff xs).mp hr
  have lo : ∀ a ∈ xs.toList.take (SetTable.below xs j), a < j := fun a ha => by
    obtain ⟨i, hi⟩ := List.mem_iff_getElem?.mp ha
    rw [List.getElem?_take] at hi
    by_cases q : i < SetTable.below xs j
    · rw [if_pos q, Array.getElem?_toList] at hi
      exact b1 i a q hi
    · rw [if_neg q] at hi
      cases hi
  have hi : ∀ b ∈ xs.toList.drop (SetTable.below xs j), j < b := fun b hb => by
    obtain ⟨i, hi⟩ := List.mem_iff_getElem?.mp hb
    rw [List.getElem?_drop, Array.getElem?_toList] at hi
    have h1 := b2 _ b (Nat.le_add_right _ _) hi
    have h2 : b ≠ j := fun e => h _ (by rw [← e]; exact hi)
    omega
  refine ⟨hp.sublist (List.take_sublist _ _), ⟨hi, hp.sublist (List.drop_sublist _ _)⟩, fun a ha b hb => ?_⟩
  rcases List.mem_cons.mp hb with e | e
  · rw [e]
    exact lo a ha
  · have h1 := lo a ha
    have h2 := hi b e
    omega
theorem rise_range (n : Nat) : Rise (Array.range n) := by
  rw [rise_iff, Array.toList_range]
  exact List.pairwise_lt_range
/-- a slot that bears no member -/
def Off (t : SetTable) (j : Nat) : Prop := t.place[SetTable.below t.place j]? ≠ some j
theorem off_of_slot {t : SetTable} {j : Nat} (h : ∀ i, t.slot j ≠ .live i) : Off t j := fun e => by
  refine h (SetTable.below t.place j) ?_
  unfold SetTable.slot
  dsimp only
  rw [e, if_pos (by simp)]
theorem probe_off (t : SetTable) (f : Nat → Int) (h : Int) : ∀ (fuel : Nat) (p : SetTable.Probe) (j : Nat) (d : Option Nat), (∀ e, p.dummy = some e → Off t e) → SetTable.probe.go t f h fuel p = some (.empty j d) → Off t (d.getD j)
  | 0, p, j, d, hd, e => by
    unfold SetTable.probe.go at e
    cases e
  | fuel + 1, p, j, d, hd, e => by
    have adv : ∀ q : SetTable.Probe, (t.advance q).dummy = q.dummy := fun q => by
      unfold SetTable.advance
      by_cases c : q.more > 0
      · rw [if_pos c]
      · rw [if_neg c]
    unfold SetTable.probe.go at e
    cases hs : t.slot p.j with
    | empty =>
      rw [hs] at e
      have e := SetTable.Met.empty.inj (Option.some.inj e)
      rw [← e.1, ← e.2]
      cases hp : p.dummy with
      | none => exact off_of_slot fun i z => by rw [show (Option.none : Option Nat).getD p.j = p.j from rfl, hs] at z; cases z
      | some x => exact hd x hp
    | dummy =>
      rw [hs] at e
      refine probe_off t f h fuel _ j d (fun x hx => ?_) e
      rw [adv] at hx
      have : p.j = x := Option.some.inj hx
      rw [← this]
      exact off_of_slot fun i z => by rw [hs] at z; cases z
    | live i =>
      rw [hs] at e
      have e : (if (f i == h) = true then some (SetTable.Met.candidate p.j i (t.advance p)) else SetTable.probe.go t f h fuel (t.advance p)) = some (.empty j d) := e
      by_cases c : (f i == h) = true
      · rw [if_pos c] at e
        cases e
      · rw [if_neg c] at e
        exact probe_off t f h fuel _ j d (fun x hx => hd x (by rw [← adv p]; exact hx)) e
theorem free_off {t : SetTable} {h : Int} {slot : Nat} {b : Bool} (e : t.freeSlot h = some (slot, b)) : Off t slot := by
  unfold SetTable.freeSlot at e
  cases hp : t.probe (fun _ => h + 1) h (t.probeStart h) with
  | none => rw [hp] at e; cases e
  | some m =>
    rw [hp] at e
    cases m with
    | empty j d =>
      have e := (Prod.mk.inj (Option.some.inj e)).1
      rw [← e]
      exact probe_off t _ h _ _ j d (fun x hx => by have q : (none : Option Nat) = some x := hx; cases q) hp
    | candidate j i n => cases e
/-- what stays of a table: whether it's led; its places rise -/
structure Kept (led : Bool) (t : SetTable) : Prop where
  led : t.led = led
  rise : Rise t.place
theorem kept_fresh (f m : Nat) (b : Bool) : Kept b (SetTable.fresh f m b) := ⟨rfl, fun i k u v _ hu _ => by
  have : (#[] : Array Nat)[i]? = some u := hu
  simp at this⟩
theorem kept_standIn {b : Bool} {t : SetTable} (h : Kept b t) (n : Nat) : Kept b (t.standIn n) := ⟨h.led, rise_range n⟩
theorem kept_orStandIn {b : Bool} {t : SetTable} (h : Kept b t) (n : Nat) : Kept b (t.orStandIn n) := by
  unfold SetTable.orStandIn
  split
  · exact h
  · exact kept_standIn h n
theorem kept_layNew {b : Bool} {t : SetTable} (h : Kept b t) (es : Array (Int × Value)) (hs : Int) (x : Value) : Kept b (layNew t es hs x).2.1 := by
  unfold layNew
  cases e : t.freeSlot hs with
  | none => exact kept_standIn h _
  | some q =>
    obtain ⟨slot, d⟩ := q
    refine kept_orStandIn (t := (t.put slot).1) ⟨h.led, ?_⟩ _
    exact rise_insert h.rise (not_there h.rise (free_off e))
theorem kept_relayAll {b : Bool} {t : SetTable} (h : Kept b t) (es : Array (Int × Value)) (n : Nat) : Kept b (relayAll t es n).2.1 := by
  unfold relayAll
  cases e : t.relaid (es.map (·.1)) n with
  | none => exact kept_standIn h _
  | some q =>
    obtain ⟨t', order⟩ := q
    dsimp only
    split
    · unfold SetTable.relaid SetTable.laid at e
      cases eo : SetTable.layClean (SetTable.sizeAbove n - 1) (es.map (·.1)) with
      | none => rw [eo] at e; cases e
      | some owner =>
        rw [eo] at e
        have e1 := (Prod.mk.inj (Option.some.inj e)).1
        rw [← e1]
        refine ⟨h.led, ?_⟩
        rw [rise_iff]
        show List.Pairwise _ (List.map (·.1) (List.filterMap (fun j => (owner.getD j none).map (j, ·)) (List.range (SetTable.sizeAbove n - 1 + 1))))
        refine List.Pairwise.sublist ?_ (List.pairwise_lt_range (n := SetTable.sizeAbove n - 1 + 1))
        generalize List.range (SetTable.sizeAbove n - 1 + 1) = l
        induction l with
        | nil => exact .slnil
        | cons a l ih =>
          rw [List.filterMap_cons]
          cases hg : owner.getD a none with
          | none => exact .cons _ ih
          | some v => exact .cons₂ _ ih
    · exact kept_standIn h _
theorem kept_off {b : Bool} {t : SetTable} (h : Kept b t) (p : Bool) : Kept b { t with plain := p } := ⟨h.led, h.rise⟩
/-- the slot from which the walk looks on -/
def slotAt (a : Array Nat) : Nat → Nat
  | 0 => 0
  | i + 1 => a.getD i 0 + 1
theorem below_slotAt {a : Array Nat} (hr : Rise a) {i : Nat} (hi : i ≤ a.size) : SetTable.below a (slotAt a i) = i := by
  obtain ⟨b1, b2, b3⟩ := below_spec a (slotAt a i) hr
  cases i with
  | zero =>
    refine Nat.eq_zero_of_not_pos fun hp => ?_
    obtain ⟨v, hv⟩ : ∃ v, a[0]? = some v := ⟨a[0]'(by omega), Array.getElem?_eq_getElem (by omega)⟩
    exact Nat.not_lt_zero _ (b1 0 v hp hv)
  | succ i =>
    obtain ⟨v, hv⟩ : ∃ v, a[i]? = some v := ⟨a[i]'(by omega), Array.getElem?_eq_getElem (by omega)⟩
    have es : slotAt a (i + 1) = v + 1 := by
      show a.getD i 0 + 1 = v + 1
      rw [Array.getD_eq_getD_getElem?, hv]
      rfl
    rw [es] at b1 b2 b3 ⊢
    have h1 : ¬ SetTable.below a (v + 1) ≤ i := fun q => by
      have := b2 i v q hv
      omega
    have h2 : ¬ i + 1 < SetTable.below a (v + 1) := fun q => by
      obtain ⟨u, hu⟩ : ∃ u, a[i + 1]? = some u := ⟨a[i + 1]'(by omega), Array.getElem?_eq_getElem (by omega)⟩
      have h3 := b1 (i + 1) u q hu
      have h4 := hr i (i + 1) v u (by omega) hv hu
      omega
    omega
end L2

end
section
set_option Elab.async false
set_option linter.all false
set_option maxRecDepth 100000
namespace L2
open PySem PySem.Spec PyProof.Rows
/-! ### a set of ints, by what it has -/
def intOf : Value → Int
  | .int i _ => i
  | _ => 0
def keysOf (es : Array (Int × Value)) : List Int := es.toList.map fun e => intOf e.2
abbrev setObj (es : Array (Int × Value)) (ep : Nat) (t : SetTable) : Obj := { cls := .type "set", dict := none, data := .set es ep t, slots := #[] }
structure MemI (prog : Program) (w : World) (led : Bool) (es : Array (Int × Value)) (t : SetTable) (S : List Int) : Prop where
  el : ElemsOf (PySem.intKind prog w) es.toList
  fit : t.fits es.size = true
  kp : Kept led t
  nd : (keysOf es).Nodup
  mem : ∀ k, k ∈ keysOf es ↔ k ∈ S
  few : es.size ≤ S.length
def SetI (prog : Program) (w : World) (led : Bool) (h : Heap) (a : Addr) (S : List Int) : Prop := ∃ es ep t, h.get? a = some (setObj es ep t) ∧ MemI prog w led es t S
variable {prog : Program} {w : World} {A : Around} {E : Value → Shared → Prop} {s : Shared}
theorem MemI.perm {led : Bool} {es es2 : Array (Int × Value)} {t t2 : SetTable} {S : List Int} (m : MemI prog w led es t S) (p : es2.toList.Perm es.toList) (hf : t2.fits es2.size = true) (hk : Kept led t2) : MemI prog w led es2 t2 S := by
  have pk : (keysOf es2).Perm (keysOf es) := p.map _
  refine ⟨m.el.perm p, hf, hk, pk.nodup_iff.mpr m.nd, fun k => pk.mem_iff.trans (m.mem k), ?_⟩
  have := p.length_eq
  rw [Array.length_toList, Array.length_toList] at this
  rw [this]
  exact m.few
theorem put_get {h : Heap} {a : Addr} {es es' : Array (Int × Value)} {ep : Nat} {t t' : SetTable} (ho : h.get? a = some (setObj es ep t)) : (h.update a (Obj.putSet es' t')).get? a = some (setObj es' (ep + 1) t') :=
  Heap.get?_update_self (Obj.putSet es' t') ho rfl
theorem addTailI {g : Bool → Sem Unit} (hg : ∀ (b : Bool) (s1 : Shared) (Q' : Unit → Shared → Prop), Q' () s1 → wpAny (model prog w) A (g b) Q' E s1)
    {a : Addr} {es es1 : Array (Int × Value)} {ep : Nat} {t t2 : SetTable} {led : Bool} {S : List Int} (ho : s.heap.get? a = some (setObj es ep t)) (m : MemI prog w led es1 t2 S) (hb : es1.size < scanBound)
    {was : Bool} {R : Option Bool → Shared → Prop} (h : ∀ h', Heap.SameBut a s.heap h' → SetI prog w led h' a S → R (some true) { s with heap := h' }) :
    wpAny (model prog w) A (do
      storeSet a es1 t2
      if (!was && t2.tooFull) = true then do
        g (relayAll t2 es1 (SetTable.grown es1.size)).2.2
        storeSet a (relayAll t2 es1 (SetTable.grown es1.size)).1 (relayAll t2 es1 (SetTable.grown es1.size)).2.1
        pure (some true)
      else pure (some true)) R E s := by
  refine wpAny_bind (wpAny_storeSet_of ho rfl ?_ (fits_of_scanBound hb))
  have ho1 : (s.heap.update a (Obj.putSet es1 t2)).get? a = some (setObj es1 (ep + 1) t2) := put_get ho
  have sb1 := Heap.SameBut.update s.heap a (Obj.putSet es1 t2)
  by_cases c : (!was && t2.tooFull) = true
  · rw [if_pos c]
    have p2 := relayAll_perm t2 es1 (SetTable.grown es1.size)
    have z2 : (relayAll t2 es1 (SetTable.grown es1.size)).1.size = es1.size := by
      have := p2.length_eq
      rw [Array.length_toList, Array.length_toList] at this
      exact this
    refine wpAny_bind (hg _ _ _ ?_)
    refine wpAny_bind (wpAny_storeSet_of ho1 rfl ?_ (fits_of_scanBound (by rw [z2]; exact hb)))
    exact wpAny_pure (h _ (sb1.trans (Heap.SameBut.update _ a _)) ⟨_, _, _, put_get ho1, m.perm p2 (relayAll_fits _ _ _) (kept_relayAll m.kp _ _)⟩)
  · rw [if_neg c]
    exact wpAny_pure (h _ sb1 ⟨_, _, _, ho1, m⟩)
theorem elem_int {es : List (Int × Value)} (h : ElemsOf (PySem.intKind prog w) es) {e : Int × Value} (he : e ∈ es) : ∃ k t, e.2 = .int k t := by
  obtain ⟨⟨k, hk, _⟩, _⟩ := h e he
  obtain ⟨t, ht⟩ := Value.isInt_shape hk
  exact ⟨k, t, ht⟩
theorem key_in {es : Array (Int × Value)} (h : ElemsOf (PySem.intKind prog w) es.toList) (x : Int) : x ∈ keysOf es ↔ ∃ e ∈ es.toList, (PySem.intKind prog w).is x e.2 = true := by
  unfold keysOf
  rw [List.mem_map]
  constructor
  · rintro ⟨e, he, q⟩
    obtain ⟨k, t, ek⟩ := elem_int h he
    refine ⟨e, he, ?_⟩
    rw [ek] at q ⊢
    have q : k = x := q
    rw [q]
    exact intKind_is _ _ _ _
  · rintro ⟨e, he, q⟩
    obtain ⟨t, et⟩ := Value.isInt_shape q
    exact ⟨e, he, by rw [et]; rfl⟩
theorem add_setI {a : Addr} {x : Int} {tk : Tok} {led : Bool} {S : List Int} {Q : Shared → Prop} (hS : SetI prog w led s.heap a S) (hroom : S.length + 1 < scanBound)
    (h : ∀ h', Heap.SameBut a s.heap h' → SetI prog w led h' a (S ++ [x]) → Q { s with heap := h' }) : wpAny (model prog w) A (setAddHashed a (.int x tk) (hashInt x)) (fun _ s' => Q s') E s := by
  obtain ⟨es, ep, t, ho, m⟩ := hS
  have hb : es.size < scanBound := by have := m.few; omega
  have hkey : (PySem.intKind prog w).is x (.int x tk) = true := intKind_is _ _ _ _
  unfold setAddHashed setAddHashedIn
  refine wpAny_holding (wpAny_bind (wpAny_setState_of ho rfl m.fit ?_))
  dsimp only
  rw [byScan_of (x := Value.int x tk) rfl hb m.el]
  rw [if_pos rfl]
  unfold setAddByScan
  refine wpAny_bind ?_
  refine wpAny_bind (wpAny_rule ?_)
  refine wpAny_bind (wpAny_setScan_of (knd := PySem.intKind prog w) (k := x) hkey ho rfl m.fit m.el ?_)
  cases hr : List.findIdx? (fun e => (PySem.intKind prog w).is x e.2) es.toList with
  | some j =>
    dsimp only
    obtain ⟨hj, hpj, _⟩ := List.findIdx?_eq_some_iff_getElem.mp hr
    have hx : x ∈ keysOf es := (key_in m.el x).mpr ⟨_, List.getElem_mem hj, hpj⟩
    refine wpAny_pure (wpAny_pure ?_)
    refine h s.heap (Heap.SameBut.refl a s.heap) ⟨es, ep, t, ho, m.el, m.fit, m.kp, m.nd, fun k => ?_, ?_⟩
    · rw [m.mem k, List.mem_append, List.mem_singleton]
      exact ⟨.inl, fun q => q.elim id fun e => by rw [e]; exact (m.mem x).mp hx⟩
    · rw [List.length_append]
      have := m.few
      omega
  | none =>
    dsimp only
    have hx : x ∉ keysOf es := fun q => by
      obtain ⟨e, he, hp⟩ := (key_in m.el x).mp q
      have := List.findIdx?_eq_none_iff.mp hr e he
      rw [hp] at this
      cases this
    have gw : ∀ (b : Bool) {s1 : Shared} {Q' : Unit → Shared → Prop}, Q' () s1 → wpAny (model prog w) A (match b with | true => rule "set.scan.the-table-gave-way" | false => pure ()) Q' E s1 :=
      fun b s1 Q' hq => by cases b <;> first | exact wpAny_pure hq | exact wpAny_rule hq
    have p1 := layNew_perm t es (hashInt x) (.int x tk)
    have f1 := layNew_fits t es (hashInt x) (.int x tk)
    have k1 := kept_layNew m.kp es (hashInt x) (.int x tk)
    show wpAny _ _ (match layNew t es (hashInt x) (.int x tk) with | (es, t, was, gave) => _) _ _ s
    generalize hL : layNew t es (hashInt x) (.int x tk) = L at p1 f1 k1 ⊢
    obtain ⟨es1, t1, was, gave⟩ := L
    dsimp only at p1 f1 k1 ⊢
    rw [Array.toList_push] at p1
    have pk : (keysOf es1).Perm (keysOf es ++ [x]) := by
      have := p1.map fun e => intOf e.2
      rw [List.map_append] at this
      exact this
    have z1 : es1.size = es.size + 1 := by
      have := p1.length_eq
      rw [Array.length_toList, List.length_append, Array.length_toList] at this
      exact this
    have m1 : ∀ t2 : SetTable, t2.fits es1.size = true → Kept led t2 → MemI prog w led es1 t2 (S ++ [x]) := fun t2 hf hk => by
      refine ⟨(m.el.push hkey rfl).perm p1, hf, hk, ?_, fun k => ?_, ?_⟩
      · rw [pk.nodup_iff, List.nodup_append]
        refine ⟨m.nd, List.nodup_cons.mpr ⟨(fun z => nomatch z), List.nodup_nil⟩, fun u hu v hv e => ?_⟩
        rw [List.mem_singleton] at hv
        rw [e, hv] at hu
        exact hx hu
      · rw [pk.mem_iff, List.mem_append, List.mem_append, m.mem k]
      · rw [z1, List.length_append]
        have := m.few
        show es.size + 1 ≤ S.length + 1
        omega
    have hb1 : es1.size < scanBound := by rw [z1]; have := m.few; omega
    refine wpAny_bind (gw _ ?_)
    by_cases hpl : t1.plain = true
    · rw [if_pos hpl]
      refine wpAny_bind ?_
      rw [hashByValue_scannable 8 (x := Value.int x tk) rfl]
      refine wpAny_pure ?_
      refine addTailI ?_ ho (m1 _ ?_ ?_) hb1 ?_
      · intro b s1 Q' hq; cases b <;> first | exact wpAny_pure hq | exact wpAny_rule hq
      · split
        · exact f1
        · exact SetTable.fits_plain_off f1
      · split
        · exact k1
        · exact kept_off k1 _
      · intro h' sb hS'; dsimp only; exact wpAny_pure (h h' sb hS')
    · rw [if_neg hpl]
      refine wpAny_bind (wpAny_pure ?_)
      refine addTailI ?_ ho (m1 _ ?_ ?_) hb1 ?_
      · intro b s1 Q' hq; cases b <;> first | exact wpAny_pure hq | exact wpAny_rule hq
      · split
        · exact f1
        · exact SetTable.fits_plain_off f1
      · split
        · exact k1
        · exact kept_off k1 _
      · intro h' sb hS'; dsimp only; exact wpAny_pure (h h' sb hS')
end L2

end
section
set_option Elab.async false
set_option linter.all false
set_option maxRecDepth 100000
namespace L2
open PySem PySem.Spec PyProof.Rows
section
variable {prog : Program} {w : World} {A : Around} {R : Result → Shared → Prop} {I : Addr} {fp wr : List Addr} {G : Array GenState → Array GenState → Prop} {n : Nat} {P : Nat → Value → Prop} {St : Nat → Shared → Prop}
theorem SetI.kept {led : Bool} {h h' : Heap} {a : Addr} {S : List Int} (x : SetI prog w led h a S) (k : ∀ o, h.get? a = some o → h'.get? a = some o) : SetI prog w led h' a S :=
  let ⟨es, ep, t, ho, m⟩ := x; ⟨es, ep, t, k _ ho, m⟩
theorem update_loopI (W : WalksS prog w A.in1 I fp wr G n P St) (S : Addr) (hSf : S ∉ fp) {led : Bool} (ns : List Int) (hval : ∀ i v, P i v → ∃ k t, ns[i]? = some k ∧ v = .int k t) (hb : n + 1 < scanBound) :
    ∀ (k i : Nat) (s : Shared), n - i = k → i ≤ n → St i s → SetI prog w led s.heap S (ns.take i) →
      (∀ s', Moved (S :: wr) G s s' → SetI prog w led s'.heap S (ns.take n) → R (.ok (.ret .none)) s') →
      codeAny (model prog w) A (.builtin "set.update.loop" ⟨[.ref S, .ref I], []⟩) R s := by
  have hSw : S ∉ wr := fun h => hSf (W.sub _ h)
  have hsub : ∀ b ∈ wr, b ∈ S :: wr := fun b hb => List.mem_cons_of_mem _ hb
  intro k
  induction k with
  | zero =>
    intro i s hk hi hst hS hR
    have hin : i = n := by omega
    subst hin
    refine codeAny_builtin PyProof.Rows.F.entry_set_update_loop ?_
    rw [Around.under_plainId PyProof.Rows.F.plain_set_update_loop _]
    show wpAny _ A.in1 (pyNext (.ref I) >>= _) _ _ s
    refine wpAny_bind (W.done s _ _ hst fun s' hm => ?_)
    show wpAny _ A.in1 (ret Value.none) _ _ s'
    exact wpAny_pure (hR s' (hm.mono hsub) (hS.kept fun o e => hm.heap S _ hSw e))
  | succ k ih =>
    intro i s hk hi hst hS hR
    have hlt : i < n := by omega
    refine codeAny_builtin PyProof.Rows.F.entry_set_update_loop ?_
    rw [Around.under_plainId PyProof.Rows.F.plain_set_update_loop _]
    show wpAny _ A.in1 (pyNext (.ref I) >>= _) _ _ s
    refine wpAny_bind (W.item i s _ _ hlt hst fun v s' hP hst' hm => ?_)
    obtain ⟨x, t, hx, rfl⟩ := hval i v hP
    have hS' : SetI prog w led s'.heap S (ns.take i) := hS.kept fun o e => hm.heap S _ hSw e
    show wpAny _ A.in1 (holding [Value.int x t] (setAdd S (.int x t)) >>= _) _ _ s'
    refine wpAny_bind (wpAny_holding ?_)
    unfold setAdd
    refine wpAny_holding ?_
    refine wpAny_bind ((PySem.intKind prog w).pyHash (k := x) (intKind_is _ _ _ _) ?_)
    have hroom : (ns.take i).length + 1 < scanBound := by rw [List.length_take]; omega
    refine add_setI (s := { s' with toks := s'.toks + 1 }) hS' hroom fun h' hsb hS2 => ?_
    have et : ns.take (i + 1) = ns.take i ++ [x] := by rw [List.take_succ, hx]; rfl
    rw [← et] at hS2
    refine wpAny_pure ⟨plainId_quiet PyProof.Rows.F.plain_set_update_loop _, ih (i + 1) _ (by omega) hlt (W.frame _ s' _ _ hst' (Nat.le_succ _) fun b hb o e => ?_) hS2 fun s'' hm'' hS'' => ?_⟩
    · rw [hsb.2 b (fun h : b = S => hSf (by rw [← h]; exact hb))]; exact e
    · refine hR s'' (Moved.trans W.gtrans ((hm.mono hsub).then_heap (Nat.le_succ _) fun b o hb e => ?_) hm'') hS''
      rw [hsb.2 b (fun h : b = S => hb (by rw [h]; exact List.mem_cons_self))]; exact e
end
namespace ST
theorem sub_tup_set : isSubtype (.type "tuple") (.type "set") = pure false := by rw [isSubtype_type]; kernel_rfl
theorem sub_tup_frz : isSubtype (.type "tuple") (.type "frozenset") = pure false := by rw [isSubtype_type]; kernel_rfl
end ST
section
variable {prog : Program} {w : World} {A : Around} {E : Value → Shared → Prop} {s : Shared}
def isLed (w : World) : Bool := !w.params.followText "set-order"
abbrev set0 (w : World) : Obj := setObj #[] 0 (.fresh 0 0 (isLed w))
theorem new_setI (a : Value) {Q1 : Value → Shared → Prop} (h : Q1 (.ref s.heap.objs.size) { s with heap := s.heap.push (set0 w) }) :
    codeAny (model prog w) A (.call (.builtin "set.__new__") ⟨[.type "set", a], []⟩) (wants Q1 E) s := by
  refine codeAny_of_tree ?_
  show wpAny _ A.in1 (do checkBuiltinCall "set.__new__" ⟨[.type "set", a], []⟩; again (.builtin "set.__new__" ⟨[.type "set", a], []⟩)) _ _ s
  refine wpAny_bind (wpAny_of_eq (PySem.F.newCall_set_1 a) (wpAny_pure ⟨plainId_quiet PySem.F.plain_set_new _, codeAny_builtin PySem.F.entry_set_new ?_⟩))
  rw [Around.under_plainId PySem.F.plain_set_new _]
  unfold Builtin.«set.__new__» Builtin.Frozenset.newClass
  have hsub := sub_set_self
  obtain ⟨hp, g, d, tk, os⟩ := s
  dsimp only
  wp_walk
  refine wpAny_askSetting (wpAny_pure ?_)
  dsimp only
  simp only [newObj]
  refine wpAny_bind (wpAny_alloc (wpAny_pure ?_))
  exact wpAny_pure h
set_option maxHeartbeats 3200000 in
theorem call_set_tup {l : Addr} {items : Array Value} {ns : List Int} {Q : Value → Shared → Prop} (hh : A.handled = none) (hl : s.heap.IsTuple l items) (hi : PyProof.Rows.IntsAre items.toList ns) (hb : items.size + 1 < scanBound)
    (h : ∀ (h' : Heap) (tk : Nat), SetI prog w (isLed w) h' s.heap.objs.size ns → (∀ b o, b < s.heap.objs.size → s.heap.get? b = some o → h'.get? b = some o) → Q (.ref s.heap.objs.size) { s with heap := h', toks := tk }) :
    wpAny (model prog w) A (call (.type "set") [.ref l]) Q E s := by
  obtain ⟨c, tl, hmro⟩ := PySem.F.called_set.mro
  have hmade := PySem.F.called_set.made
  have hsub := PySem.F.called_set.sub
  have hlen : items.size = ns.length := by
    have := hi.length
    rw [Array.length_toList] at this
    exact this
  refine wpAny_call (codeAny_of_tree ?_)
  show wpAny _ _ (callAny (.type "set") _) _ _ _
  refine wpAny_pure ⟨Code.quiet_builtin _ (by decide +kernel), codeAny_builtin PySem.F.entry_type_call ?_⟩
  rw [Around.under_plain (weight_type_call_type "set" [.ref l] []) rfl]
  have h1 := PySem.F.called_set.notType
  have h2 := PySem.F.called_set.canCreate
  have hct := PySem.F.typeCall_set_1 (.ref l)
  repeat (any_goals (first | assumption | wp_step))
  refine codeAny_mono (new_setI (.ref l) (E := E) (Q1 := fun obj s1 => obj = .ref s.heap.objs.size ∧ s1 = { s with heap := s.heap.push (set0 w) }) ⟨rfl, rfl⟩) fun r s1 hr => ?_
  cases r with
  | error e => exact hr
  | ok fl =>
    cases fl with
    | ret obj =>
      obtain ⟨rfl, rfl⟩ := hr
      have hS : (s.heap.push (set0 w)).get? s.heap.objs.size = some (set0 w) := Heap.get?_push_size _ rfl
      have hT : Shared.TypeIs { s with heap := s.heap.push (set0 w) } (.ref s.heap.objs.size) "set" := ⟨_, hS, rfl⟩
      have hli := PySem.F.called_set.init.lookup
      have hbi := PySem.F.called_set.init.bind (.ref s.heap.objs.size)
      repeat (any_goals (first | assumption | wp_step))
      refine codeAny_mono (codeAny_call_builtin (R := wants (fun r s2 => r = .none ∧ ∃ h' tk, s2 = { s with heap := h', toks := tk } ∧ SetI prog w (isLed w) h' s.heap.objs.size ns ∧
          (∀ b o, b < s.heap.objs.size → s.heap.get? b = some o → h'.get? b = some o)) E) PySem.F.called_set.init.plain PySem.F.entry_set_init (check_set_init_1 hT ?_)) fun r2 s2 hr2 => ?_
      · obtain ⟨ol, hol, hcl, nl, hdl⟩ := hl
        obtain ⟨ocls, odict, odata, oslots⟩ := ol
        simp only at hcl hdl
        subst hcl; subst hdl
        have hol' : (s.heap.push (set0 w)).get? l = some { cls := .type "tuple", dict := odict, data := .seq items nl, slots := oslots } := Heap.get?_push_of_some _ hol
        have hsls := ST.sub_tup_set
        have hslf := ST.sub_tup_frz
        have hne : (Value.type "tuple" == Value.type "dict") = false := by decide
        have hl1 : (s.heap.push (set0 w)).IsTuple l items := ⟨_, hol', rfl, nl, rfl⟩
        unfold Builtin.«set.__init__» noKeywords Builtin.Frozenset.updateFrom
        generalize hPI : pyIter = PI
        wp_walk
        subst hPI
        refine wpAny_pyIter_tuple hl1 ?_
        refine wpAny_bind (wpAny_runValue ?_)
        have hlS : l < s.heap.objs.size := Heap.lt_size hol
        have hh3 : A.in1.in1.in1.handled = none := by simp [hh]
        have hneI : l ≠ (s.heap.push (set0 w)).objs.size := by
          rw [Heap.size_push]; exact Nat.ne_of_lt (Nat.lt_succ_of_lt hlS)
        have hSf : s.heap.objs.size ∉ [(s.heap.push (set0 w)).objs.size, l] := by
          rw [Heap.size_push]; simp only [List.mem_cons, List.mem_singleton, List.not_mem_nil, or_false, not_or]
          exact ⟨Nat.ne_of_lt (Nat.lt_succ_self _), Nat.ne_of_gt hlS⟩
        have hval : ∀ (i : Nat) (v : Value), items[i]? = some v → ∃ k t, ns[i]? = some k ∧ v = .int k t := fun i v hv => by
          obtain ⟨t, e⟩ := PyProof.Rows.IntsAre.int_at hi i v (by rw [Array.getElem?_toList]; exact hv)
          have hlt : i < ns.length := by rw [← hlen]; exact (Array.getElem?_eq_some_iff.mp hv).1
          refine ⟨_, t, ?_, e⟩
          rw [List.getD_eq_getElem?_getD, List.getElem?_eq_getElem hlt]
          rfl
        refine update_loopI ((Walks.tuple hh3 _ l hneI items).toS) s.heap.objs.size hSf (led := isLed w) ns hval hb (items.size - 0) 0 _ (by omega) (Nat.zero_le _)
          ⟨⟨_, Heap.get?_push_size _ rfl, rfl, rfl⟩, ⟨_, Heap.get?_push_of_some _ hol', rfl, nl, rfl⟩⟩ ?hS0 ?hR
        case hS0 =>
          refine ⟨#[], 0, _, Heap.get?_push_of_some _ hS, ?_⟩
          exact ⟨fun e he => (by simp at he), rfl, kept_fresh _ _ _, List.nodup_nil, fun k => (by simp [keysOf]), Nat.zero_le _⟩
        case hR =>
          intro s' hm hS'
          rw [hlen, List.take_length] at hS'
          obtain ⟨h', g', d', tk', os'⟩ := s'
          have eg : g' = s.gens := hm.gens
          have ed : d' = s.drawn := hm.drawn
          have eo : os' = s.os := hm.os
          subst eg; subst ed; subst eo
          show wpAny _ _ _ _ _ _
          refine wpAny_pure ?_
          show wpAny _ _ (ret Value.none) _ _ _
          refine wpAny_pure ⟨rfl, h', tk', rfl, hS', fun b o hb e => ?_⟩
          have hb1 : b ≠ s.heap.objs.size := Nat.ne_of_lt hb
          have hb2 : b ≠ (s.heap.push (set0 w)).objs.size := by
            rw [Heap.size_push]; exact Nat.ne_of_lt (Nat.lt_succ_of_lt hb)
          exact hm.heap b o (by simp only [List.mem_cons, List.mem_singleton, List.not_mem_nil, or_false, not_or]; exact ⟨hb1, hb2⟩) (Heap.get?_push_of_some _ (Heap.get?_push_of_some _ e))
      · cases r2 with
        | error e => exact hr2
        | ok fl2 =>
          cases fl2 with
          | ret r =>
            obtain ⟨rfl, h', tk, rfl, hS', hk'⟩ := hr2
            repeat (any_goals (first | assumption | wp_step))
            exact h _ _ hS' hk'
          | _ => exact hr2.elim
    | _ => exact hr.elim
end
end L2

end
section
set_option Elab.async false
set_option linter.all false
set_option maxRecDepth 100000
namespace L2
open PySem PySem.Spec PyProof.Rows
/-! ### a walk over a set of ints -/
theorem eraseIdx_perm {α : Type} : ∀ (l : List α) (i : Nat) (x : α), l[i]? = some x → (x :: l.eraseIdx i).Perm l
  | [], i, x, h => by simp at h
  | a :: l, 0, x, h => by
    have e : a = x := Option.some.inj h
    subst e
    exact .refl _
  | a :: l, i + 1, x, h => (List.Perm.swap a x _).trans ((eraseIdx_perm l i x h).cons a)
theorem pick_go {α : Type} (next : Nat → Nat) : ∀ (fuel k : Nat) (left : List α) (out : Array α), left.length = fuel → (pickOrder.go next fuel k left out).toList.Perm (out.toList ++ left)
  | 0, k, left, out, h => by
    have e : left = [] := List.length_eq_zero_iff.mp h
    subst e
    rw [List.append_nil]
    exact .refl _
  | fuel + 1, k, left, out, h => by
    unfold pickOrder.go
    have hlt : next k % left.length < left.length := Nat.mod_lt _ (by omega)
    have hg : left[next k % left.length]? = some left[next k % left.length] := List.getElem?_eq_getElem hlt
    rw [hg]
    dsimp only
    have ih := pick_go next fuel (k + 1) (left.eraseIdx (next k % left.length)) (out.push left[next k % left.length]) (by rw [List.length_eraseIdx_of_lt hlt]; omega)
    refine ih.trans ?_
    rw [Array.toList_push, List.append_assoc]
    exact List.Perm.append_left _ (eraseIdx_perm left _ _ hg)
theorem pick_perm {α : Type} (next : Nat → Nat) (xs : Array α) : (pickOrder next xs).toList.Perm xs.toList := by
  have := pick_go next xs.size 0 xs.toList #[] (Array.length_toList)
  exact this
section
variable {prog : Program} {w : World} {A : Around} {E : Value → Shared → Prop} {s : Shared}
theorem wp_choose1 {src : Source} {n : Nat} {Q : Nat → Shared → Prop} (hn : n ≠ 0) (h : ∀ i d, i < n → Q i { s with drawn := d }) : wpAny (model prog w) A (choose src n) Q E s :=
  fun Γ p _ => ⟨hn, h _ _ (Nat.mod_lt _ (Nat.pos_of_ne_zero hn))⟩
theorem wp_drawOrder {α : Type} : ∀ (n : Nat) (xs : List α) (s : Shared) (Q : List α → Shared → Prop), xs.length = n → (∀ ys d, ys.Perm xs → Q ys { s with drawn := d }) → wpAny (model prog w) A (drawOrder n xs) Q E s
  | 0, xs, s, Q, hl, h => by
    have e : xs = [] := List.length_eq_zero_iff.mp hl
    subst e
    unfold drawOrder
    exact wpAny_pure (h [] s.drawn (.refl _))
  | n + 1, [], s, Q, hl, h => by cases hl
  | n + 1, x :: xs, s, Q, hl, h => by
    unfold drawOrder
    refine wpAny_bind (wp_choose1 (by rw [hl]; omega) fun i d hi => ?_)
    have hg : (x :: xs)[i]? = some (x :: xs)[i] := List.getElem?_eq_getElem hi
    rw [hg]
    dsimp only
    refine wpAny_bind (wp_drawOrder n _ _ _ (by rw [List.length_eraseIdx_of_lt hi, hl]; rfl) fun ys d' hp => wpAny_pure ?_)
    exact h _ d' ((hp.cons _).trans (eraseIdx_perm _ _ _ hg))
end
namespace SI
theorem slot_next : Slot "set_iterator" "__next__" "set_iterator.__next__" :=
  .of (owner := "set_iterator") (n := "__next__") (by rw [typeLookup_type, builtinLookup_eq_fast]; kernel_rfl)
    (by decide +kernel) (by decide +kernel) (by decide +kernel) (by first | exact .inl (by decide +kernel) | exact .inr (by decide +kernel)) (by rw [isSubtype_type]; kernel_rfl)
theorem entry_next : entryFor table "set_iterator.__next__" = some Builtin.«set_iterator.__next__» := entryFor_of_tree (by kernel_rfl)
theorem owner_si : Manifest.owners.lookup (String.ofList ['r', 'o', 't', 'a', 'r', 'e', 't', 'i', '_', 't', 'e', 's'].reverse) = some Manifest.sig_set_iterator := by kernel_rfl
theorem args_next (a : Value) : argsOk "set_iterator.__next__" ⟨[a], []⟩ := by
  unfold argsOk
  rw [signature?_of (id := "set_iterator.__next__") (n := ['_', '_', 't', 'x', 'e', 'n', '_', '_']) (o := ['r', 'o', 't', 'a', 'r', 'e', 't', 'i', '_', 't', 'e', 's']) (by kernel_rfl) owner_si]
  kernel_rfl
theorem slot_iter : Slot "set_iterator" "__iter__" "set_iterator.__iter__" :=
  .of (owner := "set_iterator") (n := "__iter__") (by rw [typeLookup_type, builtinLookup_eq_fast]; kernel_rfl)
    (by decide +kernel) (by decide +kernel) (by decide +kernel) (by first | exact .inl (by decide +kernel) | exact .inr (by decide +kernel)) (by rw [isSubtype_type]; kernel_rfl)
theorem args_iter (a : Value) : argsOk "set_iterator.__iter__" ⟨[a], []⟩ := by
  unfold argsOk
  rw [signature?_of (id := "set_iterator.__iter__") (n := ['_', '_', 'r', 'e', 't', 'i', '_', '_']) (o := ['r', 'o', 't', 'a', 'r', 'e', 't', 'i', '_', 't', 'e', 's']) (by kernel_rfl) owner_si]
  kernel_rfl
theorem entry_iter : entryFor table "set_iterator.__iter__" = some Builtin.«dict_keyiterator.__iter__» :=
  entryFor_alias (id' := "dict_keyiterator.__iter__") (by kernel_rfl) (by first | rfl | decide +kernel | (unfold String.splitOn; simp +decide [String.splitOnAux]))
    (by decide +kernel) (by kernel_rfl)
theorem entry_set_iter : entryFor table "set.__iter__" = some Builtin.«frozenset.__iter__» :=
  entryFor_alias (id' := "frozenset.__iter__") (by kernel_rfl) (by first | rfl | decide +kernel | (unfold String.splitOn; simp +decide [String.splitOnAux]))
    (by decide +kernel) (by kernel_rfl)
end SI
end L2

end
section
set_option Elab.async false
set_option linter.all false
set_option maxRecDepth 100000
namespace L2
open PySem PySem.Spec PyProof.Rows
section
variable {prog : Program} {w : World} {A : Around} {E : Value → Shared → Prop} {s : Shared}
theorem wp_setsByText {Q : Bool → Shared → Prop} (h : Q (w.params.followText "set-order") s) : wpAny (model prog w) A setsByText Q E s := by
  unfold setsByText
  exact wpAny_bind (wpAny_askSetting (wpAny_pure h))
def ordA (w : World) (a ep : Nat) (es : Array (Int × Value)) : Array (Int × Value) := if w.params.followText "set-order" = true then pickOrder (w.params.setOrder a ep) es else es
def slA (w : World) (t : SetTable) (i : Nat) : Nat := if w.params.followText "set-order" = true then 0 else slotAt t.place i
theorem ordA_perm (w : World) (a ep : Nat) (es : Array (Int × Value)) : (ordA w a ep es).toList.Perm es.toList := by
  unfold ordA
  split
  · exact pick_perm _ _
  · exact .refl _
theorem ordA_size (w : World) (a ep : Nat) (es : Array (Int × Value)) : (ordA w a ep es).size = es.size := by
  have := (ordA_perm w a ep es).length_eq
  rw [Array.length_toList, Array.length_toList] at this
  exact this
theorem wp_setNext {a : Addr} {es : Array (Int × Value)} {ep : Nat} {t : SetTable} {S : List Int} (ho : s.heap.get? a = some (setObj es ep t)) (m : MemI prog w (isLed w) es t S)
    (hp : w.params.followText "set-order" = true ∨ (!t.plain && decide (es.size > 1)) = false) {i : Nat} (hi : i ≤ es.size) {Q : Option (Value × Nat) → Shared → Prop}
    (h : Q ((ordA w a ep es)[i]?.map fun e => (e.2, slA w t (i + 1))) s) : wpAny (model prog w) A (setNext a (slA w t i) i ep) Q E s := by
  unfold setNext
  refine wpAny_bind (wpAny_setState_of ho rfl m.fit ?_)
  dsimp only
  refine wpAny_bind (wp_setsByText ?_)
  by_cases c : w.params.followText "set-order" = true
  · rw [if_pos c, if_neg (by simp)]
    unfold setWalk
    refine wpAny_bind (wpAny_bind (wpAny_setState_of ho rfl m.fit ?_))
    dsimp only
    refine wpAny_bind (wp_setsByText ?_)
    rw [if_pos c]
    refine wpAny_bind (wpAny_askSetting (wpAny_pure (wpAny_pure ?_)))
    unfold ordA slA at h
    rw [if_pos c] at h
    simp only [if_pos c] at h
    unfold slA
    rw [if_pos c]
    exact h
  · rw [if_neg c]
    have hd : (!t.plain && decide (es.size > 1)) = false := hp.resolve_left c
    have hl : t.led = true := by
      rw [m.kp.led]
      unfold isLed
      rw [Bool.not_eq_true] at c
      rw [c]
      rfl
    show wpAny _ _ (if (!t.plain && decide (es.size > 1)) = true then _ else _) _ _ s
    rw [hd, if_neg (by simp)]
    refine wpAny_bind ?_
    show wpAny _ _ (if (!t.led && !es.isEmpty) = true then _ else pure ()) _ _ s
    rw [hl, if_neg (by simp)]
    refine wpAny_pure (wpAny_pure ?_)
    have hf : t.place.size = es.size := by
      have := m.fit
      simp only [SetTable.fits, Bool.and_eq_true, beq_iff_eq] at this
      exact this.1
    unfold ordA slA at h
    rw [if_neg c] at h
    simp only [if_neg c] at h
    have eb : SetTable.below t.place (slA w t i) = i := by
      unfold slA
      rw [if_neg c]
      exact below_slotAt m.kp.rise (by omega)
    rw [eb]
    by_cases hlt : i < es.size
    · have h1 : es[i]? = some es[i] := Array.getElem?_eq_getElem hlt
      have h2 : t.place[i]? = some (t.place[i]'(by omega)) := Array.getElem?_eq_getElem (by omega)
      rw [h1] at h ⊢
      rw [h2]
      have e2 : slotAt t.place (i + 1) = t.place[i]'(by omega) + 1 := by
        show t.place.getD i 0 + 1 = _
        rw [Array.getD_eq_getD_getElem?, h2]
        rfl
      rw [e2] at h
      exact h
    · have h1 : es[i]? = none := Array.getElem?_eq_none (by omega)
      rw [h1] at h ⊢
      exact h
abbrev itObj (first : Value) (i : Nat) (a : Addr) (n ep : Nat) : Obj := { cls := .type "set_iterator", dict := none, data := .fields #[first, rawInt i, .ref a, rawInt n, rawInt ep], slots := #[] }
theorem nextA_item {I a : Addr} {es : Array (Int × Value)} {ep : Nat} {t : SetTable} {S : List Int} {i : Nat} {e : Int × Value} {Q : Option Value → Shared → Prop} (hne : a ≠ I) (hit : s.heap.get? I = some (itObj (rawInt (slA w t i)) i a es.size ep))
    (ho : s.heap.get? a = some (setObj es ep t)) (m : MemI prog w (isLed w) es t S) (hp : w.params.followText "set-order" = true ∨ (!t.plain && decide (es.size > 1)) = false) (he : (ordA w a ep es)[i]? = some e)
    (hQ : ∀ h', h'.get? I = some (itObj (rawInt (slA w t (i + 1))) (i + 1) a es.size ep) → Heap.SameBut I s.heap h' → Q (some e.2) { s with heap := h' }) : wpAny (model prog w) A (pyNext (.ref I)) Q E s := by
  have hT : s.TypeIs (.ref I) "set_iterator" := ⟨_, hit, rfl⟩
  have hlt : i < es.size := by rw [← ordA_size w a ep es]; exact (Array.getElem?_eq_some_iff.mp he).1
  unfold pyNext
  refine wpAny_bind (wpAny_attempt (wpAny_callSpecial?_slot (name := Str.ofString "__next__") hT SI.slot_next (wpAny_call_entry SI.slot_next hT SI.entry_next ?_ (SI.args_next _))))
  unfold Builtin.«set_iterator.__next__»
  refine wpAny_bind (wpAny_of_eq (a := (Value.ref I, [])) rfl ?_)
  dsimp only
  refine wpAny_bind (wpAny_fieldsOf hit rfl ?_)
  show wpAny _ _ (setEntries a >>= _) _ _ s
  refine wpAny_bind (wpAny_setEntries_of ho rfl m.fit ?_)
  rw [if_neg (by simp)]
  show wpAny _ _ (setNext a (((slA w t i : Nat) : Int)).toNat (((i : Nat) : Int)).toNat (((ep : Nat) : Int)).toNat >>= _) _ _ s
  rw [Int.toNat_natCast, Int.toNat_natCast, Int.toNat_natCast]
  refine wpAny_bind (wp_setNext ho m hp (by omega) ?_)
  rw [he]
  show wpAny _ _ (setField (.ref I) 0 (rawInt ((slA w t (i + 1) : Nat) : Int)) >>= _) _ _ s
  refine wpAny_bind (wpAny_setField_rec hit (by simp) fun g1 h1 s1 => ?_)
  refine wpAny_bind (wpAny_setField_rec (s := { s with heap := g1 }) h1 (by simp) fun g2 h2 s2 => ?_)
  refine wpAny_pure ⟨_, rfl, wpAny_pure (hQ g2 ?_ (s1.trans s2))⟩
  have e1 : ((i : Nat) : Int) + 1 = ((i + 1 : Nat) : Int) := by omega
  rw [h2, e1]
  rfl
theorem nextA_end {I a : Addr} {es : Array (Int × Value)} {ep : Nat} {t : SetTable} {S : List Int} {Q : Option Value → Shared → Prop} (hh : A.handled = none) (hit : s.heap.get? I = some (itObj (rawInt (slA w t es.size)) es.size a es.size ep))
    (ho : s.heap.get? a = some (setObj es ep t)) (m : MemI prog w (isLed w) es t S) (hp : w.params.followText "set-order" = true ∨ (!t.plain && decide (es.size > 1)) = false)
    (hQ : ∀ h', Heap.ExtBut I s.heap h' → Q none { s with heap := h' }) : wpAny (model prog w) A (pyNext (.ref I)) Q E s := by
  have hT : s.TypeIs (.ref I) "set_iterator" := ⟨_, hit, rfl⟩
  unfold pyNext
  refine wpAny_bind (wpAny_attempt (wpAny_callSpecial?_slot (name := Str.ofString "__next__") hT SI.slot_next (wpAny_call_entry SI.slot_next hT SI.entry_next ?_ (SI.args_next _))))
  unfold Builtin.«set_iterator.__next__»
  refine wpAny_bind (wpAny_of_eq (a := (Value.ref I, [])) rfl ?_)
  dsimp only
  refine wpAny_bind (wpAny_fieldsOf hit rfl ?_)
  show wpAny _ _ (setEntries a >>= _) _ _ s
  refine wpAny_bind (wpAny_setEntries_of ho rfl m.fit ?_)
  rw [if_neg (by simp)]
  show wpAny _ _ (setNext a (((slA w t es.size : Nat) : Int)).toNat (((es.size : Nat) : Int)).toNat (((ep : Nat) : Int)).toNat >>= _) _ _ s
  rw [Int.toNat_natCast, Int.toNat_natCast, Int.toNat_natCast]
  refine wpAny_bind (wp_setNext ho m hp (Nat.le_refl _) ?_)
  rw [Array.getElem?_eq_none (by rw [ordA_size]; exact Nat.le_refl _)]
  show wpAny _ _ (setField (.ref I) 2 .none >>= _) _ _ s
  refine wpAny_bind (wpAny_setField_rec hit (by simp) fun g2 he2 s2 => ?_)
  refine wpAny_bind ?_
  simp only [newExc, newTuple]
  refine wpAny_bind (wpAny_newObj_type ?_ (by size_fits))
  refine wpAny_bind (m := firstArgMember _ _) (wpAny_of_eq (a := Value.none) (by first | rfl | (simp only [firstArgMember]; rfl)) ?_)
  refine wpAny_newObj_type ?_ (by size_fits)
  simp only [raiseNew]
  refine wpAny_bind (wpAny_handled ?_)
  rw [show A.in1.handled = none from hh]
  refine wpAny_bind (wpAny_pure (wpAny_throw ?_))
  refine wpAny_bind (wpAny_isInstance (T := "StopIteration") (b := true) ⟨_, Heap.get?_push_size _ rfl, rfl⟩ isSubtype_stop ?_)
  exact wpAny_pure (hQ _ fun b o hb e => Heap.get?_push_of_some _ (Heap.get?_push_of_some _ (s2.extBut b o hb e)))
theorem nextB_item {I a T : Addr} {es : Array (Int × Value)} {ep : Nat} {t : SetTable} {S : List Int} {i : Nat} {ps : List Nat} {pl : Nat} {e : Int × Value} {Q : Option Value → Shared → Prop} (hit : s.heap.get? I = some (itObj (.ref T) i a es.size ep))
    (ho : s.heap.get? a = some (setObj es ep t)) (m : MemI prog w (isLed w) es t S) (hT' : IsTup s.heap T (ps.map fun (p : Nat) => rawInt p).toArray) (hpl : ps[i]? = some pl) (he : es[pl]? = some e)
    (hQ : ∀ h', h'.get? I = some (itObj (.ref T) (i + 1) a es.size ep) → Heap.SameBut I s.heap h' → Q (some e.2) { s with heap := h' }) : wpAny (model prog w) A (pyNext (.ref I)) Q E s := by
  have hT : s.TypeIs (.ref I) "set_iterator" := ⟨_, hit, rfl⟩
  unfold pyNext
  refine wpAny_bind (wpAny_attempt (wpAny_callSpecial?_slot (name := Str.ofString "__next__") hT SI.slot_next (wpAny_call_entry SI.slot_next hT SI.entry_next ?_ (SI.args_next _))))
  unfold Builtin.«set_iterator.__next__»
  refine wpAny_bind (wpAny_of_eq (a := (Value.ref I, [])) rfl ?_)
  dsimp only
  refine wpAny_bind (wpAny_fieldsOf hit rfl ?_)
  show wpAny _ _ (setEntries a >>= _) _ _ s
  refine wpAny_bind (wpAny_setEntries_of ho rfl m.fit ?_)
  rw [if_neg (by simp)]
  show wpAny _ _ (seqItems? (.ref T) >>= _) _ _ s
  obtain ⟨oT, hoT, hcT, nT, hdT⟩ := hT'
  refine wpAny_bind (wpAny_seqItems hoT hdT ?_)
  have hg : (ps.map fun (p : Nat) => rawInt p).toArray[(((i : Nat) : Int)).toNat]? = some (rawInt pl) := by
    rw [Int.toNat_natCast, List.getElem?_toArray, List.getElem?_map, hpl]
    rfl
  dsimp only
  rw [hg]
  show wpAny _ _ (setNextDrawn a (((pl : Nat) : Int)).toNat (((ep : Nat) : Int)).toNat >>= _) _ _ s
  rw [Int.toNat_natCast, Int.toNat_natCast]
  unfold setNextDrawn
  refine wpAny_bind (wpAny_bind (wpAny_setState_of ho rfl m.fit ?_))
  dsimp only
  rw [if_neg (by simp), he]
  refine wpAny_pure ?_
  refine wpAny_bind (wpAny_setField_rec hit (by simp) fun g2 h2 s2 => ?_)
  refine wpAny_pure ⟨_, rfl, wpAny_pure (hQ g2 ?_ s2)⟩
  have e1 : ((i : Nat) : Int) + 1 = ((i + 1 : Nat) : Int) := by omega
  rw [h2, e1]
  rfl
theorem nextB_end {I a T : Addr} {es : Array (Int × Value)} {ep : Nat} {t : SetTable} {S : List Int} {i : Nat} {ps : List Nat} {Q : Option Value → Shared → Prop} (hh : A.handled = none) (hit : s.heap.get? I = some (itObj (.ref T) i a es.size ep))
    (ho : s.heap.get? a = some (setObj es ep t)) (m : MemI prog w (isLed w) es t S) (hT' : IsTup s.heap T (ps.map fun (p : Nat) => rawInt p).toArray) (hi : ps.length ≤ i)
    (hQ : ∀ h', Heap.ExtBut I s.heap h' → Q none { s with heap := h' }) : wpAny (model prog w) A (pyNext (.ref I)) Q E s := by
  have hT : s.TypeIs (.ref I) "set_iterator" := ⟨_, hit, rfl⟩
  unfold pyNext
  refine wpAny_bind (wpAny_attempt (wpAny_callSpecial?_slot (name := Str.ofString "__next__") hT SI.slot_next (wpAny_call_entry SI.slot_next hT SI.entry_next ?_ (SI.args_next _))))
  unfold Builtin.«set_iterator.__next__»
  refine wpAny_bind (wpAny_of_eq (a := (Value.ref I, [])) rfl ?_)
  dsimp only
  refine wpAny_bind (wpAny_fieldsOf hit rfl ?_)
  show wpAny _ _ (setEntries a >>= _) _ _ s
  refine wpAny_bind (wpAny_setEntries_of ho rfl m.fit ?_)
  rw [if_neg (by simp)]
  show wpAny _ _ (seqItems? (.ref T) >>= _) _ _ s
  obtain ⟨oT, hoT, hcT, nT, hdT⟩ := hT'
  refine wpAny_bind (wpAny_seqItems hoT hdT ?_)
  have hg : (ps.map fun (p : Nat) => rawInt p).toArray[(((i : Nat) : Int)).toNat]? = none := by
    rw [Int.toNat_natCast, List.getElem?_toArray, List.getElem?_map, List.getElem?_eq_none hi]
    rfl
  dsimp only
  rw [hg]
  refine wpAny_bind (wpAny_setField_rec hit (by simp) fun g1 he1 s1 => ?_)
  refine wpAny_bind (wpAny_setField_rec (s := { s with heap := g1 }) he1 (by simp) fun g2 he2 s2 => ?_)
  refine wpAny_bind ?_
  simp only [newExc, newTuple]
  refine wpAny_bind (wpAny_newObj_type ?_ (by size_fits))
  refine wpAny_bind (m := firstArgMember _ _) (wpAny_of_eq (a := Value.none) (by first | rfl | (simp only [firstArgMember]; rfl)) ?_)
  refine wpAny_newObj_type ?_ (by size_fits)
  simp only [raiseNew]
  refine wpAny_bind (wpAny_handled ?_)
  rw [show A.in1.handled = none from hh]
  refine wpAny_bind (wpAny_pure (wpAny_throw ?_))
  refine wpAny_bind (wpAny_isInstance (T := "StopIteration") (b := true) ⟨_, Heap.get?_push_size _ rfl, rfl⟩ isSubtype_stop ?_)
  exact wpAny_pure (hQ _ fun b o hb e => Heap.get?_push_of_some _ (Heap.get?_push_of_some _ (s2.extBut b o hb (s1.extBut b o hb e))))
theorem iter_si {I a : Addr} {first : Value} {i n ep : Nat} {Q : Value → Shared → Prop} (hit : s.heap.get? I = some (itObj first i a n ep)) (h : Q (.ref I) s) : wpAny (model prog w) A (pyIter (.ref I)) Q E s := by
  have hT : s.TypeIs (.ref I) "set_iterator" := ⟨_, hit, rfl⟩
  refine wpAny_pyIter_slot hT SI.slot_iter (wpAny_call_entry SI.slot_iter hT SI.entry_iter ?_ (SI.args_iter _))
  show wpAny _ _ (ret (.ref I)) _ _ s
  exact wpAny_pure ⟨_, rfl, "set_iterator", _, hT, SI.slot_next.lookup, h⟩
/-- what the walk gives, in its order -/
abbrev Gives (xs : List (Int × Value)) : Nat → Value → Prop := fun i v => ∃ e, xs[i]? = some e ∧ v = e.2
theorem walksA (hh : A.handled = none) {I a : Addr} {es : Array (Int × Value)} {ep : Nat} {t : SetTable} {S : List Int} (hne : a ≠ I) (m : MemI prog w (isLed w) es t S) (hp : w.params.followText "set-order" = true ∨ (!t.plain && decide (es.size > 1)) = false) :
    Walks prog w A I [I, a] [I] es.size (Gives (ordA w a ep es).toList) (fun i h => h.get? I = some (itObj (rawInt (slA w t i)) i a es.size ep) ∧ h.get? a = some (setObj es ep t)) where
  sub := fun b hb => by simp at hb; simp [hb]
  frame := fun i h h' st hk => ⟨hk I (by simp) _ st.1, hk a (by simp) _ st.2⟩
  item := fun i s Q E hi st hQ => by
    obtain ⟨e, he⟩ : ∃ e, (ordA w a ep es)[i]? = some e := ⟨_, Array.getElem?_eq_getElem (by rw [ordA_size]; exact hi)⟩
    refine nextA_item hne st.1 st.2 m hp he fun h' h1 sb => ?_
    have := hQ e.2 h' s.toks ⟨e, by rw [Array.getElem?_toList]; exact he, rfl⟩ ⟨h1, sb.extBut _ _ hne st.2⟩ fun b o hb ee => sb.extBut b o (fun z => hb (by simp [z])) ee
    exact this
  done := fun s Q E st hQ => nextA_end hh st.1 st.2 m hp fun h' eb => hQ h' s.toks fun b o hb e => eb b o (fun z => hb (by simp [z])) e
  self := fun i s Q E st hQ => iter_si st.1 hQ
theorem walksB (hh : A.handled = none) {I a T : Addr} {es : Array (Int × Value)} {ep : Nat} {t : SetTable} {S : List Int} {ps : List Nat} {xs : List (Int × Value)} (hne : a ≠ I) (hneT : T ≠ I) (m : MemI prog w (isLed w) es t S)
    (hl : ps.length = es.size) (hx : ∀ (i : Nat) (e : Int × Value), xs[i]? = some e → ∃ p : Nat, ps[i]? = some p ∧ es[p]? = some e) (hxl : xs.length = es.size) :
    Walks prog w A I [I, a, T] [I] es.size (Gives xs) (fun i h => h.get? I = some (itObj (.ref T) i a es.size ep) ∧ h.get? a = some (setObj es ep t) ∧ IsTup h T (ps.map fun (p : Nat) => rawInt p).toArray) where
  sub := fun b hb => by simp at hb; simp [hb]
  frame := fun i h h' st hk => ⟨hk I (by simp) _ st.1, hk a (by simp) _ st.2.1, let ⟨o, ho, q⟩ := st.2.2; ⟨o, hk T (by simp) _ ho, q⟩⟩
  item := fun i s Q E hi st hQ => by
    obtain ⟨e, he⟩ : ∃ e, xs[i]? = some e := ⟨_, List.getElem?_eq_getElem (by rw [hxl]; exact hi)⟩
    obtain ⟨p, hp, hep⟩ := hx i e he
    refine nextB_item st.1 st.2.1 m st.2.2 hp hep fun h' h1 sb => ?_
    have := hQ e.2 h' s.toks ⟨e, he, rfl⟩ ⟨h1, sb.extBut _ _ hne st.2.1, let ⟨o, ho, q⟩ := st.2.2; ⟨o, sb.extBut _ _ hneT ho, q⟩⟩ fun b o hb ee => sb.extBut b o (fun z => hb (by simp [z])) ee
    exact this
  done := fun s Q E st hQ => nextB_end hh st.1 st.2.1 m st.2.2 (by omega) fun h' eb => hQ h' s.toks fun b o hb e => eb b o (fun z => hb (by simp [z])) e
  self := fun i s Q E st hQ => iter_si st.1 hQ
/-- iter(s) of a set of ints -/
theorem iter_setI {a : Addr} {es : Array (Int × Value)} {ep : Nat} {t : SetTable} {S : List Int} {Q : Value → Shared → Prop} (ho : s.heap.get? a = some (setObj es ep t)) (m : MemI prog w (isLed w) es t S) (hz : es.size ≤ sizeLine)
    (h : ∀ (h' : Heap) d (I : Addr) (fp : List Addr) (xs : List (Int × Value)) (St : Nat → Heap → Prop), xs.Perm es.toList → (∀ A' : Around, A'.handled = none → Walks prog w A' I fp [I] es.size (Gives xs) St) → St 0 h' →
      (∀ b o, s.heap.get? b = some o → h'.get? b = some o) → s.heap.objs.size ≤ I → (∀ b ∈ fp, b = a ∨ s.heap.objs.size ≤ b) → (∀ b ∈ fp, ∃ o, h'.get? b = some o) → Q (.ref I) { s with heap := h', drawn := d }) :
    wpAny (model prog w) A (pyIter (.ref a)) Q E s := by
  have hT : s.TypeIs (.ref a) "set" := ⟨_, ho, rfl⟩
  have la : a < s.heap.objs.size := Heap.lt_size ho
  refine wpAny_pyIter_slot hT PySem.F.slot_set_iter (wpAny_call_entry PySem.F.slot_set_iter hT SI.entry_set_iter ?_ (PySem.F.args_set_iter_1 _))
  unfold Builtin.«frozenset.__iter__»
  refine wpAny_bind (wpAny_of_eq (a := a) rfl ?_)
  refine wpAny_bind ?_
  unfold Builtin.Frozenset.sizeOf
  refine wpAny_bind (wpAny_setEntries_of ho rfl m.fit (wpAny_pure ?_))
  refine wpAny_bind ?_
  unfold setDrawn
  refine wpAny_bind (wpAny_setState_of ho rfl m.fit ?_)
  dsimp only
  refine wpAny_bind (wp_setsByText (wpAny_pure ?_))
  by_cases c : (!w.params.followText "set-order" && (!t.plain && decide (es.size > 1))) = true
  · show wpAny _ _ (if (!w.params.followText "set-order" && (!t.plain && decide (es.size > 1))) = true then _ else _) _ _ s
    rw [if_pos c]
    refine wpAny_bind (wp_drawOrder es.size (List.range es.size) _ _ List.length_range fun ps d hp => ?_)
    have hpl : ps.length = es.size := by rw [hp.length_eq, List.length_range]
    refine wpAny_bind (wpAny_newTuple ?_ (by rw [List.length_map, hpl]; exact hz))
    have ho1 : (s.heap.push { cls := .type "tuple", data := .seq (ps.map fun (p : Nat) => rawInt p).toArray }).get? a = some (setObj es ep t) := Heap.get?_push_of_some _ ho
    refine wpAny_bind (wpAny_setEpoch_of (s := { s with heap := s.heap.push { cls := .type "tuple", data := .seq (ps.map fun (p : Nat) => rawInt p).toArray }, drawn := d }) ho1 rfl m.fit ?_)
    refine wpAny_bind (wpAny_newObj_type (wpAny_pure ⟨_, rfl, "set_iterator", _, ⟨_, Heap.get?_push_size _ rfl, rfl⟩, SI.slot_next.lookup, ?_⟩))
    have e1 : (s.heap.push { cls := .type "tuple", data := .seq (ps.map fun (p : Nat) => rawInt p).toArray }).objs.size = s.heap.objs.size + 1 := Heap.size_push _ _
    generalize hg1 : s.heap.push { cls := .type "tuple", data := .seq (ps.map fun (p : Nat) => rawInt p).toArray } = g1 at e1 ho1
    have hT1 : g1.get? s.heap.objs.size = some { cls := .type "tuple", data := .seq (ps.map fun (p : Nat) => rawInt p).toArray } := by rw [← hg1]; exact Heap.get?_push_size _ rfl
    have kg : ∀ b o, s.heap.get? b = some o → g1.get? b = some o := fun b o e => by rw [← hg1]; exact Heap.get?_push_of_some _ e
    have hgd : ∀ p, p < es.size → es[p]? = some (es.getD p (0, .none)) := fun p hp' => by
      rw [Array.getD_eq_getD_getElem?, Array.getElem?_eq_getElem hp']
      rfl
    have hin : ∀ p ∈ ps, p < es.size := fun p hp' => List.mem_range.mp (hp.mem_iff.mp hp')
    have er : (List.range es.size).map (fun p => es.getD p (0, Value.none)) = es.toList := by
      refine List.ext_getElem? fun i => ?_
      rw [List.getElem?_map]
      by_cases hi : i < es.size
      · rw [List.getElem?_range hi, Array.getElem?_toList, hgd i hi]
        rfl
      · rw [List.getElem?_eq_none (by rw [List.length_range]; omega), List.getElem?_eq_none (by rw [Array.length_toList]; omega)]
        rfl
    refine h _ d _ [g1.objs.size, a, s.heap.objs.size] (ps.map fun p => es.getD p (0, .none)) _ (by rw [← er]; exact hp.map _) (fun A' hh => walksB (I := g1.objs.size) (ep := ep) (T := s.heap.objs.size) hh (Nat.ne_of_lt (by rw [e1]; exact Nat.lt_succ_of_lt la)) (Nat.ne_of_lt (by rw [e1]; exact Nat.lt_succ_self _)) m hpl ?_ (by rw [List.length_map, hpl])) ⟨Heap.get?_push_size _ rfl, Heap.get?_push_of_some _ ho1, ⟨_, Heap.get?_push_of_some _ hT1, rfl, _, rfl⟩⟩ ?_ ?_ ?_ ?_
    · intro i e he
      rw [List.getElem?_map] at he
      cases hq : ps[i]? with
      | none => rw [hq] at he; cases he
      | some p =>
        rw [hq] at he
        refine ⟨p, rfl, ?_⟩
        rw [hgd p (hin p (List.mem_of_getElem? hq))]
        exact he
    · exact fun b o e => Heap.get?_push_of_some _ (kg b o e)
    · rw [e1]; omega
    · intro b hb
      rcases List.mem_cons.mp hb with z | hb
      · right; rw [z, e1]; omega
      · rcases List.mem_cons.mp hb with z | hb
        · exact .inl z
        · right; rw [List.mem_singleton.mp hb]; exact Nat.le_refl _
    · intro b hb
      rcases List.mem_cons.mp hb with z | hb
      · rw [z]; exact ⟨_, Heap.get?_push_size _ rfl⟩
      · rcases List.mem_cons.mp hb with z | hb
        · rw [z]; exact ⟨_, Heap.get?_push_of_some _ ho1⟩
        · rw [List.mem_singleton.mp hb]; exact ⟨_, Heap.get?_push_of_some _ hT1⟩
  · show wpAny _ _ (if (!w.params.followText "set-order" && (!t.plain && decide (es.size > 1))) = true then _ else _) _ _ s
    rw [if_neg c]
    refine wpAny_bind (wpAny_pure ?_)
    refine wpAny_bind (wpAny_setEpoch_of ho rfl m.fit ?_)
    refine wpAny_bind (wpAny_newObj_type (wpAny_pure ⟨_, rfl, "set_iterator", _, ⟨_, Heap.get?_push_size _ rfl, rfl⟩, SI.slot_next.lookup, ?_⟩))
    have hp : w.params.followText "set-order" = true ∨ (!t.plain && decide (es.size > 1)) = false := by
      cases h1 : w.params.followText "set-order" with
      | true => exact .inl rfl
      | false =>
        rw [h1, Bool.not_false, Bool.true_and, Bool.not_eq_true] at c
        exact .inr c
    have sl0 : slA w t 0 = 0 := by
      unfold slA slotAt
      split <;> rfl
    refine h _ s.drawn _ [s.heap.objs.size, a] (ordA w a ep es).toList _ (ordA_perm w a ep es) (fun A' hh => walksA (ep := ep) hh (Nat.ne_of_lt la) m hp) ⟨?_, Heap.get?_push_of_some _ ho⟩ ?_ (Nat.le_refl _) ?_ ?_
    · rw [sl0]
      exact Heap.get?_push_size _ rfl
    · exact fun b o e => Heap.get?_push_of_some _ e
    · intro b hb
      rcases List.mem_cons.mp hb with z | hb
      · right; rw [z]; exact Nat.le_refl _
      · exact .inl (List.mem_singleton.mp hb)
    · intro b hb
      rcases List.mem_cons.mp hb with z | hb
      · rw [z]; exact ⟨_, Heap.get?_push_size _ rfl⟩
      · rw [List.mem_singleton.mp hb]; exact ⟨_, Heap.get?_push_of_some _ ho⟩
end
end L2

end
section
set_option Elab.async false
set_option linter.all false
set_option maxRecDepth 100000
namespace L2
open PySem PySem.Spec PyProof.Rows
section
variable {prog : Program} {w : World} {A : Around} {E : Value → Shared → Prop} {s : Shared}
theorem collect_setI {a : Addr} {es : Array (Int × Value)} {ep : Nat} {t : SetTable} {S : List Int} {Q : List Value → Shared → Prop} (hh : A.handled = none) (ho : s.heap.get? a = some (setObj es ep t)) (m : MemI prog w (isLed w) es t S) (hz : es.size ≤ sizeLine)
    (hQ : ∀ (h' : Heap) d (tk : Nat) (xs : List (Int × Value)), xs.Perm es.toList → (∀ b o, s.heap.get? b = some o → h'.get? b = some o) → Q (xs.map (·.2)) { s with heap := h', drawn := d, toks := tk }) : wpAny (model prog w) A (collect (.ref a)) Q E s := by
  have la : a < s.heap.objs.size := Heap.lt_size ho
  have hSa : s.heap.objs.size ≠ a := Nat.ne_of_gt la
  unfold collect
  refine wpAny_bind (wpAny_runValue (codeAny_builtin PySem.F.entry_proto_collect ?_))
  rw [Around.under_plainId PySem.F.plain_proto_collect _]
  show wpAny _ A.in1 (newList [] >>= fun l => again (.builtin "list.__iadd__" ⟨[l, .ref a], []⟩)) _ _ s
  refine wpAny_bind (wpAny_newObj_type ?_)
  refine wpAny_pure ⟨plainId_quiet PySem.F.plain_list_iadd _, codeAny_builtin PySem.F.entry_list_iadd ?_⟩
  rw [Around.under_plainId PySem.F.plain_list_iadd _]
  have eg : (s.heap.push { cls := .type "list", data := .seq ([] : List Value).toArray }).objs.size = s.heap.objs.size + 1 := Heap.size_push _ _
  generalize hg : s.heap.push { cls := .type "list", data := .seq ([] : List Value).toArray } = g at eg
  have kg : ∀ b o, s.heap.get? b = some o → g.get? b = some o := fun b o e => by rw [← hg]; exact Heap.get?_push_of_some _ e
  have hS1 : g.get? s.heap.objs.size = some { cls := .type "list", data := .seq #[] } := by rw [← hg]; exact Heap.get?_push_size _ rfl
  have ho1 : g.get? a = some (setObj es ep t) := kg _ _ ho
  have h1 : Builtin.List.listSameRef (.ref s.heap.objs.size) (.ref a) = false := by simp [Builtin.List.listSameRef, hSa]
  show wpAny _ A.in1 (Builtin.List.listExtendWith (.ref s.heap.objs.size) (.ref a) (.ref s.heap.objs.size)) _ _ _
  unfold Builtin.List.listExtendWith
  have hT1 : Shared.TypeIs { s with heap := g } (.ref a) "set" := ⟨_, ho1, rfl⟩
  refine wpAny_bind (wpAny_typeOf hT1 ?_)
  rw [if_neg (by rw [h1]; decide)]
  refine wpAny_bind (iter_setI (s := { s with heap := g }) ho1 m hz fun g2 d I fp xs St hp hW hst kg2 hI hfp hin => ?_)
  refine wpAny_bind (wpAny_holding ?_)
  have ho2 : g2.get? a = some (setObj es ep t) := kg2 _ _ ho1
  have hT2 : Shared.TypeIs { s with heap := g2, drawn := d } (.ref a) "set" := ⟨_, ho2, rfl⟩
  unfold Builtin.List.listLengthHint
  refine wpAny_bind (wpAny_specialOf hT2 PySem.F.slot_set_len.lookup ?_)
  (generalize hid : ("set.__len__" : String) = id0; (fail_if_success (clear hid id0)); wp_delta; rw [show splitId id0 = some ("set", "__len__") from by subst hid; decide +kernel]; subst hid)
  refine wpAny_bind (wpAny_isInstance (b := true) hT2 (by rw [isSubtype_type]; kernel_rfl) ?_)
  rw [if_neg (by decide)]
  dsimp only
  rw [if_pos (by decide +kernel)]
  refine wpAny_bind (wpAny_typeOf hT2 ?_)
  show wpAny _ _ (pure false) _ _ _
  refine wpAny_pure ?_
  rw [if_pos (by decide +kernel)]
  refine wpAny_bind (wpAny_rule (wpAny_bind ?_))
  unfold Builtin.List.listTouch
  show wpAny _ _ (updateSeq s.heap.objs.size (·.push .none) >>= fun _ => updateSeq s.heap.objs.size (·.pop)) _ _ _
  have hS1' : g2.get? s.heap.objs.size = some { cls := .type "list", data := .seq #[] } := kg2 _ _ hS1
  refine wpAny_bind (wpAny_updateSeq (s := { s with heap := g2, drawn := d }) hS1' rfl ?_ (by show 0 ≤ sizeLine; exact Nat.zero_le _) (by show 1 ≤ sizeLine + 1; exact Nat.le_add_left _ _))
  have hS2 := Heap.get?_update_self (Obj.mapSeq (·.push Value.none)) hS1' rfl
  refine wpAny_updateSeq (s := { s with heap := g2.update s.heap.objs.size (Obj.mapSeq (·.push Value.none)), drawn := d }) hS2 rfl ?_ (by show 1 ≤ sizeLine; decide) (by show 0 ≤ sizeLine + 1; exact Nat.zero_le _)
  have hS3 := Heap.get?_update_self (Obj.mapSeq (·.pop)) hS2 rfl
  generalize hg3 : (g2.update s.heap.objs.size (Obj.mapSeq (·.push Value.none))).update s.heap.objs.size (Obj.mapSeq (·.pop)) = g3 at hS3
  have hSf : s.heap.objs.size ∉ fp := fun hm => by
    rcases hfp _ hm with z | z
    · exact hSa z
    · have z : g.objs.size ≤ s.heap.objs.size := z
      rw [eg] at z
      exact Nat.not_succ_le_self _ z
  have k3 : ∀ b o, s.heap.objs.size ≠ b → g2.get? b = some o → g3.get? b = some o := fun b o ne e => by
    rw [← hg3]
    exact (Heap.get?_update_other _ _ ne).trans ((Heap.get?_update_other _ _ ne).trans e)
  have W := (hW A.in1 hh).toS
  have st3 : St 0 g3 := (hW A.in1 hh).frame 0 g2 g3 hst fun b hb o e => k3 b o (fun z => hSf (by rw [z]; exact hb)) e
  refine wpAny_pure ⟨plainId_quiet PySem.F.plain_extend_loop _, codeAny_extend_loopS W hz _ hSf _ es.size 0 _ _ _ rfl (Nat.zero_le _) st3 hS3 (ItemsOf.nil _) fun s' acc' c' hm hS' hacc => ?_⟩
  show wpAny _ A (load s.heap.objs.size >>= _) _ _ s'
  refine wpAny_bind (wpAny_load hS' (wpAny_pure ?_))
  have hxl : xs.length = es.size := by rw [hp.length_eq, Array.length_toList]
  have ea : acc'.toList = xs.map (·.2) := by
    refine List.ext_getElem? fun j => ?_
    by_cases hj : j < es.size
    · have hj' : j < acc'.size := by rw [hacc.1]; exact hj
      obtain ⟨e, q1, q2⟩ := hacc.2 j acc'[j] (Array.getElem?_eq_getElem hj')
      rw [Array.getElem?_toList, Array.getElem?_eq_getElem hj', List.getElem?_map, q1, q2]
      rfl
    · rw [List.getElem?_eq_none (by rw [Array.length_toList, hacc.1]; omega), List.getElem?_eq_none (by rw [List.length_map]; omega)]
  show Q acc'.toList s'
  rw [ea]
  obtain ⟨m1, m2, m3, m4, m5⟩ := hm
  have es' : s' = { s with heap := s'.heap, drawn := d, toks := s'.toks } := by
    obtain ⟨a1, a2, a3, a4, a5⟩ := s'
    simp only at m2 m3 m4
    subst m2 m3 m4
    rfl
  rw [es']
  refine hQ s'.heap d s'.toks xs hp (fun b o e => m1 b o (fun hm => ?_) (k3 b o (fun z => ?_) (kg2 _ _ (kg b o e))))
  · rcases List.mem_cons.mp hm with z | z
    · rw [z] at e; exact Nat.lt_irrefl _ (Heap.lt_size e)
    · rw [List.mem_singleton.mp z] at e
      have hI : g.objs.size ≤ I := hI
      have := Heap.lt_size e
      rw [eg] at hI
      exact Nat.lt_irrefl _ (Nat.lt_of_lt_of_le this (Nat.le_trans (Nat.le_succ _) hI))
  · rw [← z] at e; exact Nat.lt_irrefl _ (Heap.lt_size e)
end
end L2

end
section
set_option Elab.async false
set_option linter.all false
set_option maxRecDepth 100000
namespace L2
open PySem PySem.Spec PyProof.Rows
section
variable {prog : Program} {w : World} {A : Around} {E : Value → Shared → Prop} {s : Shared}
theorem ints_elems : ∀ (xs : List (Int × Value)), (∀ e ∈ xs, ∃ k t, e.2 = Value.int k t) → IntsAre (xs.map (·.2)) (xs.map fun e => intOf e.2)
  | [], _ => .nil
  | e :: xs, h => by
    obtain ⟨k, t, ek⟩ := h e (List.mem_cons.mpr (.inl rfl))
    rw [List.map_cons, List.map_cons, ek]
    exact .cons k t (ints_elems xs fun e' he' => h e' (List.mem_cons.mpr (.inr he')))
theorem sorted_setI {a : Addr} {S : List Int} {Q : Value → Shared → Prop} (hh : A.handled = none) (hS : SetI prog w (isLed w) s.heap a S) (h64 : S.length < 64)
    (h : ∀ (h1 h' : Heap) d (tk : Nat) (p : Addr) (ns' : List Int) (out : List Value) (n : Nat), IntsAre out ns' → ns'.Nodup → (∀ k, k ∈ ns' ↔ k ∈ S) → ns'.Pairwise (· ≤ ·) → ns'.length ≤ S.length → (∀ b o, s.heap.get? b = some o → h1.get? b = some o) → h1.objs.size ≤ p → (∀ b o, h1.get? b = some o → h'.get? b = some o) →
      h'.get? p = some { cls := .type "list", data := .seq out.toArray n } → Q (.ref p) { s with heap := h', drawn := d, toks := tk }) :
    wpAny (model prog w) A (call (.builtin "sorted") [.ref a]) Q E s := by
  obtain ⟨es, ep, t, ho, m⟩ := hS
  have hfew := m.few
  refine Calls.call_function_entry kind_sorted plain_sorted entry_sorted (args_sorted1 _) ?_
  unfold Builtin.«sorted»
  refine wpAny_bind (m := checkCount "sorted" 1 1 _) (wpAny_pure ?_)
  refine wpAny_bind (collect_setI hh ho m (small64 (by omega)) fun h1 d tk xs hp k1 => ?_)
  have hxl : xs.length = es.size := by rw [hp.length_eq, Array.length_toList]
  refine wpAny_bind (wpAny_newList ?_ (by rw [List.length_map, hxl]; exact small64 (by omega)))
  have hI := ints_elems xs fun e he => elem_int m.el (hp.mem_iff.mp he)
  have hoL : (h1.push (seqObj "list" (xs.map (·.2)).toArray 0)).get? h1.objs.size = some (seqObj "list" (xs.map (·.2)).toArray 0) := Heap.get?_push_size _ rfl
  refine wpAny_bind (wpAny_holding (wpAny_call_entry slot_list_sort ⟨_, hoL, rfl⟩ entry_list_sort (list_sort_tree hoL hI (by rw [List.length_map, hxl]; omega) fun out ns' a1 a2 a3 => ⟨_, rfl, ?_⟩) (args_list_sort _)))
  obtain ⟨n, hat⟩ := sortedHeap_at (out := out) hoL
  have pk : ns'.Perm (keysOf es) := a2.trans (hp.map _)
  refine wpAny_pure ⟨_, rfl, h h1 _ d tk _ ns' out.toList n a1 (pk.nodup_iff.mpr m.nd) (fun k => pk.mem_iff.trans (m.mem k)) a3 ?_ k1 (Nat.le_refl _) (fun b o e => ?_) hat⟩
  · rw [pk.length_eq]
    unfold keysOf
    rw [List.length_map, Array.length_toList]
    exact hfew
  · have lb := Heap.lt_size e
    rw [sortedHeap_old (Nat.ne_of_lt lb) (by rw [size_push']; exact Nat.lt_succ_of_lt lb)]
    exact Heap.get?_push_of_some _ e
end
/-- drawn numbers are no part of what is kept -/
theorem Inv.drawn {X : Cx} {pins : List (Addr × Obj)} {σ : List (Option V)} {H : Hp} {s : Shared} (I : Inv X pins σ H s) (d : Drawn) : Inv X pins σ H { s with drawn := d } :=
  ⟨I.ok, I.os, I.bare, I.base, I.loc, I.cell, I.free, I.freeC, I.pin, I.hok, I.len⟩
/-- sorted(set(t)) of a tuple of ints -/
def tSortSet (te : TE) : TE := fun σ H Q => te σ H fun x H1 => ∃ (a : Addr) (ns : List Int), x = .ref a ∧ H1 a = some (.tup (ns.map V.int)) ∧ ns.length < 64 ∧
  ∀ (p : Addr) (ns' : List Int), H1 p = none → ns'.Nodup → (∀ k, k ∈ ns' ↔ k ∈ ns) → ns'.Pairwise (· ≤ ·) → ns'.length ≤ ns.length → Q (.ref p) (upd H1 p (.lst (ns'.map V.int)))
theorem pe_sortSet {X : Cx} {e : Expr} {te : TE} {p p2 pos pos2 : Pos} (hc : X.calm = true) (hg : Gl X "sorted") (hm : X.mg "sorted" = none) (hg2 : Gl X "set") (hm2 : X.mg "set" = none) (he : PE X e te)
    (hs : starEach [e] X.env = [(false, eval e X.env)] := by rfl) (hs2 : starEach [Expr.Call (.Name "set" p2) [e] [] pos2] X.env = [(false, eval (.Call (.Name "set" p2) [e] [] pos2) X.env)] := by rfl) :
    PE X (.Call (.Name "sorted" p) [.Call (.Name "set" p2) [e] [] pos2] [] pos) (tSortSet te) := by
  intro pins s σ H Q I h
  refine wpAny_Call_Name_kw (ld_blt I hg hm PyProof.Rows.boot_sorted ?_)
  refine PyProof.Rows.callWith_builtin1 ?_ hs2 rfl
  rw [hs2]
  show wpAny _ _ (spliced ((false, eval (.Call (.Name "set" p2) [e] [] pos2) X.env) :: [])) _ _ s
  refine Calls.spliced_cons ?_
  refine wpAny_Call_Name_kw (ld_blt I hg2 hm2 PyProof.Rows.boot_set ?_)
  refine PyProof.Rows.callWith_type1 ?_ hs rfl
  rw [hs]
  show wpAny _ _ (spliced ((false, eval e X.env) :: [])) _ _ s
  refine Calls.spliced_cons (thn (he pins s σ H _ I h) fun u s1 ⟨x, H1, I1, r1, a, ns, ex, ha, h64, q⟩ => Calls.spliced_nil ?_)
  subst ex
  obtain rfl : u = Value.ref a := r1
  obtain ⟨its, rv, pt, hz⟩ := I1.tuple (SqT.of ha)
  have hi := rv.ints
  have hl : its.length = ns.length := hi.length
  refine call_set_tup (items := its.toArray) (ns := ns) (I1.ok.hd hc) pt hi (by rw [List.size_toArray]; unfold scanBound; omega) fun h1 tk hS hk => Calls.spliced_nil ?_
  refine sorted_setI (s := { s1 with heap := h1, toks := tk }) (I1.ok.hd hc) hS h64 fun h2 h' d tk' p ns' out n hO hnd hmem hsort hlen k2 hp k3 hat => ?_
  have I2 : Inv X pins σ H1 { s1 with heap := h2, drawn := d, toks := tk' } := (I1.kept (h' := h2) (t' := tk') fun b o e => k2 b o (hk b o (Heap.lt_size e) e)).drawn d
  have I3 := I2.laid (a := p) (o := .lst (ns'.map V.int)) (t' := tk') k3 hp ⟨by rw [List.length_map]; exact small64 (by omega), out, n, vals_of_ints hO, hat⟩
  exact ⟨.ref p, _, I3, rfl, q p ns' (I2.hok.fresh hp) hnd hmem hsort hlen⟩
end L2

end
section
set_option Elab.async false
set_option linter.all false
set_option maxRecDepth 100000
namespace L2
open PySem PySem.Spec PyProof.Rows
section
variable {X : Cx}
/-- t.count(y), ints -/
def rCountT : V → List V → Hp → VK → Prop := fun x xs H Q => ∃ (a : Addr) (ns : List Int) (y : Int), x = V.ref a ∧ xs = [.int y] ∧ H a = some (.tup (ns.map V.int)) ∧ Q (.int ((ns.filter fun n => n == y).length : Nat)) H
theorem flat_ints (ns : List Int) : (ns.map V.int).all flatV = true := by
  rw [List.all_map, List.all_eq_true]
  exact fun _ _ => rfl
theorem count_eq {y : Int} : ∀ {ns : List Int} {us : List Value}, Vals (ns.map V.int) us → us.countP (eqU (.int y)) = (ns.filter fun n => n == y).length
  | [], _, .nil => rfl
  | n :: ns, _, .cons r t => by
    have e1 : eqU (.int y) _ = eqV (.int n) (.int y) := eqU_of r rfl
    have e2 : eqV (.int n) (.int y) = (n == y) := rfl
    rw [List.countP_cons, e1, e2, count_eq t, List.filter_cons]
    cases n == y <;> rfl
theorem mt_countT : MtR X "tuple.count" rCountT := by
  intro pins s σ H x xs v us Q I rx rxs h
  obtain ⟨a, ns, y, rfl, rfl, ha, q⟩ := h
  cases rx
  cases rxs with
  | cons ry rt =>
    rename_i uy ut
    cases rt
    obtain ⟨its, rv, ⟨⟨cls, dd, data, sl⟩, ho, hc, n, hd⟩, hlen⟩ := I.tuple (SqT.of ha)
    simp only at hc hd
    subst hc hd
    refine call_meets PySem.F.slot_tuple_count ⟨_, ho, rfl⟩ PySem.F.entry_tuple_count (PySem.F.args_tuple_count_2 _ _)
      (SeqAt.tuple_countAt a its.toArray n dd sl uy (eqU (.int y))) ⟨ho, fun u' hu' => mem_eqAt ry rfl rv (flat_ints ns) u' (by simpa using hu'), ?_⟩
    have e : its.toArray.toList.countP (eqU (.int y)) = (ns.filter fun n => n == y).length := count_eq rv
    rw [e]
    exact ⟨.int ((ns.filter fun n => n == y).length : Nat), H, I.tok _, ⟨_, rfl⟩, q⟩
end
end L2

end
section
set_option Elab.async false
set_option linter.all false
namespace Wrp
open L2
/-! ### the order of plans -/
theorem ltII_iff (p q : II) : ltII p q = true ↔ p.1 < q.1 ∨ (p.1 = q.1 ∧ p.2 < q.2) := by
  unfold ltII
  rw [HT.lexLt_cons]
  by_cases h1 : p.1 = q.1
  · rw [if_pos h1, HT.lexLt_cons]
    by_cases h2 : p.2 = q.2
    · rw [if_pos h2, HT.lexLt_nil_nil]
      constructor
      · intro h; cases h
      · intro h; omega
    · rw [if_neg h2, decide_eq_true_iff]
      omega
  · rw [if_neg h1, decide_eq_true_iff]
    omega
theorem lexP_self : ∀ a : List II, lexP a a = false
  | [] => rfl
  | p :: a => by rw [lexP_cons, if_pos rfl, lexP_self a]
theorem lexP_tri : ∀ a b : List II, lexP a b = true ∨ lexP b a = true ∨ a = b
  | [], [] => .inr (.inr rfl)
  | [], _ :: _ => .inl rfl
  | _ :: _, [] => .inr (.inl rfl)
  | p :: a, q :: b => by
    by_cases e : p = q
    · subst e
      rw [lexP_cons, lexP_cons, if_pos rfl, if_pos rfl]
      rcases lexP_tri a b with h | h | h
      · exact .inl h
      · exact .inr (.inl h)
      · exact .inr (.inr (by rw [h]))
    · rw [lexP_cons, lexP_cons, if_neg e, if_neg (fun z => e z.symm), ltII_iff, ltII_iff]
      have : ¬ (p.1 = q.1 ∧ p.2 = q.2) := fun h => e (Prod.ext h.1 h.2)
      rcases Int.lt_trichotomy p.1 q.1 with h | h | h
      · exact .inl (.inl h)
      · rcases Int.lt_trichotomy p.2 q.2 with g | g | g
        · exact .inl (.inr ⟨h, g⟩)
        · exact absurd ⟨h, g⟩ this
        · exact .inr (.inl (.inr ⟨h.symm, g⟩))
      · exact .inr (.inl (.inl h))
theorem lexP_trans : ∀ {a b c : List II}, lexP a b = true → lexP b c = true → lexP a c = true
  | [], [], _, h, _ => by cases h
  | [], _ :: _, [], _, h => by cases h
  | [], _ :: _, _ :: _, _, _ => rfl
  | _ :: _, [], _, h, _ => by cases h
  | _ :: _, _ :: _, [], _, h => by cases h
  | p :: a, q :: b, r :: c, h1, h2 => by
    rw [lexP_cons] at h1 h2 ⊢
    by_cases e1 : p = q
    · subst e1
      rw [if_pos rfl] at h1
      by_cases e2 : p = r
      · rw [if_pos e2] at h2 ⊢
        exact lexP_trans h1 h2
      · rw [if_neg e2] at h2 ⊢
        exact h2
    · rw [if_neg e1, ltII_iff] at h1
      by_cases e2 : q = r
      · subst e2
        rw [if_neg e1, ltII_iff]
        exact h1
      · rw [if_neg e2, ltII_iff] at h2
        have e3 : p ≠ r := fun z => by subst z; omega
        rw [if_neg e3, ltII_iff]
        omega
theorem lexP_asymm {a b : List II} (h : lexP a b = true) : lexP b a = false := by
  cases e : lexP b a with
  | false => rfl
  | true =>
    have := lexP_trans h e
    rw [lexP_self] at this
    cases this
theorem lexP_snoc : ∀ {a b : List II} (p : II), a.length = b.length → lexP (a ++ [p]) (b ++ [p]) = lexP a b
  | [], [], p, _ => by
    show lexP [p] [p] = false
    exact lexP_self _
  | [], _ :: _, _, h => by simp at h
  | _ :: _, [], _, h => by simp at h
  | q :: a, r :: b, p, h => by
    show lexP (q :: (a ++ [p])) (r :: (b ++ [p])) = lexP (q :: a) (r :: b)
    rw [lexP_cons, lexP_cons, lexP_snoc p (by simpa using h)]

abbrev Sec := Sw88.Section
def pr (s : Sec) : II := ((s.long : Nat), (Sw88.bit s.turned : Nat))
theorem pr_inj {s t : Sec} (h : pr s = pr t) : s = t := by
  obtain ⟨a, b⟩ := s
  obtain ⟨c, d⟩ := t
  have h1 : ((a : Nat) : Int) = c := congrArg Prod.fst h
  have h2 : ((Sw88.bit b : Nat) : Int) = Sw88.bit d := congrArg Prod.snd h
  have e1 : a = c := by omega
  have e2 : b = d := by
    cases b <;> cases d <;> simp [Sw88.bit] at h2 <;> rfl
  subst e1 e2
  rfl
def prs (p : List Sec) : List II := p.map pr
theorem prs_inj : ∀ {p q : List Sec}, prs p = prs q → p = q
  | [], [], _ => rfl
  | [], _ :: _, h => nomatch h
  | _ :: _, [], h => nomatch h
  | a :: p, b :: q, h => by
    have h1 := List.cons.inj (show pr a :: prs p = pr b :: prs q from h)
    rw [pr_inj h1.1, prs_inj h1.2]
/-- min(p, q) -/
def minP (p q : List Sec) : List Sec := if lexP (prs q) (prs p) = true then q else p
theorem minP_comm (p q : List Sec) : minP p q = minP q p := by
  unfold minP
  rcases lexP_tri (prs p) (prs q) with h | h | h
  · rw [if_neg (by rw [lexP_asymm h]; decide), if_pos h]
  · rw [if_pos h, if_neg (by rw [lexP_asymm h]; decide)]
  · rw [prs_inj h]
theorem minP_assoc (p q r : List Sec) : minP (minP p q) r = minP p (minP q r) := by
  unfold minP
  by_cases h1 : lexP (prs q) (prs p) = true
  · rw [if_pos h1]
    by_cases h2 : lexP (prs r) (prs q) = true
    · rw [if_pos h2, if_pos (lexP_trans h2 h1)]
    · rw [if_neg h2, if_pos h1]
  · rw [if_neg h1]
    by_cases h2 : lexP (prs r) (prs q) = true
    · rw [if_pos h2]
    · rw [if_neg h2, if_neg h1]
      have h3 : ¬ lexP (prs r) (prs p) = true := fun h => by
        rcases lexP_tri (prs q) (prs r) with g | g | g
        · exact h1 (lexP_trans g h)
        · exact h2 g
        · rw [g] at h1; exact h1 h
      rw [if_neg h3]
theorem minP_length {p q : List Sec} (h : p.length = q.length) : (minP p q).length = p.length := by
  unfold minP
  by_cases h1 : lexP (prs q) (prs p) = true
  · rw [if_pos h1]; exact h.symm
  · rw [if_neg h1]

/-! ### ways -/
structure Way where
  bob : Nat
  secs : List Sec
  plans : Nat
def Way.lt (a b : Way) : Prop := a.bob < b.bob ∨ (a.bob = b.bob ∧ a.secs.length < b.secs.length)
instance (a b : Way) : Decidable (a.lt b) := by unfold Way.lt; exact inferInstance
def tie (a b : Way) : Way := ⟨a.bob, minP a.secs b.secs, a.plans + b.plans⟩
/-- two ways joined -/
def jn (a b : Way) : Way := if b.lt a then b else if a.lt b then a else tie a b
def mg : Option Way → Option Way → Option Way
  | none, b => b
  | some a, none => some a
  | some a, some b => some (jn a b)
theorem tie_eq {a b : Way} (h1 : ¬ b.lt a) (h2 : ¬ a.lt b) : a.bob = b.bob ∧ a.secs.length = b.secs.length := by
  unfold Way.lt at h1 h2
  omega
theorem tie_len {a b : Way} (h : a.secs.length = b.secs.length) : (tie a b).secs.length = a.secs.length := minP_length h
theorem jn_comm (a b : Way) : jn a b = jn b a := by
  unfold jn
  by_cases h1 : b.lt a
  · have h2 : ¬ a.lt b := by unfold Way.lt at h1 ⊢; omega
    rw [if_pos h1, if_neg h2, if_pos h1]
  · rw [if_neg h1]
    by_cases h2 : a.lt b
    · rw [if_pos h2, if_pos h2]
    · rw [if_neg h2, if_neg h2, if_neg h1]
      have e := tie_eq h1 h2
      unfold tie
      rw [e.1, minP_comm, Nat.add_comm]
theorem jn_lt1 {a b : Way} (h : b.lt a) : jn a b = b := by unfold jn; rw [if_pos h]
theorem jn_lt2 {a b : Way} (h : a.lt b) : jn a b = a := by rw [jn_comm]; exact jn_lt1 h
theorem jn_tie {a b : Way} (h1 : ¬ b.lt a) (h2 : ¬ a.lt b) : jn a b = tie a b := by unfold jn; rw [if_neg h1, if_neg h2]
theorem lt_of {a b c : Way} (h1 : a.lt b) (h2 : ¬ c.lt b) : a.lt c := by unfold Way.lt at *; omega
theorem lt_of' {a b c : Way} (h1 : ¬ b.lt a) (h2 : b.lt c) : a.lt c := by unfold Way.lt at *; omega
theorem lt_tie_l {a b c : Way} (h : a.secs.length = b.secs.length) : (tie a b).lt c ↔ a.lt c := by
  unfold Way.lt; rw [tie_len h]; exact Iff.rfl
theorem lt_tie_r {a b c : Way} (h : a.secs.length = b.secs.length) : c.lt (tie a b) ↔ c.lt a := by
  unfold Way.lt; rw [tie_len h]; exact Iff.rfl
theorem jn_assoc (a b c : Way) : jn (jn a b) c = jn a (jn b c) := by
  by_cases h1 : b.lt a
  · rw [jn_lt1 h1]
    by_cases h2 : c.lt b
    · rw [jn_lt1 h2, jn_lt1 (a := a) (b := c) (by unfold Way.lt at *; omega)]
    · by_cases h3 : b.lt c
      · rw [jn_lt2 h3, jn_lt1 h1]
      · have e := tie_eq h2 h3
        rw [jn_tie h2 h3, jn_lt1 ((lt_tie_l e.2).mpr h1)]
  · by_cases h2 : a.lt b
    · rw [jn_lt2 h2]
      by_cases h3 : c.lt b
      · rw [jn_lt1 h3]
      · by_cases h4 : b.lt c
        · rw [jn_lt2 h4, jn_lt2 h2, jn_lt2 (a := a) (b := c) (by unfold Way.lt at *; omega)]
        · have e := tie_eq h3 h4
          rw [jn_tie h3 h4, jn_lt2 ((lt_tie_r e.2).mpr h2), jn_lt2 (a := a) (b := c) (by unfold Way.lt at *; omega)]
    · have e1 := tie_eq h1 h2
      rw [jn_tie h1 h2]
      by_cases h3 : c.lt b
      · rw [jn_lt1 h3, jn_lt1 ((lt_tie_r e1.2).mpr (by unfold Way.lt at *; omega)), jn_lt1 (a := a) (b := c) (by unfold Way.lt at *; omega)]
      · by_cases h4 : b.lt c
        · rw [jn_lt2 h4, jn_lt2 ((lt_tie_l e1.2).mpr (by unfold Way.lt at *; omega)), jn_tie h1 h2]
        · have e2 := tie_eq h3 h4
          rw [jn_tie h3 h4, jn_tie (fun h => ?_) (fun h => ?_), jn_tie (a := a) (b := tie b c) (fun h => ?_) (fun h => ?_)]
          · unfold tie
            simp only [minP_assoc, Nat.add_assoc]
          · exact h1 ((lt_tie_l e2.2).mp h)
          · exact h2 ((lt_tie_r e2.2).mp h)
          · have := (lt_tie_r e1.2).mp h; unfold Way.lt at *; omega
          · have := (lt_tie_l e1.2).mp h; unfold Way.lt at *; omega
theorem mg_comm : ∀ a b : Option Way, mg a b = mg b a
  | none, none => rfl
  | none, some _ => rfl
  | some _, none => rfl
  | some a, some b => congrArg some (jn_comm a b)
theorem mg_none (a : Option Way) : mg a none = a := by cases a <;> rfl
theorem mg_assoc : ∀ a b c : Option Way, mg (mg a b) c = mg a (mg b c)
  | none, _, _ => rfl
  | some _, none, _ => rfl
  | some a, some b, none => rfl
  | some a, some b, some c => congrArg some (jn_assoc a b c)
/-- the sum of ways -/
def sm (L : List Way) : Option Way := L.foldr (fun w acc => mg (some w) acc) none
theorem sm_nil : sm [] = none := rfl
theorem sm_cons (w : Way) (L : List Way) : sm (w :: L) = mg (some w) (sm L) := rfl
theorem sm_append : ∀ A B : List Way, sm (A ++ B) = mg (sm A) (sm B)
  | [], B => rfl
  | w :: A, B => by
    show mg (some w) (sm (A ++ B)) = mg (mg (some w) (sm A)) (sm B)
    rw [sm_append A B, mg_assoc]
theorem sm_perm {A B : List Way} (h : A.Perm B) : sm A = sm B := by
  induction h with
  | nil => rfl
  | cons w _ ih => rw [sm_cons, sm_cons, ih]
  | swap a b l => rw [sm_cons, sm_cons, sm_cons, sm_cons, ← mg_assoc, ← mg_assoc, mg_comm (some b) (some a)]
  | trans _ _ i1 i2 => exact i1.trans i2
/-- a section behind, a section ahead -/
def snoc (c : Nat) (s : Sec) (w : Way) : Way := ⟨w.bob + c, w.secs ++ [s], w.plans⟩
def pre (c : Nat) (s : Sec) (w : Way) : Way := ⟨c + w.bob, s :: w.secs, w.plans⟩
theorem snoc_lt (c : Nat) (s : Sec) (a b : Way) : (snoc c s a).lt (snoc c s b) ↔ a.lt b := by
  unfold Way.lt snoc
  simp only [List.length_append, List.length_cons, List.length_nil]
  omega
theorem pre_lt (c : Nat) (s : Sec) (a b : Way) : (pre c s a).lt (pre c s b) ↔ a.lt b := by
  unfold Way.lt pre
  simp only [List.length_cons]
  omega
theorem minP_snoc {p q : List Sec} (s : Sec) (h : p.length = q.length) : minP (p ++ [s]) (q ++ [s]) = minP p q ++ [s] := by
  unfold minP prs
  rw [List.map_append, List.map_append]
  show (if lexP (prs q ++ [pr s]) (prs p ++ [pr s]) = true then q ++ [s] else p ++ [s]) = (if lexP (prs q) (prs p) = true then q else p) ++ [s]
  rw [lexP_snoc (pr s) (by unfold prs; rw [List.length_map, List.length_map]; exact h.symm)]
  split <;> rfl
theorem minP_cons (p q : List Sec) (s : Sec) : minP (s :: p) (s :: q) = s :: minP p q := by
  unfold minP
  show (if lexP (pr s :: prs q) (pr s :: prs p) = true then s :: q else s :: p) = s :: (if lexP (prs q) (prs p) = true then q else p)
  rw [lexP_cons, if_pos rfl]
  split <;> rfl
theorem snoc_jn (c : Nat) (s : Sec) (a b : Way) : snoc c s (jn a b) = jn (snoc c s a) (snoc c s b) := by
  unfold jn
  by_cases h1 : b.lt a
  · rw [if_pos h1, if_pos ((snoc_lt c s b a).mpr h1)]
  · rw [if_neg h1, if_neg (fun h => h1 ((snoc_lt c s b a).mp h))]
    by_cases h2 : a.lt b
    · rw [if_pos h2, if_pos ((snoc_lt c s a b).mpr h2)]
    · rw [if_neg h2, if_neg (fun h => h2 ((snoc_lt c s a b).mp h))]
      have e := tie_eq h1 h2
      show (⟨a.bob + c, minP a.secs b.secs ++ [s], a.plans + b.plans⟩ : Way) = ⟨a.bob + c, minP (a.secs ++ [s]) (b.secs ++ [s]), a.plans + b.plans⟩
      rw [minP_snoc s e.2]
theorem pre_jn (c : Nat) (s : Sec) (a b : Way) : pre c s (jn a b) = jn (pre c s a) (pre c s b) := by
  unfold jn
  by_cases h1 : b.lt a
  · rw [if_pos h1, if_pos ((pre_lt c s b a).mpr h1)]
  · rw [if_neg h1, if_neg (fun h => h1 ((pre_lt c s b a).mp h))]
    by_cases h2 : a.lt b
    · rw [if_pos h2, if_pos ((pre_lt c s a b).mpr h2)]
    · rw [if_neg h2, if_neg (fun h => h2 ((pre_lt c s a b).mp h))]
      show (⟨c + a.bob, s :: minP a.secs b.secs, a.plans + b.plans⟩ : Way) = ⟨c + a.bob, minP (s :: a.secs) (s :: b.secs), a.plans + b.plans⟩
      rw [minP_cons]
theorem sm_snoc (c : Nat) (s : Sec) : ∀ L : List Way, sm (L.map (snoc c s)) = (sm L).map (snoc c s)
  | [] => rfl
  | w :: L => by
    rw [List.map_cons, sm_cons, sm_cons, sm_snoc c s L]
    cases sm L with
    | none => rfl
    | some b => exact congrArg some (snoc_jn c s w b).symm
theorem sm_pre (c : Nat) (s : Sec) : ∀ L : List Way, sm (L.map (pre c s)) = (sm L).map (pre c s)
  | [] => rfl
  | w :: L => by
    rw [List.map_cons, sm_cons, sm_cons, sm_pre c s L]
    cases sm L with
    | none => rfl
    | some b => exact congrArg some (pre_jn c s w b).symm
end Wrp

end
section
set_option Elab.async false
set_option linter.all false
namespace Wrp
open L2
/-! ### plans of so many threads -/
abbrev Rack := List Nat
def plansF (pegs : Nat) : Nat → Nat → List (List Sec)
  | _, 0 => [[]]
  | 0, _ + 1 => []
  | k + 1, n + 1 => (Sw88.sections pegs).flatMap fun s => if n + 1 < s.long then [] else (plansF pegs k (n + 1 - s.long)).map (s :: ·)
def cost : Rack → List Nat → List Sec → Nat
  | _, _, [] => 0
  | r, l, s :: p => Sw88.changes r (Sw88.wanted s l) + cost (Sw88.put r (Sw88.wanted s l)) (l.drop s.long) p
def fin : Rack → List Nat → List Sec → Rack
  | r, _, [] => r
  | r, l, s :: p => fin (Sw88.put r (Sw88.wanted s l)) (l.drop s.long) p
def single (r : Rack) (l : List Nat) (p : List Sec) : Way := ⟨cost r l p, p, 1⟩
def toBest (w : Way) : Sw88.Best := ⟨w.bob, w.secs.length, w.plans, w.secs⟩
theorem single_cons (r : Rack) (l : List Nat) (s : Sec) (p : List Sec) :
    single r l (s :: p) = pre (Sw88.changes r (Sw88.wanted s l)) s (single (Sw88.put r (Sw88.wanted s l)) (l.drop s.long) p) := rfl
theorem wanted_length {s : Sec} {l : List Nat} (h : s.long ≤ l.length) : (Sw88.wanted s l).length = s.long := by
  unfold Sw88.wanted
  split
  · rw [List.length_reverse, List.length_take]; omega
  · rw [List.length_take]; omega
theorem put_length {r : Rack} {w : List Nat} (h : w.length ≤ r.length) : (Sw88.put r w).length = r.length := by
  unfold Sw88.put
  rw [List.length_append, List.length_drop]
  omega
theorem sec_mem {pegs : Nat} {s : Sec} : s ∈ Sw88.sections pegs ↔ 1 ≤ s.long ∧ s.long ≤ pegs ∧ (s.long = 1 → s.turned = false) := by
  unfold Sw88.sections
  rw [List.mem_flatMap]
  obtain ⟨n, t⟩ := s
  constructor
  · rintro ⟨k, hk, h⟩
    rw [List.mem_range] at hk
    by_cases h0 : k = 0
    · rw [if_pos h0, List.mem_singleton] at h
      cases h
      exact ⟨Nat.le_refl _, by show 1 ≤ pegs; omega, fun _ => rfl⟩
    · rw [if_neg h0] at h
      rcases List.mem_cons.mp h with e | e
      · cases e
        exact ⟨by show 1 ≤ k + 1; omega, by show k + 1 ≤ pegs; omega, fun _ => rfl⟩
      · rw [List.mem_singleton] at e
        cases e
        exact ⟨by show 1 ≤ k + 1; omega, by show k + 1 ≤ pegs; omega, fun z => by have : k + 1 = 1 := z; omega⟩
  · rintro ⟨h1, h2, h3⟩
    have h1 : 1 ≤ n := h1
    have h2 : n ≤ pegs := h2
    refine ⟨n - 1, List.mem_range.mpr (by omega), ?_⟩
    by_cases h0 : n - 1 = 0
    · have e : n = 1 := by omega
      subst e
      have h3 : t = false := h3 rfl
      subst h3
      rw [if_pos h0]
      exact List.mem_singleton.mpr rfl
    · rw [if_neg h0, show n - 1 + 1 = n by omega]
      cases t with
      | false => exact List.mem_cons.mpr (.inl rfl)
      | true => exact List.mem_cons.mpr (.inr (List.mem_singleton.mpr rfl))
/-! ### the specification's fold -/
def sumO (xs : List (Option Way)) : Option Way := xs.foldr mg none
theorem foldl_mg : ∀ (xs : List (Option Way)) (a : Option Way), xs.foldl mg a = mg a (sumO xs)
  | [], a => (mg_none a).symm
  | x :: xs, a => by
    rw [List.foldl_cons, foldl_mg xs, mg_assoc]
    rfl
theorem sm_flatMap {α : Type} (f : α → List Way) : ∀ ss : List α, sm (ss.flatMap f) = sumO (ss.map fun s => sm (f s))
  | [] => rfl
  | s :: ss => by
    rw [List.flatMap_cons, sm_append, sm_flatMap f ss]
    rfl
/-- a way that begins with s -/
def Heads (s : Sec) : Option Way → Prop
  | none => True
  | some w => ∃ p, w.secs = s :: p
theorem lexP_heads {s t : Sec} {p q : List Sec} (h : ltII (pr s) (pr t) = true) : lexP (prs (t :: q)) (prs (s :: p)) = false := by
  show lexP (pr t :: prs q) (pr s :: prs p) = false
  have hne : pr t ≠ pr s := fun e => by
    rw [e, ltII_iff] at h
    omega
  rw [lexP_cons, if_neg hne]
  cases e : ltII (pr t) (pr s) with
  | false => rfl
  | true =>
    rw [ltII_iff] at h e
    omega
theorem better_mg {s t : Sec} {a b : Option Way} (ha : Heads s a) (hb : Heads t b) (h : ltII (pr s) (pr t) = true) :
    Sw88.better (a.map toBest) (b.map toBest) = (mg a b).map toBest ∧ (Heads s (mg a b) ∨ Heads t (mg a b)) := by
  match a, b, ha, hb with
  | none, none, _, _ => exact ⟨rfl, .inl trivial⟩
  | none, some b, _, hb => exact ⟨rfl, .inr hb⟩
  | some a, none, ha, _ => exact ⟨rfl, .inl ha⟩
  | some a, some b, ⟨p, ep⟩, ⟨q, eq⟩ =>
    have hless : ∀ x y : Way, Sw88.less (toBest x) (toBest y) = decide (x.lt y) := fun x y => by
      show (decide (x.bob < y.bob) || (x.bob == y.bob && decide (x.secs.length < y.secs.length))) = decide (x.lt y)
      by_cases hd : x.lt y
      · rw [decide_eq_true hd]
        unfold Way.lt at hd
        simpa using hd
      · rw [decide_eq_false hd]
        unfold Way.lt at hd
        simp only [Bool.or_eq_false_iff, Bool.and_eq_false_imp, decide_eq_false_iff_not, beq_iff_eq]
        omega
    show (if Sw88.less (toBest b) (toBest a) = true then some (toBest b) else if Sw88.less (toBest a) (toBest b) = true then some (toBest a) else some (⟨a.bob, a.secs.length, a.plans + b.plans, a.secs⟩ : Sw88.Best)) = some (toBest (jn a b)) ∧ (Heads s (some (jn a b)) ∨ Heads t (some (jn a b)))
    rw [hless, hless]
    unfold jn
    by_cases h1 : b.lt a
    · rw [if_pos h1, if_pos (decide_eq_true h1)]
      exact ⟨rfl, .inr ⟨q, eq⟩⟩
    · rw [if_neg h1, if_neg (by simpa using h1)]
      by_cases h2 : a.lt b
      · rw [if_pos h2, if_pos (decide_eq_true h2)]
        exact ⟨rfl, .inl ⟨p, ep⟩⟩
      · rw [if_neg h2, if_neg (by simpa using h2)]
        have em : minP a.secs b.secs = a.secs := by
          unfold minP
          rw [ep, eq, if_neg (by rw [lexP_heads h]; decide)]
        unfold tie
        rw [em]
        exact ⟨rfl, .inl ⟨p, ep⟩⟩
theorem fold_better (v : Sec → Option Way) (hv : ∀ s, Heads s (v s)) : ∀ (ss : List Sec) (a : Option Way) (as : List Sec), (a = none ∨ ∃ s ∈ as, Heads s a) → (∀ s ∈ as, ∀ t ∈ ss, ltII (pr s) (pr t) = true) →
    ss.Pairwise (fun s t => ltII (pr s) (pr t) = true) → (ss.map fun s => (v s).map toBest).foldl Sw88.better (a.map toBest) = ((ss.map v).foldl mg a).map toBest
  | [], a, _, _, _, _ => rfl
  | t :: ss, a, as, ha, hlt, hp => by
    rw [List.map_cons, List.map_cons, List.foldl_cons, List.foldl_cons]
    rw [List.pairwise_cons] at hp
    have hb : Sw88.better (a.map toBest) ((v t).map toBest) = (mg a (v t)).map toBest ∧ (mg a (v t) = none ∨ ∃ s ∈ t :: as, Heads s (mg a (v t))) := by
      rcases ha with ha | ⟨s, hs, ha⟩
      · subst ha
        refine ⟨?_, .inr ⟨t, List.mem_cons.mpr (.inl rfl), hv t⟩⟩
        cases v t <;> rfl
      · obtain ⟨h1, h2⟩ := better_mg ha (hv t) (hlt s hs t (List.mem_cons.mpr (.inl rfl)))
        refine ⟨h1, .inr ?_⟩
        rcases h2 with h2 | h2
        · exact ⟨s, List.mem_cons.mpr (.inr hs), h2⟩
        · exact ⟨t, List.mem_cons.mpr (.inl rfl), h2⟩
    rw [hb.1]
    refine fold_better v hv ss _ (t :: as) hb.2 (fun s hs u hu => ?_) hp.2
    rcases List.mem_cons.mp hs with e | hs
    · subst e
      exact hp.1 u hu
    · exact hlt s hs u (List.mem_cons.mpr (.inr hu))
theorem sections_sorted : ∀ pegs : Nat, pegs ≤ 4 → (Sw88.sections pegs).Pairwise (fun s t => ltII (pr s) (pr t) = true)
  | 0, _ => by decide
  | 1, _ => by decide
  | 2, _ => by decide
  | 3, _ => by decide
  | 4, _ => by decide
  | n + 5, h => by omega
/-! ### the specification's best: the sum over all plans -/
theorem best_plans : ∀ (k : Nat) (r : Rack) (l : List Nat), r.length ≤ 4 → l.length ≤ k → Sw88.bestFrom k r l = (sm ((plansF r.length k l.length).map (single r l))).map toBest
  | k, r, [], _, _ => by cases k <;> rfl
  | 0, _, _ :: _, _, h => by simp at h
  | k + 1, r, x :: l, h4, hl => by
    have hx : ∀ s : Sec, s ∈ Sw88.sections r.length → (if (x :: l).length < s.long then none else
        (Sw88.bestFrom k (Sw88.put r (Sw88.wanted s (x :: l))) ((x :: l).drop s.long)).map fun b => (⟨Sw88.changes r (Sw88.wanted s (x :: l)) + b.bobbins, b.sections + 1, b.many, s :: b.plan⟩ : Sw88.Best)) =
        (sm ((if l.length + 1 < s.long then [] else (plansF r.length k (l.length + 1 - s.long)).map (s :: ·)).map (single r (x :: l)))).map toBest := fun s hs => by
      obtain ⟨a1, a2, a3⟩ := sec_mem.mp hs
      have el : (x :: l).length = l.length + 1 := rfl
      by_cases hlt : l.length + 1 < s.long
      · rw [if_pos hlt, if_pos (by rw [el]; exact hlt)]
        rfl
      · rw [if_neg hlt, if_neg (by rw [el]; exact hlt)]
        have hw : (Sw88.wanted s (x :: l)).length = s.long := wanted_length (by rw [el]; omega)
        have hr : (Sw88.put r (Sw88.wanted s (x :: l))).length = r.length := put_length (by rw [hw]; exact a2)
        have hd : ((x :: l).drop s.long).length = l.length + 1 - s.long := by rw [List.length_drop, el]
        rw [best_plans k _ _ (by rw [hr]; exact h4) (by rw [hd]; rw [el] at hl; omega), hr, hd, List.map_map]
        have e2 : (single r (x :: l)) ∘ (s :: ·) = (pre (Sw88.changes r (Sw88.wanted s (x :: l))) s) ∘ (single (Sw88.put r (Sw88.wanted s (x :: l))) ((x :: l).drop s.long)) := funext fun p => single_cons r (x :: l) s p
        rw [e2, ← List.map_map, sm_pre]
        cases sm ((plansF r.length k (l.length + 1 - s.long)).map (single (Sw88.put r (Sw88.wanted s (x :: l))) ((x :: l).drop s.long))) <;> rfl
    show ((Sw88.sections r.length).map fun s => if (x :: l).length < s.long then none else
        (Sw88.bestFrom k (Sw88.put r (Sw88.wanted s (x :: l))) ((x :: l).drop s.long)).map fun b => (⟨Sw88.changes r (Sw88.wanted s (x :: l)) + b.bobbins, b.sections + 1, b.many, s :: b.plan⟩ : Sw88.Best)).foldl Sw88.better none =
      (sm (((Sw88.sections r.length).flatMap fun s => if l.length + 1 < s.long then [] else (plansF r.length k (l.length + 1 - s.long)).map (s :: ·)).map (single r (x :: l)))).map toBest
    rw [List.map_congr_left hx, List.map_flatMap, sm_flatMap]
    refine (fold_better _ (fun s => ?_) _ none [] (.inl rfl) (fun s hs => by cases hs) (sections_sorted _ h4)).trans ?_
    · have hh : ∀ (L : List (List Sec)), Heads s (sm ((L.map (s :: ·)).map (single r (x :: l)))) := fun L => by
        rw [List.map_map]
        have e2 : (single r (x :: l)) ∘ (s :: ·) = (pre (Sw88.changes r (Sw88.wanted s (x :: l))) s) ∘ (single (Sw88.put r (Sw88.wanted s (x :: l))) ((x :: l).drop s.long)) := funext fun p => single_cons r (x :: l) s p
        rw [e2, ← List.map_map, sm_pre]
        cases sm (L.map (single (Sw88.put r (Sw88.wanted s (x :: l))) ((x :: l).drop s.long))) with
        | none => trivial
        | some w => exact ⟨w.secs, rfl⟩
      by_cases hlt : l.length + 1 < s.long
      · rw [if_pos hlt]; trivial
      · rw [if_neg hlt]; exact hh _
    · rw [foldl_mg]
      rfl
end Wrp

end
section
set_option Elab.async false
set_option linter.all false
namespace Wrp
open L2
/-! ### all plans, the other way round too -/
def total : List Sec → Nat
  | [] => 0
  | s :: p => s.long + total p
theorem total_append : ∀ p q : List Sec, total (p ++ q) = total p + total q
  | [], q => by show total q = 0 + total q; omega
  | s :: p, q => by
    show s.long + total (p ++ q) = s.long + total p + total q
    rw [total_append p q]; omega
theorem total_reverse : ∀ p : List Sec, total p.reverse = total p
  | [] => rfl
  | s :: p => by
    rw [List.reverse_cons, total_append, total_reverse p]
    show total p + (s.long + 0) = s.long + total p
    omega
theorem mem_plansF {pegs : Nat} : ∀ (k n : Nat) (p : List Sec), n ≤ k → (p ∈ plansF pegs k n ↔ (∀ s ∈ p, s ∈ Sw88.sections pegs) ∧ total p = n)
  | k, 0, p, _ => by
    have e : plansF pegs k 0 = [[]] := by cases k <;> rfl
    rw [e, List.mem_singleton]
    constructor
    · intro h; subst h; exact ⟨(fun s hs => nomatch hs), rfl⟩
    · rintro ⟨h1, h2⟩
      match p, h1, h2 with
      | [], _, _ => rfl
      | s :: p, h1, h2 =>
        have a := (sec_mem.mp (h1 s (List.mem_cons.mpr (.inl rfl)))).1
        have b : s.long + total p = 0 := h2
        omega
  | 0, n + 1, p, h => by omega
  | k + 1, n + 1, p, h => by
    show p ∈ (Sw88.sections pegs).flatMap (fun s => if n + 1 < s.long then [] else (plansF pegs k (n + 1 - s.long)).map (s :: ·)) ↔ _
    rw [List.mem_flatMap]
    constructor
    · rintro ⟨s, hs, hp⟩
      have a := (sec_mem.mp hs).1
      by_cases hlt : n + 1 < s.long
      · rw [if_pos hlt] at hp; cases hp
      · rw [if_neg hlt] at hp
        obtain ⟨q, hq, rfl⟩ := List.mem_map.mp hp
        obtain ⟨h1, h2⟩ := (mem_plansF k (n + 1 - s.long) q (by omega)).mp hq
        refine ⟨fun t ht => ?_, by show s.long + total q = n + 1; omega⟩
        rcases List.mem_cons.mp ht with e | ht
        · rw [e]; exact hs
        · exact h1 t ht
    · rintro ⟨h1, h2⟩
      match p, h1, h2 with
      | [], _, h2 => cases h2
      | s :: q, h1, h2 =>
        have hs := h1 s (List.mem_cons.mpr (.inl rfl))
        have a := (sec_mem.mp hs).1
        have b : s.long + total q = n + 1 := h2
        refine ⟨s, hs, ?_⟩
        rw [if_neg (by omega)]
        exact List.mem_map.mpr ⟨q, (mem_plansF k _ q (by omega)).mpr ⟨fun t ht => h1 t (List.mem_cons.mpr (.inr ht)), by omega⟩, rfl⟩
theorem nodup_map {α β : Type} {f : α → β} (hf : ∀ a b, f a = f b → a = b) {l : List α} (h : l.Nodup) : (l.map f).Nodup := by
  unfold List.Nodup at *
  rw [List.pairwise_map]
  exact h.imp fun hab e => hab (hf _ _ e)
theorem nodup_sections {pegs : Nat} (h : pegs ≤ 4) : (Sw88.sections pegs).Nodup := (sections_sorted pegs h).imp fun {a b} hab e => by
  rw [e, ltII_iff] at hab
  omega
theorem nodup_plansF {pegs : Nat} (h4 : pegs ≤ 4) : ∀ k n : Nat, (plansF pegs k n).Nodup
  | 0, 0 => List.nodup_cons.mpr ⟨List.not_mem_nil, List.nodup_nil⟩
  | k + 1, 0 => List.nodup_cons.mpr ⟨List.not_mem_nil, List.nodup_nil⟩
  | 0, n + 1 => List.nodup_nil
  | k + 1, n + 1 => by
    show ((Sw88.sections pegs).flatMap (fun s => if n + 1 < s.long then [] else (plansF pegs k (n + 1 - s.long)).map (s :: ·))).Nodup
    unfold List.Nodup
    rw [List.pairwise_flatMap]
    constructor
    · intro s hs
      by_cases hlt : n + 1 < s.long
      · rw [if_pos hlt]; exact .nil
      · rw [if_neg hlt]
        exact nodup_map (fun a b e => (List.cons.inj e).2) (nodup_plansF h4 k _)
    · refine (nodup_sections h4).imp fun {s t} hst x hx y hy => ?_
      have hd : ∀ (u : Sec) (z : List Sec), z ∈ (if n + 1 < u.long then [] else (plansF pegs k (n + 1 - u.long)).map (u :: ·)) → ∃ q, z = u :: q := fun u z hz => by
        by_cases hlt : n + 1 < u.long
        · rw [if_pos hlt] at hz; cases hz
        · rw [if_neg hlt] at hz
          obtain ⟨q, _, e⟩ := List.mem_map.mp hz
          exact ⟨q, e.symm⟩
      obtain ⟨q, rfl⟩ := hd s x hx
      obtain ⟨q', rfl⟩ := hd t y hy
      exact fun e => hst (List.cons.inj e).1
theorem plansF_fuel {pegs k n : Nat} (h4 : pegs ≤ 4) (h : n ≤ k) : (plansF pegs k n).Perm (plansF pegs n n) :=
  (List.perm_ext_iff_of_nodup (nodup_plansF h4 k n) (nodup_plansF h4 n n)).mpr fun p => by
    rw [mem_plansF k n p h, mem_plansF n n p (Nat.le_refl _)]
/-- a list that holds every plan of n threads just once -/
structure All (pegs n : Nat) (L : List (List Sec)) : Prop where
  nd : L.Nodup
  mem : ∀ p, p ∈ L ↔ (∀ s ∈ p, s ∈ Sw88.sections pegs) ∧ total p = n
theorem All.perm {pegs n : Nat} {L M : List (List Sec)} (a : All pegs n L) (b : All pegs n M) : L.Perm M :=
  (List.perm_ext_iff_of_nodup a.nd b.nd).mpr fun p => (a.mem p).trans (b.mem p).symm
theorem All.plansF {pegs : Nat} (h4 : pegs ≤ 4) (n : Nat) : All pegs n (plansF pegs n n) := ⟨nodup_plansF h4 n n, fun p => mem_plansF n n p (Nat.le_refl _)⟩
theorem All.zero (pegs : Nat) : All pegs 0 [[]] := ⟨List.nodup_cons.mpr ⟨List.not_mem_nil, List.nodup_nil⟩, fun p => mem_plansF (pegs := pegs) 0 0 p (Nat.le_refl _)⟩
/-- plans grow by a last section -/
theorem All.grow {pegs n : Nat} (h4 : pegs ≤ 4) (hn : 1 ≤ n) (Ls : Nat → List (List Sec)) (h : ∀ m, m < n → All pegs m (Ls m)) :
    All pegs n ((Sw88.sections (min n pegs)).flatMap fun s => (Ls (n - s.long)).map (· ++ [s])) := by
  have hm : min n pegs ≤ 4 := Nat.le_trans (Nat.min_le_right _ _) h4
  constructor
  · unfold List.Nodup
    rw [List.pairwise_flatMap]
    constructor
    · intro s hs
      have a := sec_mem.mp hs
      exact nodup_map (fun x y e => List.append_inj_left' e rfl) (h _ (by omega)).nd
    · refine (nodup_sections hm).imp fun {s t} hst x hx y hy => ?_
      obtain ⟨q, _, rfl⟩ := List.mem_map.mp hx
      obtain ⟨q', _, rfl⟩ := List.mem_map.mp hy
      exact fun e => hst (List.cons.inj (List.append_inj_right' e rfl)).1
  · intro p
    rw [List.mem_flatMap]
    constructor
    · rintro ⟨s, hs, hp⟩
      obtain ⟨q, hq, rfl⟩ := List.mem_map.mp hp
      have a := sec_mem.mp hs
      obtain ⟨h1, h2⟩ := ((h (n - s.long) (by omega)).mem q).mp hq
      refine ⟨fun t ht => ?_, ?_⟩
      · rcases List.mem_append.mp ht with ht | ht
        · exact h1 t ht
        · rw [List.mem_singleton.mp ht]
          exact sec_mem.mpr ⟨a.1, by omega, a.2.2⟩
      · rw [total_append, h2]
        show n - s.long + (s.long + 0) = n
        omega
    · rintro ⟨h1, h2⟩
      rcases List.eq_nil_or_concat p with e | ⟨q, s, e⟩
      · subst e
        have : 0 = n := h2
        omega
      · rw [List.concat_eq_append] at e
        subst e
        have hs := sec_mem.mp (h1 s (List.mem_append.mpr (.inr (List.mem_singleton.mpr rfl))))
        rw [total_append] at h2
        have h2 : total q + (s.long + 0) = n := h2
        refine ⟨s, sec_mem.mpr ⟨hs.1, by omega, hs.2.2⟩, List.mem_map.mpr ⟨q, ?_, rfl⟩⟩
        exact ((h (n - s.long) (by omega)).mem q).mpr ⟨fun t ht => h1 t (List.mem_append.mpr (.inl ht)), by omega⟩
theorem best_all {r : Rack} {l : List Nat} {L : List (List Sec)} (h4 : r.length ≤ 4) (h : All r.length l.length L) : Sw88.best r l = (sm (L.map (single r l))).map toBest := by
  unfold Sw88.best
  rw [best_plans l.length r l h4 (Nat.le_refl _), sm_perm (((All.plansF h4 l.length).perm h).map (single r l))]
end Wrp

end
section
set_option Elab.async false
set_option linter.all false
namespace Wrp
open L2
/-! ### the table of ways by racks -/
abbrev Tab := List (Rack × Way)
def look (d : Tab) (k : Rack) : Option Way := (d.find? fun e => decide (e.1 = k)).map (·.2)
def putD (d : Tab) (k : Rack) (v : Way) : Tab := if (d.any fun e => decide (e.1 = k)) = true then d.map fun e => if e.1 = k then (e.1, v) else e else d ++ [(k, v)]
theorem look_cons (e : Rack × Way) (d : Tab) (k : Rack) : look (e :: d) k = if e.1 = k then some e.2 else look d k := by
  unfold look
  rw [List.find?_cons]
  by_cases h : e.1 = k
  · rw [if_pos h, decide_eq_true h]; rfl
  · rw [if_neg h, decide_eq_false h]
theorem look_append : ∀ (d e : Tab) (k : Rack), look (d ++ e) k = (look d k).or (look e k)
  | [], e, k => rfl
  | x :: d, e, k => by
    show look (x :: (d ++ e)) k = _
    rw [look_cons, look_cons, look_append d e k]
    by_cases h : x.1 = k
    · rw [if_pos h, if_pos h]; rfl
    · rw [if_neg h, if_neg h]
theorem any_look : ∀ (d : Tab) (k : Rack), (d.any fun e => decide (e.1 = k)) = (look d k).isSome
  | [], _ => rfl
  | e :: d, k => by
    rw [List.any_cons, look_cons, any_look d k]
    by_cases h : e.1 = k
    · rw [if_pos h, decide_eq_true h]; rfl
    · rw [if_neg h, decide_eq_false h]; rfl
theorem look_repl (k : Rack) (v : Way) : ∀ (d : Tab) (k' : Rack), look (d.map fun e => if e.1 = k then (e.1, v) else e) k' = if k' = k then (look d k).map (fun _ => v) else look d k'
  | [], k' => by
    show (none : Option Way) = _
    split <;> rfl
  | e :: d, k' => by
    rw [List.map_cons, look_cons, look_repl k v d k', look_cons, look_cons]
    by_cases h : e.1 = k
    · rw [if_pos h, if_pos h]
      show (if e.1 = k' then some v else _) = _
      by_cases h' : k' = k
      · rw [if_pos (h.trans h'.symm), if_pos h']; rfl
      · rw [if_neg h', if_neg h', if_neg (fun z => h' (z.symm.trans h)), if_neg (fun z => h' (z.symm.trans h))]
    · rw [if_neg h, if_neg h]
      by_cases h' : k' = k
      · rw [if_pos h', if_pos h', if_neg (fun z => h (z.trans h'))]
      · rw [if_neg h', if_neg h']
theorem look_put (d : Tab) (k : Rack) (v : Way) (k' : Rack) : look (putD d k v) k' = if k' = k then some v else look d k' := by
  unfold putD
  rw [any_look]
  cases h : look d k with
  | none =>
    rw [if_neg (by decide), look_append]
    by_cases h' : k' = k
    · rw [if_pos h', h', h, Option.none_or, look_cons, if_pos rfl]
    · rw [if_neg h', look_cons, if_neg (fun z => h' z.symm)]
      cases look d k' <;> rfl
  | some w =>
    rw [if_pos (show (some w).isSome = true from rfl), look_repl, h]
    rfl
theorem look_none {d : Tab} {k : Rack} : look d k = none ↔ k ∉ d.map (·.1) := by
  induction d with
  | nil => exact ⟨(fun _ h => nomatch h), fun _ => rfl⟩
  | cons e d ih =>
    rw [look_cons, List.map_cons, List.mem_cons]
    by_cases h : e.1 = k
    · rw [if_pos h]
      exact ⟨fun z => (by cases z), fun z => absurd (.inl h.symm) z⟩
    · rw [if_neg h, ih]
      exact ⟨fun z y => y.elim (fun q => h q.symm) z, fun z y => z (.inr y)⟩
theorem nodup_put {d : Tab} (k : Rack) (v : Way) (h : (d.map (·.1)).Nodup) : ((putD d k v).map (·.1)).Nodup := by
  unfold putD
  rw [any_look]
  cases e : look d k with
  | none =>
    rw [if_neg (by decide), List.map_append]
    exact nd_snoc h (look_none.mp e)
  | some w =>
    rw [if_pos (show (some w).isSome = true from rfl), List.map_map]
    have q : (fun e : Rack × Way => e.1) ∘ (fun e => if e.1 = k then (e.1, v) else e) = (·.1) := by
      funext e
      show (if e.1 = k then (e.1, v) else e).1 = e.1
      split <;> rfl
    rw [q]; exact h
theorem look_mem {d : Tab} (h : (d.map (·.1)).Nodup) {e : Rack × Way} (he : e ∈ d) : look d e.1 = some e.2 := by
  induction d with
  | nil => cases he
  | cons x d ih =>
    rw [List.map_cons, List.nodup_cons] at h
    rw [look_cons]
    rcases List.mem_cons.mp he with q | q
    · rw [q, if_pos rfl]
    · have hne : ¬ x.1 = e.1 := fun z => h.1 (by rw [z]; exact List.mem_map.mpr ⟨e, q, rfl⟩)
      rw [if_neg hne, ih h.2 q]
/-! ### what a table stands for -/
theorem fin_snoc : ∀ (p : List Sec) (r : Rack) (l : List Nat) (s : Sec), fin r l (p ++ [s]) = Sw88.put (fin r l p) (Sw88.wanted s (l.drop (total p)))
  | [], r, l, s => rfl
  | t :: p, r, l, s => by
    show fin (Sw88.put r (Sw88.wanted t l)) (l.drop t.long) (p ++ [s]) = _
    rw [fin_snoc p]
    show _ = Sw88.put (fin (Sw88.put r (Sw88.wanted t l)) (l.drop t.long) p) (Sw88.wanted s (l.drop (t.long + total p)))
    rw [List.drop_drop]
theorem cost_snoc : ∀ (p : List Sec) (r : Rack) (l : List Nat) (s : Sec), cost r l (p ++ [s]) = cost r l p + Sw88.changes (fin r l p) (Sw88.wanted s (l.drop (total p)))
  | [], r, l, s => by
    show Sw88.changes r (Sw88.wanted s l) + 0 = 0 + Sw88.changes r (Sw88.wanted s l)
    omega
  | t :: p, r, l, s => by
    show _ + cost (Sw88.put r (Sw88.wanted t l)) (l.drop t.long) (p ++ [s]) = _ + cost (Sw88.put r (Sw88.wanted t l)) (l.drop t.long) p + Sw88.changes (fin (Sw88.put r (Sw88.wanted t l)) (l.drop t.long) p) (Sw88.wanted s (l.drop (t.long + total p)))
    rw [cost_snoc p, List.drop_drop]
    omega
abbrev at_ (r : Rack) (l : List Nat) (k : Rack) (L : List (List Sec)) : List (List Sec) := L.filter fun p => decide (fin r l p = k)
structure Rep (r : Rack) (l : List Nat) (L : List (List Sec)) (d : Tab) : Prop where
  nd : (d.map (·.1)).Nodup
  val : ∀ k, look d k = sm ((at_ r l k L).map (single r l))
theorem Rep.nil (r : Rack) (l : List Nat) : Rep r l [] [] := ⟨List.nodup_nil, fun _ => rfl⟩
theorem Rep.start (r : Rack) (l : List Nat) : Rep r l [[]] [(r, ⟨0, [], 1⟩)] := by
  refine ⟨List.nodup_cons.mpr ⟨List.not_mem_nil, List.nodup_nil⟩, fun k => ?_⟩
  rw [look_cons]
  unfold at_
  rw [List.filter_cons]
  by_cases h : r = k
  · rw [if_pos h, if_pos (show decide (fin r l [] = k) = true from decide_eq_true h)]; rfl
  · rw [if_neg h, if_neg (show ¬ decide (fin r l [] = k) = true from fun z => h (of_decide_eq_true z))]; rfl
theorem Rep.perm {r : Rack} {l : List Nat} {L M : List (List Sec)} {d : Tab} (h : Rep r l L d) (p : L.Perm M) : Rep r l M d :=
  ⟨h.nd, fun k => (h.val k).trans (sm_perm ((p.filter _).map _))⟩
def jo : Option Way → Way → Way
  | none, f => f
  | some k, f => jn k f
theorem mg_jo (a : Option Way) (f : Way) : mg a (some f) = some (jo a f) := by cases a <;> rfl
/-- one pair of the table before, one section more -/
def one (w : List Nat) (s : Sec) (found : Tab) (e : Rack × Way) : Tab := putD found (Sw88.put e.1 w) (jo (look found (Sw88.put e.1 w)) (snoc (Sw88.changes e.1 w) s e.2))
theorem one_rep {r : Rack} {l : List Nat} {M Lk : List (List Sec)} {found : Tab} {s : Sec} {b : Nat} {k : Rack} {w : Way} (hM : Rep r l M found) (hL : ∀ p ∈ Lk, total p = b ∧ fin r l p = k) (hw : sm (Lk.map (single r l)) = some w) :
    Rep r l (M ++ Lk.map (· ++ [s])) (one (Sw88.wanted s (l.drop b)) s found (k, w)) := by
  refine ⟨nodup_put _ _ hM.nd, fun k' => ?_⟩
  unfold one
  rw [look_put]
  unfold at_
  rw [List.filter_append, List.map_append, sm_append]
  have hf : ∀ p ∈ Lk, fin r l (p ++ [s]) = Sw88.put k (Sw88.wanted s (l.drop b)) := fun p hp => by
    rw [fin_snoc, (hL p hp).1, (hL p hp).2]
  by_cases h : k' = Sw88.put k (Sw88.wanted s (l.drop b))
  · rw [if_pos h, ← h]
    have e1 : (Lk.map (· ++ [s])).filter (fun p => decide (fin r l p = k')) = Lk.map (· ++ [s]) := by
      rw [List.filter_eq_self]
      intro p hp
      obtain ⟨q, hq, rfl⟩ := List.mem_map.mp hp
      exact decide_eq_true ((hf q hq).trans h.symm)
    have e2 : (Lk.map (· ++ [s])).map (single r l) = (Lk.map (single r l)).map (snoc (Sw88.changes k (Sw88.wanted s (l.drop b))) s) := by
      rw [List.map_map, List.map_map]
      refine List.map_congr_left fun p hp => ?_
      show (⟨cost r l (p ++ [s]), p ++ [s], 1⟩ : Way) = ⟨cost r l p + _, p ++ [s], 1⟩
      rw [cost_snoc, (hL p hp).1, (hL p hp).2]
    rw [e1, e2, sm_snoc, hw, ← hM.val k']
    exact (mg_jo _ _).symm
  · rw [if_neg h]
    have e1 : (Lk.map (· ++ [s])).filter (fun p => decide (fin r l p = k')) = [] := by
      rw [List.filter_eq_nil_iff]
      intro p hp
      obtain ⟨q, hq, rfl⟩ := List.mem_map.mp hp
      rw [hf q hq, decide_eq_true_iff]
      exact fun z => h z.symm
    rw [e1, hM.val k', List.map_nil, sm_nil, mg_none]
theorem count_part (r : Rack) (l : List Nat) (L : List (List Sec)) (x : List Sec) : ∀ ks : List Rack, ks.Nodup → (ks.flatMap fun k => at_ r l k L).count x = if fin r l x ∈ ks then L.count x else 0
  | [], _ => rfl
  | k :: ks, h => by
    rw [List.nodup_cons] at h
    rw [List.flatMap_cons, List.count_append, count_part r l L x ks h.2]
    by_cases e : fin r l x = k
    · rw [if_neg (by rw [e]; exact h.1), if_pos (by rw [e]; exact List.mem_cons.mpr (.inl rfl)), List.count_filter (p := fun p => decide (fin r l p = k)) (a := x) (decide_eq_true e)]
      rfl
    · have c0 : (at_ r l k L).count x = 0 := by
        rw [List.count_eq_zero]
        intro hm
        exact e (of_decide_eq_true (List.mem_filter.mp hm).2)
      rw [c0, Nat.zero_add]
      by_cases g : fin r l x ∈ ks
      · rw [if_pos g, if_pos (List.mem_cons.mpr (.inr g))]
      · rw [if_neg g, if_neg (fun z => (List.mem_cons.mp z).elim e g)]
theorem sm_some_of_mem {L : List Way} {w : Way} (h : w ∈ L) : sm L ≠ none := by
  induction L with
  | nil => cases h
  | cons x L ih =>
    rw [sm_cons]
    cases sm L <;> exact fun z => nomatch z
theorem perm_part {r : Rack} {l : List Nat} {L : List (List Sec)} {d : Tab} (h : Rep r l L d) : ((d.map (·.1)).flatMap fun k => at_ r l k L).Perm L := by
  rw [List.perm_iff_count]
  intro x
  rw [count_part r l L x _ h.nd]
  by_cases hx : x ∈ L
  · rw [if_pos]
    refine Decidable.byContradiction fun z => ?_
    have q := h.val (fin r l x)
    rw [look_none.mpr z] at q
    exact sm_some_of_mem (List.mem_map.mpr ⟨x, List.mem_filter.mpr ⟨hx, decide_eq_true rfl⟩, rfl⟩) q.symm
  · rw [List.count_eq_zero.mpr hx]
    split <;> rfl
theorem fold_one {r : Rack} {l : List Nat} {L : List (List Sec)} {s : Sec} {b : Nat} (hL : ∀ p ∈ L, total p = b) : ∀ (d : Tab) (found : Tab) (M : List (List Sec)), (∀ e ∈ d, sm ((at_ r l e.1 L).map (single r l)) = some e.2) → Rep r l M found →
    Rep r l (M ++ (d.map (·.1)).flatMap fun k => (at_ r l k L).map (· ++ [s])) (d.foldl (one (Sw88.wanted s (l.drop b)) s) found)
  | [], found, M, _, hM => by
    show Rep r l (M ++ []) found
    rw [List.append_nil]; exact hM
  | e :: d, found, M, hd, hM => by
    have h1 := one_rep (s := s) (b := b) (k := e.1) hM (fun p hp => ⟨hL p (List.mem_filter.mp hp).1, of_decide_eq_true (List.mem_filter.mp hp).2⟩) (hd e (List.mem_cons.mpr (.inl rfl)))
    have h2 := fold_one (s := s) hL d _ _ (fun e' he => hd e' (List.mem_cons.mpr (.inr he))) h1
    rw [List.append_assoc] at h2
    exact h2
/-- one section more, over the whole table before -/
theorem layer_rep {r : Rack} {l : List Nat} {L M : List (List Sec)} {s : Sec} {b : Nat} {d found : Tab} (hL : ∀ p ∈ L, total p = b) (hd : Rep r l L d) (hM : Rep r l M found) :
    Rep r l (M ++ L.map (· ++ [s])) (d.foldl (one (Sw88.wanted s (l.drop b)) s) found) := by
  refine (fold_one hL d found M (fun e he => ?_) hM).perm (List.Perm.append_left M ?_)
  · rw [← hd.val e.1]; exact look_mem hd.nd he
  · rw [← List.map_flatMap]
    exact (perm_part hd).map _
/-- all sections -/
theorem grow_rep {r : Rack} {l : List Nat} {n : Nat} {Ls : Nat → List (List Sec)} {ds : Nat → Tab} : ∀ (ss : List Sec) (M : List (List Sec)) (found : Tab), (∀ s ∈ ss, (∀ p ∈ Ls (n - s.long), total p = n - s.long) ∧ Rep r l (Ls (n - s.long)) (ds (n - s.long))) → Rep r l M found →
    Rep r l (M ++ ss.flatMap fun s => (Ls (n - s.long)).map (· ++ [s])) (ss.foldl (fun f s => (ds (n - s.long)).foldl (one (Sw88.wanted s (l.drop (n - s.long))) s) f) found)
  | [], M, found, _, hM => by
    show Rep r l (M ++ []) found
    rw [List.append_nil]; exact hM
  | s :: ss, M, found, h, hM => by
    have h0 := h s (List.mem_cons.mpr (.inl rfl))
    have h1 := grow_rep ss _ _ (fun t ht => h t (List.mem_cons.mpr (.inr ht))) (layer_rep (s := s) h0.1 h0.2 hM)
    rw [List.append_assoc] at h1
    exact h1
/-- the ways of a table, joined -/
theorem values_sm {r : Rack} {l : List Nat} {L : List (List Sec)} {d : Tab} (h : Rep r l L d) : (d.map fun e => some e.2).foldl mg none = sm (L.map (single r l)) := by
  rw [foldl_mg]
  show sumO _ = _
  rw [← sm_perm ((perm_part h).map (single r l)), List.map_flatMap, sm_flatMap, List.map_map]
  congr 1
  refine List.map_congr_left fun e he => ?_
  show some e.2 = sm ((at_ r l e.1 L).map (single r l))
  rw [← h.val e.1, look_mem h.nd he]
theorem sm_mem : ∀ {L : List Way} {w : Way}, sm L = some w → ∃ v ∈ L, v.secs = w.secs
  | [], _, h => by cases h
  | x :: L, w, h => by
    rw [sm_cons] at h
    cases e : sm L with
    | none =>
      rw [e] at h
      cases h
      exact ⟨x, List.mem_cons.mpr (.inl rfl), rfl⟩
    | some y =>
      rw [e] at h
      have hw : jn x y = w := Option.some.inj h
      obtain ⟨v, hv, ev⟩ := sm_mem e
      have : w.secs = x.secs ∨ w.secs = y.secs := by
        rw [← hw]
        unfold jn tie minP
        split
        · exact .inr rfl
        · split
          · exact .inl rfl
          · show (if _ then y.secs else x.secs) = _ ∨ _
            split
            · exact .inr rfl
            · exact .inl rfl
      rcases this with q | q
      · exact ⟨x, List.mem_cons.mpr (.inl rfl), q.symm⟩
      · exact ⟨v, List.mem_cons.mpr (.inr hv), ev.trans q.symm⟩
theorem Rep.secs {r : Rack} {l : List Nat} {L : List (List Sec)} {d : Tab} (h : Rep r l L d) {e : Rack × Way} (he : e ∈ d) : e.2.secs ∈ L ∧ fin r l e.2.secs = e.1 := by
  have q := h.val e.1
  rw [look_mem h.nd he] at q
  obtain ⟨v, hv, ev⟩ := sm_mem q.symm
  obtain ⟨p, hp, rfl⟩ := List.mem_map.mp hv
  have hp2 := List.mem_filter.mp hp
  have ev : p = e.2.secs := ev
  rw [← ev]
  exact ⟨hp2.1, of_decide_eq_true hp2.2⟩
end Wrp

end
section
set_option Elab.async false
set_option linter.all false
namespace Wrp
open L2
/-! ### how many racks there can be -/
def Dig (l : List Nat) : Prop := ∀ n ∈ l, n ≤ 9
theorem Dig.append {a b : List Nat} (h : Dig a) (g : Dig b) : Dig (a ++ b) := fun n hn => (List.mem_append.mp hn).elim (h n) (g n)
theorem Dig.take {a : List Nat} (h : Dig a) (k : Nat) : Dig (a.take k) := fun n hn => h n (List.mem_of_mem_take hn)
theorem Dig.drop {a : List Nat} (h : Dig a) (k : Nat) : Dig (a.drop k) := fun n hn => h n (List.mem_of_mem_drop hn)
theorem Dig.rev {a : List Nat} (h : Dig a) : Dig a.reverse := fun n hn => h n (List.mem_reverse.mp hn)
theorem Dig.wanted {l : List Nat} (h : Dig l) (s : Sec) : Dig (Sw88.wanted s l) := by
  unfold Sw88.wanted
  split
  · exact (h.take _).rev
  · exact h.take _
theorem Dig.put {r w : List Nat} (h : Dig r) (g : Dig w) : Dig (Sw88.put r w) := g.append (h.drop _)
def code : List Nat → Nat
  | [] => 0
  | d :: k => (d + 1) + 11 * code k
theorem code_inj : ∀ {a b : List Nat}, Dig a → Dig b → code a = code b → a = b
  | [], [], _, _, _ => rfl
  | [], d :: k, _, _, h => by have h : 0 = (d + 1) + 11 * code k := h; omega
  | d :: k, [], _, _, h => by have h : (d + 1) + 11 * code k = 0 := h; omega
  | d :: k, e :: m, ha, hb, h => by
    have h : (d + 1) + 11 * code k = (e + 1) + 11 * code m := h
    have h1 := ha d (List.mem_cons.mpr (.inl rfl))
    have h2 := hb e (List.mem_cons.mpr (.inl rfl))
    have e1 : d = e := by omega
    have e2 : code k = code m := by omega
    rw [e1, code_inj (fun n hn => ha n (List.mem_cons.mpr (.inr hn))) (fun n hn => hb n (List.mem_cons.mpr (.inr hn))) e2]
theorem code_lt : ∀ {a : List Nat} (n : Nat), Dig a → a.length ≤ n → code a < 11 ^ n
  | [], n, _, _ => Nat.pow_pos (by decide)
  | d :: k, 0, _, h => by simp at h
  | d :: k, n + 1, ha, h => by
    have h1 := ha d (List.mem_cons.mpr (.inl rfl))
    have h2 := code_lt n (fun m hm => ha m (List.mem_cons.mpr (.inr hm))) (by simpa using h)
    show (d + 1) + 11 * code k < 11 ^ n * 11
    omega
theorem few_nats {L : List Nat} {n : Nat} (h : L.Nodup) (hl : ∀ x ∈ L, x < n) : L.length ≤ n := by
  have hp : L.Perm ((List.range n).filter fun x => decide (x ∈ L)) := (List.perm_ext_iff_of_nodup h (List.nodup_range.filter _)).mpr fun x => by
    rw [List.mem_filter, List.mem_range, decide_eq_true_iff]
    exact ⟨fun hx => ⟨hl x hx, hx⟩, fun hx => hx.2⟩
  rw [hp.length_eq]
  have := List.length_filter_le (fun x => decide (x ∈ L)) (List.range n)
  rw [List.length_range] at this
  exact this
theorem few_racks {ks : List (List Nat)} (h : ks.Nodup) (hk : ∀ k ∈ ks, k.length ≤ 4 ∧ Dig k) : ks.length ≤ 14641 := by
  have hn : (ks.map code).Nodup := by
    unfold List.Nodup
    rw [List.pairwise_map]
    exact (List.Pairwise.and_mem.mp h).imp fun {a b} hab e => hab.2.2 (code_inj (hk a hab.1).2 (hk b hab.2.1).2 e)
  have := few_nats (n := 11 ^ 4) hn fun x hx => by
    obtain ⟨k, hk', rfl⟩ := List.mem_map.mp hx
    exact code_lt 4 (hk k hk').2 (hk k hk').1
  rw [List.length_map] at this
  exact this
/-- the racks of a table, and its ways' sections -/
structure Good (pegs n : Nat) (d : Tab) : Prop where
  nd : (d.map (·.1)).Nodup
  it : ∀ e ∈ d, e.1.length = pegs ∧ Dig e.1 ∧ e.2.secs.length ≤ n
theorem Good.few {pegs n : Nat} {d : Tab} (h : Good pegs n d) (h4 : pegs ≤ 4) : d.length ≤ 14641 := by
  have := few_racks h.nd fun k hk => by
    obtain ⟨e, he, rfl⟩ := List.mem_map.mp hk
    exact ⟨by rw [(h.it e he).1]; exact h4, (h.it e he).2.1⟩
  rw [List.length_map] at this
  exact this
theorem Good.nil (pegs n : Nat) : Good pegs n [] := ⟨List.nodup_nil, fun e he => nomatch he⟩
theorem mem_put {d : Tab} {k : Rack} {v : Way} {e : Rack × Way} (h : e ∈ putD d k v) : e ∈ d ∨ e = (k, v) := by
  unfold putD at h
  split at h
  · obtain ⟨x, hx, rfl⟩ := List.mem_map.mp h
    split
    · next hk => exact .inr (by rw [hk])
    · exact .inl hx
  · rcases List.mem_append.mp h with h | h
    · exact .inl h
    · exact .inr (List.mem_singleton.mp h)
theorem look_some {d : Tab} {k : Rack} {w : Way} (h : look d k = some w) : ∃ e ∈ d, e.2 = w := by
  unfold look at h
  rw [Option.map_eq_some_iff] at h
  obtain ⟨e, he, rfl⟩ := h
  exact ⟨e, List.mem_of_find?_eq_some he, rfl⟩
theorem jn_secs_le {a b : Way} {n : Nat} (h1 : a.secs.length ≤ n) (h2 : b.secs.length ≤ n) : (jn a b).secs.length ≤ n := by
  unfold jn
  by_cases g1 : b.lt a
  · rw [if_pos g1]; exact h2
  · rw [if_neg g1]
    by_cases g2 : a.lt b
    · rw [if_pos g2]; exact h1
    · rw [if_neg g2, tie_len (tie_eq g1 g2).2]; exact h1
theorem Good.one1 {pegs n m : Nat} {found : Tab} {w : List Nat} {s : Sec} {e : Rack × Way} (h : Good pegs n found) (he : e.1.length = pegs ∧ Dig e.1 ∧ e.2.secs.length ≤ m) (hm : m + 1 ≤ n) (hw : w.length ≤ pegs) (hd : Dig w) : Good pegs n (one w s found e) := by
  refine ⟨nodup_put _ _ h.nd, fun x hx => ?_⟩
  rcases mem_put hx with hx | hx
  · exact h.it x hx
  · subst hx
    refine ⟨(put_length (by rw [he.1]; exact hw)).trans he.1, he.2.1.put hd, ?_⟩
    have hs : (snoc (Sw88.changes e.1 w) s e.2).secs.length ≤ n := by
      show (e.2.secs ++ [s]).length ≤ n
      rw [List.length_append]
      have : e.2.secs.length ≤ m := he.2.2
      show e.2.secs.length + 1 ≤ n
      omega
    show (jo (look found (Sw88.put e.1 w)) _).secs.length ≤ n
    cases q : look found (Sw88.put e.1 w) with
    | none => exact hs
    | some k =>
      obtain ⟨x, hx, rfl⟩ := look_some q
      exact jn_secs_le (h.it x hx).2.2 hs
theorem Good.fold {pegs n m : Nat} {w : List Nat} {s : Sec} (hm : m + 1 ≤ n) (hw : w.length ≤ pegs) (hd : Dig w) : ∀ (d found : Tab), (∀ e ∈ d, e.1.length = pegs ∧ Dig e.1 ∧ e.2.secs.length ≤ m) → Good pegs n found → Good pegs n (d.foldl (one w s) found)
  | [], found, _, h => h
  | e :: d, found, he, h => Good.fold hm hw hd d _ (fun x hx => he x (List.mem_cons.mpr (.inr hx))) (h.one1 (he e (List.mem_cons.mpr (.inl rfl))) hm hw hd)
/-- the layers: table m stands for all plans of m threads -/
structure Lay (r : Rack) (l : List Nat) (ds : List Tab) : Prop where
  rep : ∀ m d, ds[m]? = some d → ∃ L, All r.length m L ∧ Rep r l L d
  good : ∀ m d, ds[m]? = some d → Good r.length m d
def layerD (pegs : Nat) (l : List Nat) (n : Nat) (ds : List Tab) : Tab :=
  (Sw88.sections (min n pegs)).foldl (fun f s => (ds.getD (n - s.long) []).foldl (one (Sw88.wanted s (l.drop (n - s.long))) s) f) []
theorem Lay.start {r : Rack} {l : List Nat} (hr : Dig r) : Lay r l [[(r, ⟨0, [], 1⟩)]] := by
  constructor
  · intro m d h
    match m, h with
    | 0, h =>
      have e : [(r, (⟨0, [], 1⟩ : Way))] = d := Option.some.inj h
      subst e
      exact ⟨[[]], All.zero _, Rep.start r l⟩
    | m + 1, h => simp at h
  · intro m d h
    match m, h with
    | 0, h =>
      have e : [(r, (⟨0, [], 1⟩ : Way))] = d := Option.some.inj h
      subst e
      refine ⟨List.nodup_cons.mpr ⟨List.not_mem_nil, List.nodup_nil⟩, fun e he => ?_⟩
      rw [List.mem_singleton.mp he]
      exact ⟨rfl, hr, Nat.le_refl _⟩
    | m + 1, h => simp at h
theorem getD_of {ds : List Tab} {m : Nat} (h : m < ds.length) : ds[m]? = some (ds.getD m []) := by
  rw [List.getD_eq_getElem?_getD, List.getElem?_eq_getElem h]
  rfl
/-- the choices so far -/
theorem Good.choices {r : Rack} {l : List Nat} {ds : List Tab} {n : Nat} (h : Lay r l ds) (hn : ds.length = n) (hl : n ≤ l.length) (hdl : Dig l) : ∀ (ss : List Sec) (found : Tab), (∀ s ∈ ss, s ∈ Sw88.sections (min n r.length)) → Good r.length n found →
    Good r.length n (ss.foldl (fun f s => (ds.getD (n - s.long) []).foldl (one (Sw88.wanted s (l.drop (n - s.long))) s) f) found)
  | [], found, _, hf => hf
  | s :: ss, found, hs, hf => by
    have a := sec_mem.mp (hs s (List.mem_cons.mpr (.inl rfl)))
    have hm : n - s.long < ds.length := by omega
    have hg := h.good (n - s.long) _ (getD_of hm)
    refine Good.choices h hn hl hdl ss _ (fun t ht => hs t (List.mem_cons.mpr (.inr ht))) (Good.fold (m := n - s.long) (by omega) ?_ ((hdl.drop _).wanted s) _ _ hg.it hf)
    rw [wanted_length (by rw [List.length_drop]; omega)]
    omega
theorem Lay.step {r : Rack} {l : List Nat} {ds : List Tab} {n : Nat} (h : Lay r l ds) (h4 : r.length ≤ 4) (hn : ds.length = n) (h1 : 1 ≤ n) (hl : n ≤ l.length) (hdl : Dig l) : Lay r l (ds ++ [layerD r.length l n ds]) := by
  have ch : ∀ m : Nat, ∃ L : List (List Sec), m < n → All r.length m L ∧ Rep r l L (ds.getD m []) := fun m => by
    by_cases hm : m < n
    · obtain ⟨L, h⟩ := h.rep m _ (getD_of (by rw [hn]; exact hm))
      exact ⟨L, fun _ => h⟩
    · exact ⟨[], fun z => absurd z hm⟩
  let Ls : Nat → List (List Sec) := fun m => (ch m).choose
  have hLs : ∀ m, m < n → All r.length m (Ls m) ∧ Rep r l (Ls m) (ds.getD m []) := fun m => (ch m).choose_spec
  constructor
  · intro m d hd
    by_cases hm : m < ds.length
    · rw [List.getElem?_append_left hm] at hd
      exact h.rep m d hd
    · rw [List.getElem?_append_right (by omega)] at hd
      by_cases e : m = n
      · subst e
        rw [hn, Nat.sub_self] at hd
        have e : layerD r.length l m ds = d := Option.some.inj hd
        subst e
        refine ⟨_, All.grow h4 h1 Ls fun k hk => (hLs k hk).1, ?_⟩
        have q := grow_rep (n := m) (Ls := Ls) (ds := fun k => ds.getD k []) (Sw88.sections (min m r.length)) [] [] (fun s hs => ?_) (Rep.nil r l)
        · rw [List.nil_append] at q
          exact q
        · have a := sec_mem.mp hs
          have hk := hLs (m - s.long) (by omega)
          exact ⟨fun p hp => ((hk.1.mem p).mp hp).2, hk.2⟩
      · rw [List.getElem?_eq_none (by simp; omega)] at hd
        cases hd
  · intro m d hd
    by_cases hm : m < ds.length
    · rw [List.getElem?_append_left hm] at hd
      exact h.good m d hd
    · rw [List.getElem?_append_right (by omega)] at hd
      by_cases e : m = n
      · subst e
        rw [hn, Nat.sub_self] at hd
        have e : layerD r.length l m ds = d := Option.some.inj hd
        subst e
        exact Good.choices h hn hl hdl _ [] (fun s hs => hs) (Good.nil _ _)
      · rw [List.getElem?_eq_none (by simp; omega)] at hd
        cases hd
def joinAll (d : Tab) : Option Way := d.foldl (fun a e => some (jo a e.2)) none
theorem joinAll_eq (d : Tab) : joinAll d = (d.map fun e => some e.2).foldl mg none := by
  have : ∀ (d : Tab) (a : Option Way), d.foldl (fun a e => some (jo a e.2)) a = (d.map fun e => some e.2).foldl mg a := fun d => by
    induction d with
    | nil => intro a; rfl
    | cons e d ih =>
      intro a
      rw [List.foldl_cons, ih, List.map_cons, List.foldl_cons, mg_jo]
  exact this d none
theorem plain_plan {pegs : Nat} (h : 1 ≤ pegs) : ∀ n : Nat, (∀ s ∈ List.replicate n (⟨1, false⟩ : Sec), s ∈ Sw88.sections pegs) ∧ total (List.replicate n (⟨1, false⟩ : Sec)) = n
  | 0 => ⟨(fun s hs => nomatch hs), rfl⟩
  | n + 1 => by
    obtain ⟨h1, h2⟩ := plain_plan h n
    refine ⟨fun s hs => ?_, ?_⟩
    · rw [List.eq_of_mem_replicate hs]
      exact sec_mem.mpr ⟨Nat.le_refl _, h, fun _ => rfl⟩
    · show 1 + total (List.replicate n (⟨1, false⟩ : Sec)) = n + 1
      omega
/-- the last table's ways, joined, are the best -/
theorem Lay.best {r : Rack} {l : List Nat} {ds : List Tab} {d : Tab} (h : Lay r l ds) (h1 : 1 ≤ r.length) (h4 : r.length ≤ 4) (hd : ds[l.length]? = some d) : ∃ w, joinAll d = some w ∧ Sw88.best r l = some (toBest w) ∧ w.secs.length ≤ l.length := by
  obtain ⟨L, hA, hR⟩ := h.rep _ _ hd
  have e := (joinAll_eq d).trans (values_sm hR)
  have hb := best_all h4 hA
  cases q : sm (L.map (single r l)) with
  | none =>
    have hp : List.replicate l.length (⟨1, false⟩ : Sec) ∈ L := (hA.mem _).mpr (plain_plan h1 l.length)
    exact absurd q (sm_some_of_mem (List.mem_map.mpr ⟨_, hp, rfl⟩))
  | some w =>
    rw [q] at e hb
    refine ⟨w, e, hb, ?_⟩
    obtain ⟨v, hv, ev⟩ := sm_mem q
    obtain ⟨p, hp, rfl⟩ := List.mem_map.mp hv
    rw [← ev]
    obtain ⟨m1, m2⟩ := (hA.mem p).mp hp
    have : ∀ p : List Sec, (∀ s ∈ p, s ∈ Sw88.sections r.length) → p.length ≤ total p := fun p => by
      induction p with
      | nil => intro _; exact Nat.le_refl _
      | cons s p ih =>
        intro hs
        have a := (sec_mem.mp (hs s (List.mem_cons.mpr (.inl rfl)))).1
        have b := ih fun t ht => hs t (List.mem_cons.mpr (.inr ht))
        show p.length + 1 ≤ s.long + total p
        omega
    have := this p m1
    show p.length ≤ l.length
    omega
end Wrp

end
section
set_option Elab.async false
set_option linter.all false
set_option maxRecDepth 100000
namespace Wrp
/-! ### runs; the colours, rising -/
theorem runs_snoc (x : Nat) : ∀ m : List Nat, Sw88.runs (m ++ [x]) = Sw88.runs m + (match m.getLast? with | none => 1 | some y => if y = x then 0 else 1)
  | [] => rfl
  | [a] => by
    show (if a = x then 0 else 1) + 1 = 1 + (if a = x then 0 else 1)
    omega
  | a :: b :: m => by
    have ih := runs_snoc x (b :: m)
    show (if a = b then 0 else 1) + Sw88.runs (b :: m ++ [x]) = (if a = b then 0 else 1) + Sw88.runs (b :: m) + _
    rw [ih, List.getLast?_cons_cons]
    omega
theorem runs_take {l : List Nat} {i : Nat} {x : Nat} (h : l[i]? = some x) : Sw88.runs (l.take (i + 1)) = Sw88.runs (l.take i) + (if i = 0 ∨ l[i - 1]? ≠ some x then 1 else 0) := by
  have hlt := (List.getElem?_eq_some_iff.mp h).1
  have et : l.take (i + 1) = l.take i ++ [x] := by rw [List.take_succ, h]; rfl
  rw [et, runs_snoc]
  congr 1
  cases i with
  | zero => rfl
  | succ i =>
    have e1 : (l.take (i + 1)).getLast? = l[i]? := by
      rw [List.getLast?_eq_getElem?, List.length_take, List.getElem?_take]
      have : min (i + 1) l.length - 1 = i := by omega
      rw [this, if_pos (by omega)]
    obtain ⟨y, hy⟩ : ∃ y, l[i]? = some y := ⟨_, List.getElem?_eq_getElem (by omega)⟩
    rw [e1, hy]
    show (if y = x then 0 else 1) = if (i + 1 = 0 ∨ l[i + 1 - 1]? ≠ some x) then 1 else 0
    rw [show i + 1 - 1 = i by omega, hy]
    by_cases e : y = x
    · rw [if_pos e, if_neg (by rw [e]; simp)]
    · rw [if_neg e, if_pos (by simp [e])]
theorem runs_le (l : List Nat) : Sw88.runs l ≤ l.length := by
  match l with
  | [] => exact Nat.le_refl _
  | [_] => exact Nat.le_refl _
  | a :: b :: l =>
    have := runs_le (b :: l)
    show (if a = b then 0 else 1) + Sw88.runs (b :: l) ≤ (b :: l).length + 1
    split <;> omega
/-- two rising lists with the same members are one -/
theorem rising_eq : ∀ {l m : List Int}, l.Pairwise (· < ·) → m.Pairwise (· < ·) → (∀ k, k ∈ l ↔ k ∈ m) → l = m
  | [], [], _, _, _ => rfl
  | [], b :: m, _, _, h => by
    have := (h b).mpr (List.mem_cons.mpr (.inl rfl))
    cases this
  | a :: l, [], _, _, h => by
    have := (h a).mp (List.mem_cons.mpr (.inl rfl))
    cases this
  | a :: l, b :: m, h1, h2, h => by
    rw [List.pairwise_cons] at h1 h2
    have e : a = b := by
      rcases List.mem_cons.mp ((h a).mp (List.mem_cons.mpr (.inl rfl))) with q | q
      · exact q
      · have q1 := h2.1 a q
        rcases List.mem_cons.mp ((h b).mpr (List.mem_cons.mpr (.inl rfl))) with r | r
        · omega
        · have r1 := h1.1 b r
          omega
    subst e
    have := rising_eq (l := l) (m := m) h1.2 h2.2 fun k => by
      constructor
      · intro hk
        rcases List.mem_cons.mp ((h k).mp (List.mem_cons.mpr (.inr hk))) with q | q
        · have := h1.1 k hk
          omega
        · exact q
      · intro hk
        rcases List.mem_cons.mp ((h k).mpr (List.mem_cons.mpr (.inr hk))) with q | q
        · have := h2.1 k hk
          omega
        · exact q
    rw [this]
def colsOf (l : List Nat) : List Nat := (List.range (Sw88.COLOURS + 1)).filter fun c => decide (0 < Sw88.ofColour l c)
theorem ofColour_pos (l : List Nat) (c : Nat) : 0 < Sw88.ofColour l c ↔ c ∈ l := by
  unfold Sw88.ofColour
  rw [List.length_pos_iff_exists_mem]
  constructor
  · rintro ⟨x, hx⟩
    rw [List.mem_filter] at hx
    have : x = c := by simpa using hx.2
    rw [← this]
    exact hx.1
  · intro h
    exact ⟨c, List.mem_filter.mpr ⟨h, by simp⟩⟩
theorem cols_eq {l : List Nat} (hd : ∀ n ∈ l, n ≤ 9) {ns : List Int} (h1 : ns.Nodup) (h2 : ∀ k, k ∈ ns ↔ k ∈ l.map fun (n : Nat) => (n : Int)) (h3 : ns.Pairwise (· ≤ ·)) : ns = (colsOf l).map fun (n : Nat) => (n : Int) := by
  refine rising_eq ?_ ?_ fun k => ?_
  · have h1' : ns.Pairwise (· ≠ ·) := h1
    exact (h1'.and h3).imp fun ⟨a, b⟩ => by omega
  · rw [List.pairwise_map]
    have : (colsOf l).Pairwise (· < ·) := List.Pairwise.sublist List.filter_sublist List.pairwise_lt_range
    exact this.imp fun h => by omega
  · rw [h2 k, List.mem_map, List.mem_map]
    constructor
    · rintro ⟨n, hn, e⟩
      refine ⟨n, ?_, e⟩
      unfold colsOf
      rw [List.mem_filter, List.mem_range]
      exact ⟨Nat.lt_succ_of_le (hd n hn), decide_eq_true ((ofColour_pos l n).mpr hn)⟩
    · rintro ⟨n, hn, e⟩
      refine ⟨n, ?_, e⟩
      unfold colsOf at hn
      rw [List.mem_filter] at hn
      exact (ofColour_pos l n).mp (of_decide_eq_true hn.2)
theorem count_cast (l : List Nat) (c : Nat) : ((l.map fun (n : Nat) => (n : Int)).filter fun n => n == (c : Int)).length = Sw88.ofColour l c := by
  unfold Sw88.ofColour
  induction l with
  | nil => rfl
  | cons a l ih =>
    rw [List.map_cons, List.filter_cons, List.filter_cons]
    by_cases e : a = c
    · have e1 : ((a : Int) == (c : Int)) = true := by simp [e]
      have e2 : (a == c) = true := by simp [e]
      rw [e1, e2, if_pos rfl, if_pos rfl, List.length_cons, List.length_cons, ih]
    · have e1 : ((a : Int) == (c : Int)) = false := by
        rw [beq_eq_false_iff_ne]
        omega
      have e2 : (a == c) = false := by simp [e]
      rw [e1, e2, if_neg Bool.false_ne_true, if_neg Bool.false_ne_true, ih]
/-- what is answered of some colours -/
def outC (l : List Nat) (cs : List Nat) : List Int := cs.flatMap fun (c : Nat) => [2, ((c : Nat) : Int), ((Sw88.ofColour l c : Nat) : Int)]
theorem outC_snoc (l cs : List Nat) (c : Nat) : outC l (cs ++ [c]) = outC l cs ++ [2, (c : Int), ((Sw88.ofColour l c : Nat) : Int)] := by
  unfold outC
  rw [List.flatMap_append, List.flatMap_singleton]
theorem outC_len (l : List Nat) : ∀ cs : List Nat, (outC l cs).length = 3 * cs.length
  | [] => rfl
  | c :: cs => by
    show (outC l cs).length + 1 + 1 + 1 = 3 * (cs.length + 1)
    rw [outC_len l cs]; omega
theorem colours_out (s : Sw88.Warp) : Sw88Neutral.out (Sw88.step s .colours).2 = ((Sw88.runs s.left : Nat) : Int) :: outC s.left (colsOf s.left) := by
  show _ :: (((colsOf s.left).map fun c => [c, Sw88.ofColour s.left c]).flatMap fun w => (w.length : Int) :: w.map fun (x : Nat) => (x : Int)) = _
  rw [List.flatMap_map]
  rfl
end Wrp

end
section
set_option Elab.async false
set_option linter.all false
set_option maxRecDepth 100000
set_option maxHeartbeats 2000000
namespace L2
open PySem PySem.Spec PyProof.Rows
/-- over the pairs of two tuples that the block leaves as they are -/
theorem lc_zipT {K : PySem.W.Frag} {a b : Addr} {xs ys : List V} {g : TG} {tt : TT} {te : TE} {vs : List Nat} {σ : St} {H1 : Hp} {D : Addr} {Qd : Hp → Prop} (Pv : Nat → Hp → Prop) (h0 : Pv 0 (upd H1 D (.lst [])))
    (hl : ∀ i H, i ≤ (xs.zip ys).length → Pv i H → SqT K H a xs ∧ SqT K H b ys)
    (hs : ∀ i x y H T, (xs.zip ys)[i]? = some (x, y) → Pv i H → H T = none → g (.ref T) (wipe σ vs) (upd H T (.tup [x, y])) fun σ2 H2 => wipe σ2 vs = wipe σ vs ∧ tt σ2 H2 fun b H3 =>
      if b = true then te σ2 H3 fun y H4 => ∃ acc, H4 D = some (.lst acc) ∧ acc.length < sizeLine ∧ Pv (i + 1) (upd H4 D (.lst (acc ++ [y]))) else Pv (i + 1) H3) (hd : ∀ H, Pv (xs.zip ys).length H → Qd H) :
    ∃ W : Nat → Nat → Hp → Prop, (∃ m, W 0 m (upd H1 D (.lst []))) ∧ ∀ i m H, W i m H →
      ((ItzT K a b).stop i H ∧ Qd H) ∨ ((ItzT K a b).go i H ∧ ∃ Nx : Hp → Prop, (∀ H', Nx H' → ∃ m', m' < m ∧ W (i + 1) m' H') ∧ ∀ x H', (ItzT K a b).yld i H x H' → g x (wipe σ vs) H' fun σ2 H2 => wipe σ2 vs = wipe σ vs ∧ tt σ2 H2 fun b H3 =>
        if b = true then te σ2 H3 fun y H4 => ∃ acc, H4 D = some (.lst acc) ∧ acc.length < sizeLine ∧ Nx (upd H4 D (.lst (acc ++ [y]))) else Nx H3) := by
  refine ⟨fun i m H => m = (xs.zip ys).length - i ∧ i ≤ (xs.zip ys).length ∧ Pv i H, ⟨(xs.zip ys).length, by simp, Nat.zero_le _, h0⟩, ?_⟩
  rintro i m H ⟨rfl, hi, p⟩
  obtain ⟨q1, q2⟩ := hl i H hi p
  by_cases hlt : i < (xs.zip ys).length
  · have l1 : i < xs.length := by rw [List.length_zip] at hlt; omega
    have l2 : i < ys.length := by rw [List.length_zip] at hlt; omega
    refine .inr ⟨⟨xs, ys, xs[i], ys[i], q1, q2, by simp [l1], by simp [l2]⟩, Pv (i + 1), fun H' p' => ⟨(xs.zip ys).length - (i + 1), by omega, rfl, hlt, p'⟩, fun x H' y => ?_⟩
    obtain ⟨T, x1, y1, rfl, hT, rfl, hx, hy⟩ := y
    refine hs i x1 y1 H T ?_ p hT
    rw [List.getElem?_zip_eq_some]
    exact ⟨hx xs q1, hy ys q2⟩
  · have e : i = (xs.zip ys).length := by omega
    subst e
    refine .inl ⟨⟨xs, ys, q1, q2, ?_⟩, hd H p⟩
    rw [List.length_zip]
    omega
end L2

namespace Wrp
open PySem PySem.Spec PyProof.Rows L2
open PySem.W (Codec)
def top (i : Nat) : Stmt := PySem.Challenge.pw_warpwinding_s01_answers.main.body.getD i (.Pass ⟨0, 0, 0, 0⟩)
def natT (l : List Nat) : List V := l.map fun (n : Nat) => V.int (n : Int)
theorem natT_length (l : List Nat) : (natT l).length = l.length := List.length_map _
theorem natT_drop (l : List Nat) (k : Nat) : (natT l).drop k = natT (l.drop k) := List.map_drop.symm
theorem natT_take (l : List Nat) (k : Nat) : (natT l).take k = natT (l.take k) := List.map_take.symm
theorem natT_append (l m : List Nat) : natT l ++ natT m = natT (l ++ m) := List.map_append.symm
theorem natT_reverse (l : List Nat) : (natT l).reverse = natT l.reverse := List.map_reverse.symm
def natK (l : List Nat) : List Key := l.map fun (n : Nat) => Sum.inl (n : Int)
theorem natK_kV (l : List Nat) : (natK l).map kV = natT l := by
  unfold natK natT
  rw [List.map_map]
  rfl
theorem natK_inj : ∀ {l m : List Nat}, natK l = natK m → l = m
  | [], [], _ => rfl
  | [], _ :: _, h => nomatch h
  | _ :: _, [], h => nomatch h
  | a :: l, b :: m, h => by
    have h1 : (Sum.inl (a : Int) : Key) = Sum.inl (b : Int) ∧ natK l = natK m := List.cons.inj h
    have e : (a : Int) = (b : Int) := Sum.inl.inj h1.1
    rw [natK_inj h1.2, show a = b by omega]
abbrev sWanted : Stmt := top 1
abbrev sBob : Stmt := top 2
abbrev sAfter : Stmt := top 3

/-- what the text's module has: Python's own names are not bound in it -/
structure Blt (mg : Str → Option Value) : Prop where
  len : mg "len" = none
  tup : mg "tuple" = none
  rev : mg "reversed" = none
  zip : mg "zip" = none
  rng : mg "range" = none
  min : mg "min" = none
  any : mg "any" = none
  lst : mg "list" = none
  srt : mg "sorted" = none
  st : mg "set" = none

def spWanted : Sp := fun vs H Q _ => ∃ (a : Addr) (xs : List V) (t : Int), vs = [.ref a, .int t] ∧ H a = some (.tup xs) ∧ (t = 1 → 0 < xs.length) ∧ MkT H (if t = 1 then xs.reverse else xs) Q
def spBob : Sp := fun vs H Q _ => ∃ (a b : Addr) (r w : List Nat), vs = [.ref a, .ref b] ∧ H a = some (.tup (natT r)) ∧ H b = some (.tup (natT w)) ∧ r.length ≤ 100 ∧ ∀ H', Same H H' → Q (.int (Sw88.changes r w : Nat)) H'
def spAfter : Sp := fun vs H Q _ => ∃ (a b : Addr) (r w : List Nat), vs = [.ref a, .ref b] ∧ H a = some (.tup (natT r)) ∧ H b = some (.tup (natT w)) ∧ r.length ≤ 100 ∧ w.length ≤ 100 ∧ MkT H (natT (Sw88.put r w)) Q

section
variable {P : Program} {w : World} {K : PySem.W.Frag} {mg : Str → Option Value} {base : Heap}
theorem scWanted : FnScope ["section", "turned"] ["section", "turned"] (defScope sWanted) := ⟨rfl, rfl, rfl, by decide +kernel, rfl, by decide +kernel, by decide +kernel⟩
theorem ok_wanted {f : Addr} {fd : FuncData} (F : Fun K "colours_wanted" "colours_wanted" sWanted f fd) (B : Blt mg) : FnOk P w K mg base CX0 1 f fd ["section", "turned"] spWanted := by
  refine F.ok scWanted (fun vs H Q E h => ?_) (fun cdv A outer s H vs Q E hr h => ?_)
  · obtain ⟨a, xs, t, rfl, _⟩ := h
    rfl
  · obtain ⟨a, xs, t, rfl, ha, h0, k⟩ := h
    refine ⟨_, pss_cons (ps_if (pt_cmpR op_eq (pv 1) pe_int (nomark _)) (pss_one (ps_ret (pe_revT rfl rfl B.tup rfl B.rev (pv 0)))) pss_nil) (pss_one (ps_ret (pv 0))), ?_⟩
    refine ⟨_, rfl, rfl, _, rfl, ite2 (fun c => ?_) (fun c => ?_)⟩
    · have ht : t = 1 := V.int.inj (of_decide_eq_true c)
      rw [if_pos ht] at k
      exact ⟨_, rfl, a, xs, rfl, ha, h0 ht, k⟩
    · rw [if_neg (fun e => c (decide_eq_true (congrArg V.int e)))] at k
      exact ⟨_, rfl, k a H ha (Same.refl H)⟩
theorem scAfter : FnScope ["pegs", "wanted"] ["pegs", "wanted"] (defScope sAfter) := ⟨rfl, rfl, rfl, by decide +kernel, rfl, by decide +kernel, by decide +kernel⟩
theorem cut_from (xs : List V) (k : Nat) : cutV xs (some (k : Int)) none = xs.drop k := by
  unfold cutV
  rw [HT.sIx_nat, HT.sIx_none]
  by_cases h : k ≤ xs.length
  · rw [Nat.min_eq_left h, List.take_of_length_le (by rw [List.length_drop]; exact Nat.le_refl _)]
  · rw [Nat.min_eq_right (by omega), List.drop_of_length_le (Nat.le_refl _), List.drop_of_length_le (by omega), List.take_nil]
theorem ok_after {f : Addr} {fd : FuncData} (F : Fun K "pegs_after" "pegs_after" sAfter f fd) (B : Blt mg) : FnOk P w K mg base CX0 1 f fd ["pegs", "wanted"] spAfter := by
  refine F.ok scAfter (fun vs H Q E h => ?_) (fun cdv A outer s H vs Q E hr h => ?_)
  · obtain ⟨a, b, r, w, rfl, _⟩ := h
    rfl
  · obtain ⟨a, b, r, w, rfl, ha, hb, hr, hw, k⟩ := h
    refine ⟨_, pss_one (ps_ret (pe_op op_plusT (pv 1) (pe_slice sl_cutT (pv 0) (po_some (pe_callB call_len_seq (by rfl) B.len PySem.boot_len (pa_cons (pv 1) pa_nil))) po_none))), ?_⟩
    refine ⟨_, rfl, _, rfl, _, rfl, b, _, rfl, .inr (SqT.of hb), _, rfl, a, _, rfl, ha, fun c H' hc sm => ?_⟩
    have e : cutV (natT r) (some ((natT w).length : Int)) none = natT (r.drop w.length) := by
      rw [cut_from, natT_length, natT_drop]
    rw [e] at hc
    refine ⟨b, c, natT w, natT (r.drop w.length), rfl, rfl, sm _ _ hb, hc, ?_, fun d H'' hd sm' => ?_⟩
    · rw [natT_length, natT_length, List.length_drop, sizeLine_eq]
      omega
    · rw [natT_append] at hd
      exact k d H'' hd (sm.trans sm')
end
end Wrp
namespace Wrp
open PySem PySem.Spec PyProof.Rows L2
section
variable {P : Program} {w : World} {K : PySem.W.Frag} {mg : Str → Option Value} {base : Heap}
theorem pg_pair {X : Cx} {x y : Str} {i j k : Nat} {p1 p2 pos : Pos} (hc : X.calm = true) (hN : X.N.Nodup) (hi : X.N[i]? = some x) (hj : X.N[j]? = some y) (hx : Loc X.env.scope x) (hy : Loc X.env.scope y)
    (fx : X.fn x = true ∨ X.env.scope.names.lookup x = some .local) (fy : X.fn y = true ∨ X.env.scope.names.lookup y = some .local) :
    PG X (.Tuple [.Name x p1, .Name y p2] k pos) (gTup X.K 2 (gCons (gName i) (gCons (gName j) gNil))) :=
  pg_tup hc (pgs_cons (pg_name hN hi hx fx) (pgs_cons (pg_name hN hj hy fy) pgs_nil)) rfl rfl
theorem scBob : FnScope ["pegs", "wanted", "peg", "colour"] ["pegs", "wanted"] (defScope sBob) := ⟨rfl, rfl, rfl, by decide +kernel, rfl, by decide +kernel, by decide +kernel⟩
theorem zip_natT (r w : List Nat) : (natT r).zip (natT w) = (r.zip w).map fun p => (V.int (p.1 : Nat), V.int (p.2 : Nat)) := by
  unfold natT
  rw [List.zip_map]
  rfl
theorem ok_bob {f : Addr} {fd : FuncData} (F : Fun K "bobbins_put_on" "bobbins_put_on" sBob f fd) (B : Blt mg) : FnOk P w K mg base CX0 1 f fd ["pegs", "wanted"] spBob := by
  refine F.ok scBob (fun vs H Q E h => ?_) (fun cdv A outer s H vs Q E hr h => ?_)
  · obtain ⟨a, b, r, w, rfl, _⟩ := h
    rfl
  · obtain ⟨a, b, r, w, rfl, ha, hb, hl, k⟩ := h
    refine ⟨_, pss_one (ps_ret (pe_callB call_len_seq (by rfl) B.len PySem.boot_len (pa_cons (pe_lc (own := [("peg", 2), ("colour", 3)]) (g := gTup K 2 (gCons (gName 2) (gCons (gName 3) gNil))) rfl scBob.nd
      (pi_zipT (by rfl) B.zip (pa_cons (pv 0) (pa_cons (pv 1) pa_nil))) (blkOk_by (by rfl))
      (fun s H C cl fp => by apply pg_pair (i := 2) (j := 3) <;> first | rfl | exact scBob.nd | exact Or.inl rfl | exact Or.inr rfl)
      (fun s H C cl fp => pts_one (pt_cmpR op_ne (pv 2) (pv 3) (nomark _))) (fun s H C cl fp => pv 3)) pa_nil))), ?_⟩
    refine ⟨_, rfl, _, rfl, a, b, _, _, rfl, SqT.of ha, SqT.of hb, fun D hD => ?_⟩
    have s0 : Same H (upd H D (.lst [])) := Same.new hD
    refine lc_zipT (xs := natT r) (ys := natT w) (fun i H' => Same H H' ∧ H' D = some (.lst ((((r.zip w).take i).filter fun x => x.1 != x.2).map fun x => V.int (x.2 : Nat)))) ⟨s0, upd_same⟩
      (fun i H' _ p => ⟨SqT.of (p.1 _ _ ha), SqT.of (p.1 _ _ hb)⟩) ?_ ?_
    · rintro i x y H' T hi ⟨sm, hd⟩ hT
      rw [zip_natT, List.getElem?_map] at hi
      cases hz : (r.zip w)[i]? with
      | none => rw [hz] at hi; cases hi
      | some p =>
        rw [hz] at hi
        obtain ⟨rfl, rfl⟩ := Prod.mk.inj (Option.some.inj hi)
        have sm2 : Same H' (upd H' T (.tup [V.int (p.1 : Nat), V.int (p.2 : Nat)])) := Same.new hT
        have et : (r.zip w).take (i + 1) = (r.zip w).take i ++ [p] := by
          rw [List.take_succ, hz]
          rfl
        refine ⟨T, _, rfl, SqT.of upd_same, rfl, _, _, rfl, _, _, rfl, rfl, ?_, ?_⟩
        · rfl
        · have hd2 := sm2 _ _ hd
          refine ⟨_, rfl, _, rfl, rfl, _, rfl, ite2 (fun c => ?_) (fun c => ?_)⟩
          · have hne : (p.1 != p.2) = true := by
              rw [Bool.not_eq_true'] at c
              have c' := of_decide_eq_false c
              rw [bne_iff_ne]
              exact fun e => c' (by rw [e])
            refine ⟨_, rfl, _, hd2, ?_, ?_, ?_⟩
            · rw [List.length_map, sizeLine_eq]
              have l1 := List.length_filter_le (fun x : Nat × Nat => x.1 != x.2) ((r.zip w).take i)
              have l2 : ((r.zip w).take i).length ≤ r.length := by rw [List.length_take, List.length_zip]; omega
              omega
            · intro b o e
              rw [upd_ne (ne_of_none e hD)]
              exact sm2 _ _ (sm b o e)
            · rw [upd_same, et, List.filter_append, List.map_append, List.filter_cons, if_pos hne]
              rfl
          · have hne : ¬ (p.1 != p.2) = true := by
              rw [bne_iff_ne]
              intro q
              apply c
              rw [Bool.not_eq_true']
              exact decide_eq_false fun e => q (by have := V.int.inj e; omega)
            refine ⟨sm.trans sm2, ?_⟩
            rw [et, List.filter_append, List.filter_cons, if_neg hne, List.filter_nil, List.append_nil]
            exact hd2
    · rintro H' ⟨sm, hd⟩
      rw [zip_natT, List.length_map, List.take_length] at hd
      refine ⟨D, _, rfl, .inl (SqL.of hd), ?_⟩
      rw [List.length_map]
      exact k H' sm
end
end Wrp

end
section
set_option Elab.async false
set_option linter.all false
set_option maxRecDepth 100000
set_option maxHeartbeats 2000000
namespace Wrp
open PySem PySem.Spec PyProof.Rows L2
open PySem.W (Codec)
abbrev sWInit : Stmt := inClass (top 5) 0
abbrev sRank : Stmt := inClass (top 5) 1
abbrev sJoined : Stmt := top 6
abbrev sChoices : Stmt := top 7
/-- a Way's attributes -/
def wf (b : Int) (sa : Addr) (n : Int) : List (Str × V) := putF "plans" (.int n) (putF "sections" (.ref sa) (putF "bobbins" (.int b) []))
theorem wf_bob (b : Int) (sa : Addr) (n : Int) : (wf b sa n).lookup ("bobbins" : Str) = some (.int b) := by
  unfold wf
  rw [lookup_putF, if_neg (by decide +kernel), lookup_putF, if_neg (by decide +kernel), lookup_putF, if_pos rfl]
theorem wf_sec (b : Int) (sa : Addr) (n : Int) : (wf b sa n).lookup ("sections" : Str) = some (.ref sa) := by
  unfold wf
  rw [lookup_putF, if_neg (by decide +kernel), lookup_putF, if_pos rfl]
theorem wf_pl (b : Int) (sa : Addr) (n : Int) : (wf b sa n).lookup ("plans" : Str) = some (.int n) := by
  unfold wf
  rw [lookup_putF, if_pos rfl]
theorem wf_no (b : Int) (sa : Addr) (n : Int) {m : Str} (h1 : ¬ m = "plans") (h2 : ¬ m = "sections") (h3 : ¬ m = "bobbins") : (wf b sa n).lookup m = none := by
  unfold wf
  rw [lookup_putF, if_neg h1, lookup_putF, if_neg h2, lookup_putF, if_neg h3]
  rfl
/-- a plan's tuple, a Way that holds w -/
def PlanAt (H : Hp) (sa : Addr) (p : List Sec) : Prop := ∃ as : List Addr, H sa = some (.tup (as.map V.ref)) ∧ PrsH H as (prs p)
def WayAt (C : Addr) (H : Hp) (a : Addr) (w : Way) : Prop := ∃ dx sa, H a = some (.ins C dx (wf (w.bob : Nat) sa (w.plans : Nat))) ∧ PlanAt H sa w.secs
/-- tuples and instances stay -/
def Kp (H H' : Hp) : Prop := (∀ b xs, H b = some (.tup xs) → H' b = some (.tup xs)) ∧ ∀ b C dx fs, H b = some (.ins C dx fs) → H' b = some (.ins C dx fs)
theorem Kp.of {H H' : Hp} (h : Same H H') : Kp H H' := ⟨fun b xs e => h b _ e, fun b C dx fs e => h b _ e⟩
theorem Kp.refl (H : Hp) : Kp H H := Kp.of (Same.refl H)
theorem Kp.trans {H H1 H2 : Hp} (a : Kp H H1) (b : Kp H1 H2) : Kp H H2 := ⟨fun c xs e => b.1 c xs (a.1 c xs e), fun c C dx fs e => b.2 c C dx fs (a.2 c C dx fs e)⟩
theorem prs_mono {H H' : Hp} (k : Kp H H') {as : List Addr} {ps : List II} (h : PrsH H as ps) : PrsH H' as ps := Paired.mapP h fun a p e => k.1 _ _ e
theorem PlanAt.mono {H H' : Hp} (k : Kp H H') {sa : Addr} {p : List Sec} (h : PlanAt H sa p) : PlanAt H' sa p := let ⟨as, h1, h2⟩ := h; ⟨as, k.1 _ _ h1, prs_mono k h2⟩
theorem WayAt.mono {C : Addr} {H H' : Hp} (k : Kp H H') {a : Addr} {w : Way} (h : WayAt C H a w) : WayAt C H' a w := let ⟨dx, sa, h1, h2⟩ := h; ⟨dx, sa, k.2 _ _ _ _ h1, h2.mono k⟩
theorem PlanAt.len {H : Hp} {sa : Addr} {p : List Sec} (h : PlanAt H sa p) : ∃ xs : List V, H sa = some (.tup xs) ∧ xs.length = p.length := by
  obtain ⟨as, h1, h2⟩ := h
  refine ⟨_, h1, ?_⟩
  have e := Paired.length h2
  unfold prs at e
  rw [List.length_map] at e
  rw [List.length_map]
  exact e
structure TxtW (K : PySem.W.Frag) (mg : Str → Option Value) (C : Addr) : Prop where
  cl : Cls K C
  nB : NoAttr K C "bobbins"
  nS : NoAttr K C "sections"
  nP : NoAttr K C "plans"
  mgC : mg "Way" = some (.ref C)
def spWInit (C : Addr) : Sp := fun vs H Q _ => ∃ (p dx : Addr) (b : Int) (sa : Addr) (n : Int), vs = [.ref p, .int b, .ref sa, .int n] ∧ H p = some (.ins C dx []) ∧
  ∀ H' : Hp, H' p = some (.ins C dx (wf b sa n)) → (∀ b o, H b = some o → b ≠ p → H' b = some o) → Q .non H'
def spRank (C : Addr) : Sp := fun vs H Q _ => ∃ (a : Addr) (w : Way), vs = [.ref a] ∧ WayAt C H a w ∧ MkT H [.int (w.bob : Nat), .int (w.secs.length : Nat)] Q
/-- what is known: None, or a Way -/
def KnownAt (C : Addr) (H : Hp) : V → Option Way → Prop
  | .non, none => True
  | .ref a, some w => WayAt C H a w
  | _, _ => False
def spJoined (C : Addr) : Sp := fun vs H Q _ => ∃ (v : V) (o : Option Way) (b : Addr) (w : Way), vs = [v, .ref b] ∧ KnownAt C H v o ∧ WayAt C H b w ∧ ∀ c H', WayAt C H' c (jo o w) → Same H H' → Q (.ref c) H'
section
variable {P : Program} {w : World} {K : PySem.W.Frag} {mg : Str → Option Value} {base : Heap}
theorem scWInit : FnScope ["self", "bobbins", "sections", "plans"] ["self", "bobbins", "sections", "plans"] (defScope sWInit) := ⟨rfl, rfl, rfl, by decide +kernel, rfl, by decide +kernel, by decide +kernel⟩
theorem ok_winit {f C : Addr} {fd : FuncData} (F : Fun K "__init__" "Way.__init__" sWInit f fd) (T : TxtW K mg C) : FnOk P w K mg base CX0 1 f fd ["self", "bobbins", "sections", "plans"] (spWInit C) := by
  refine F.ok scWInit (fun vs H Q E h => ?_) (fun cdv A outer s H vs Q E hr h => ?_)
  · obtain ⟨p, dx, b, sa, n, rfl, _⟩ := h
    rfl
  · obtain ⟨p, dx, b, sa, n, rfl, hp, k⟩ := h
    refine ⟨_, pss_cons (ps_fld (pv 0) (pv 1) rfl) (pss_cons (ps_fld (pv 0) (pv 2) rfl) (pss_one (ps_fld (pv 0) (pv 3) rfl))), ?_⟩
    refine ⟨_, rfl, _, rfl, p, C, dx, [], rfl, hp, T.cl, T.nB, (by show 0 < 1000; decide), ?_⟩
    refine ⟨_, rfl, _, rfl, p, C, dx, _, rfl, upd_same, T.cl, T.nS, (by show 1 < 1000; decide), ?_⟩
    refine ⟨_, rfl, _, rfl, p, C, dx, _, rfl, upd_same, T.cl, T.nP, (by show 2 < 1000; decide), ?_⟩
    exact k _ upd_same fun b o e hb => by rw [upd_ne hb, upd_ne hb, upd_ne hb]; exact e
theorem scRank : FnScope ["self"] ["self"] (defScope sRank) := ⟨rfl, rfl, rfl, by decide +kernel, rfl, by decide +kernel, by decide +kernel⟩
theorem ok_rank {f C : Addr} {fd : FuncData} (F : Fun K "rank" "Way.rank" sRank f fd) (T : TxtW K mg C) (B : Blt mg) : FnOk P w K mg base CX0 1 f fd ["self"] (spRank C) := by
  refine F.ok scRank (fun vs H Q E h => ?_) (fun cdv A outer s H vs Q E hr h => ?_)
  · obtain ⟨a, w, rfl, _⟩ := h
    rfl
  · obtain ⟨a, w, rfl, ⟨dx, sa, h1, hpl⟩, k⟩ := h
    obtain ⟨xs, hx, hlen⟩ := hpl.len
    refine ⟨_, pss_one (ps_ret (pe_tup (pa_cons (pe_fld (pv 0) rfl) (pa_cons (pe_callB call_len_seq (by rfl) B.len PySem.boot_len (pa_cons (pe_fld (pv 0) rfl) pa_nil)) pa_nil)))), ?_⟩
    refine ⟨_, rfl, a, C, dx, _, _, rfl, h1, T.cl, T.nB, wf_bob _ _ _, _, rfl, a, C, dx, _, _, rfl, h1, T.cl, T.nS, wf_sec _ _ _, sa, xs, rfl, .inr (SqT.of hx), ?_⟩
    rw [hlen]
    exact ⟨by show 2 ≤ sizeLine; decide, k.new⟩
theorem rank_lt (a b : Way) : HT.lexLt [((a.bob : Nat) : Int), ((a.secs.length : Nat) : Int)] [((b.bob : Nat) : Int), ((b.secs.length : Nat) : Int)] = decide (a.lt b) := by
  by_cases h : a.lt b
  · rw [decide_eq_true h]
    exact (ltII_iff (((a.bob : Nat) : Int), ((a.secs.length : Nat) : Int)) (((b.bob : Nat) : Int), ((b.secs.length : Nat) : Int))).mpr (by unfold Way.lt at h; simp only; omega)
  · rw [decide_eq_false h]
    cases e : HT.lexLt [((a.bob : Nat) : Int), ((a.secs.length : Nat) : Int)] [((b.bob : Nat) : Int), ((b.secs.length : Nat) : Int)] with
    | false => rfl
    | true =>
      have := (ltII_iff (((a.bob : Nat) : Int), ((a.secs.length : Nat) : Int)) (((b.bob : Nat) : Int), ((b.secs.length : Nat) : Int))).mp e
      exact absurd (show a.lt b by unfold Way.lt; simp only at this; omega) h
/-- a Way made anew -/
theorem way_made {C x dx : Addr} {H H1 : Hp} {b n : Nat} {sa : Addr} {p : List Sec} (nx : H x = none) (nd : H dx = none) (h : H1 x = some (.ins C dx (wf (b : Nat) sa (n : Nat)))) (k : ∀ c o, (upd (upd H dx (.own x)) x (.ins C dx [])) c = some o → c ≠ x → H1 c = some o)
    (hp : PlanAt H sa p) : WayAt C H1 x ⟨b, p, n⟩ ∧ Same H H1 := by
  have sm : Same H H1 := Same.made nx nd k
  exact ⟨⟨dx, sa, h, hp.mono (Kp.of sm)⟩, sm⟩
theorem room_un {k : Nat} {A : Around} (hr : Room k A) : A.units + 2 < cLine := by have := hr.un; omega
theorem room_un0 {k : Nat} {A : Around} (hr : Room k A) : A.units < cLine := by have := hr.un; omega
theorem boot_minR : bootBuiltins "min" = some (.builtin "min") := by decide +kernel
theorem boot_anyR : bootBuiltins "any" = some (.builtin "any") := by decide +kernel
theorem scJoined : FnScope ["known", "further", "sections"] ["known", "further"] (defScope sJoined) := ⟨rfl, rfl, rfl, by decide +kernel, rfl, by decide +kernel, by decide +kernel⟩
theorem ok_joined {f C fI fR : Addr} {fd fdI fdR : FuncData} (F : Fun K "joined" "joined" sJoined f fd) (T : TxtW K mg C) (B : Blt mg) (M : Mk K C fI) (FI : Fun K "__init__" "Way.__init__" sWInit fI fdI)
    (bI : Binds K fdI ["self", "bobbins", "sections", "plans"] []) (FR : Fun K "rank" "Way.rank" sRank fR fdR) (bR : Binds K fdR ["self"] []) (mR : Meth K C "rank" fR) : FnOk P w K mg base CX0 3 f fd ["known", "further"] (spJoined C) := by
  have GI : FnOk P w K mg base CX0 1 fI fdI ["self", "bobbins", "sections", "plans"] (spWInit C) := ok_winit FI T
  have GR : FnOk P w K mg base CX0 1 fR fdR ["self"] (spRank C) := ok_rank FR T B
  refine F.ok scJoined (fun vs H Q E h => ?_) (fun cdv A outer s H vs Q E hr h => ?_)
  · obtain ⟨v, o, b, w, rfl, _⟩ := h
    rfl
  · obtain ⟨v, o, b, w, rfl, hv, hb, k⟩ := h
    have hr1 : Room 1 _ := hr.mono (by decide)
    refine ⟨_, pss_cons (ps_if (PW.pt (pw_or (pt_cmpR op_isN (pv 0) pe_non (nomark _)) (pw_or1 (pt_cmpR (op_ltT (room_un0 hr)) (pe_meth0 (pv 1) T.cl mR GR hr1 bR .nil pass0 rfl) (pe_meth0 (pv 0) T.cl mR GR hr1 bR .nil pass0 rfl) (nomark _)))))
        (pss_one (ps_ret (pv 1))) pss_nil)
      (pss_cons (ps_if (pt_cmpR (op_ltT (room_un0 hr)) (pe_meth0 (pv 0) T.cl mR GR hr1 bR .nil pass0 rfl) (pe_meth0 (pv 1) T.cl mR GR hr1 bR .nil pass0 rfl) (nomark _)) (pss_one (ps_ret (pv 0))) pss_nil)
      (pss_cons (ps_set (i := 2) scJoined.nd rfl (Or.inl rfl) (pe_callB (call_minT rfl (room_un hr)) (by rfl) B.min boot_minR (pa_cons (pe_fld (pv 0) rfl) (pa_cons (pe_fld (pv 1) rfl) pa_nil))))
      (pss_one (ps_ret (pe_make M GI hr rfl T.mgC bI .nil pass0 (pa_cons (pe_fld (pv 0) rfl) (pa_cons (pv 2) (pa_cons (pe_op op_add (pe_fld (pv 0) rfl) (pe_fld (pv 1) rfl)) pa_nil)))))))), ?_⟩
    obtain ⟨dxb, sb, hb1, hbp⟩ := id hb
    match v, o, hv with
    | .non, none, _ =>
      refine ⟨_, rfl, rfl, _, rfl, ite2 (fun _ => ?_) (fun c => absurd (decide_eq_true rfl) c)⟩
      exact iteT ⟨_, rfl, k b H hb (Same.refl H)⟩
    | .ref a, some wa, ha =>
      obtain ⟨dxa, sa, ha1, hap⟩ := id (show WayAt C H a wa from ha)
      have ha : WayAt C H a wa := ha
      refine ⟨_, rfl, rfl, _, rfl, ite2 (fun c => absurd (of_decide_eq_true c) (fun z => nomatch z)) (fun _ => ?_)⟩
      refine ⟨_, rfl, b, dxb, _, rfl, hb1, wf_no _ _ _ (by decide +kernel) (by decide +kernel) (by decide +kernel), b, w, rfl, hb, fun c1 H1 hc1 s1 => ?_⟩
      refine ⟨_, rfl, a, dxa, _, rfl, s1 _ _ ha1, wf_no _ _ _ (by decide +kernel) (by decide +kernel) (by decide +kernel), a, wa, rfl, ha.mono (Kp.of s1), fun c2 H2 hc2 s2 => ?_⟩
      refine ⟨c1, c2, [((w.bob : Nat) : Int), ((w.secs.length : Nat) : Int)], [((wa.bob : Nat) : Int), ((wa.secs.length : Nat) : Int)], rfl, rfl, SqT.of (s2 _ _ hc1), SqT.of hc2, _, rfl, ?_⟩
      rw [rank_lt]
      have s12 := s1.trans s2
      refine ite2 (fun c => ?_) (fun c => ?_)
      · have hlt : w.lt wa := of_decide_eq_true c
        refine ⟨_, rfl, k b H2 ?_ s12⟩
        show WayAt C H2 b (jn wa w)
        rw [jn_lt1 hlt]
        exact hb.mono (Kp.of s12)
      · have hlt : ¬ w.lt wa := fun z => c (decide_eq_true z)
        have ha2 := ha.mono (Kp.of s12)
        have hb2 := hb.mono (Kp.of s12)
        refine ⟨_, rfl, a, dxa, _, rfl, s12 _ _ ha1, wf_no _ _ _ (by decide +kernel) (by decide +kernel) (by decide +kernel), a, wa, rfl, ha2, fun c3 H3 hc3 s3 => ?_⟩
        refine ⟨_, rfl, b, dxb, _, rfl, s3 _ _ (s12 _ _ hb1), wf_no _ _ _ (by decide +kernel) (by decide +kernel) (by decide +kernel), b, w, rfl, hb2.mono (Kp.of s3), fun c4 H4 hc4 s4 => ?_⟩
        refine ⟨c3, c4, [((wa.bob : Nat) : Int), ((wa.secs.length : Nat) : Int)], [((w.bob : Nat) : Int), ((w.secs.length : Nat) : Int)], rfl, rfl, SqT.of (s4 _ _ hc3), SqT.of hc4, _, rfl, ?_⟩
        rw [rank_lt]
        have s14 := (s12.trans s3).trans s4
        refine ite2 (fun c => ?_) (fun c => ?_)
        · have hlt2 : wa.lt w := of_decide_eq_true c
          refine ⟨_, rfl, k a H4 ?_ s14⟩
          show WayAt C H4 a (jn wa w)
          rw [jn_lt2 hlt2]
          exact ha.mono (Kp.of s14)
        · have hlt2 : ¬ wa.lt w := fun z => c (decide_eq_true z)
          obtain ⟨as, ea, pa⟩ := hap.mono (Kp.of s14)
          obtain ⟨bs, eb, pb⟩ := hbp.mono (Kp.of s14)
          refine ⟨_, rfl, a, C, dxa, _, _, rfl, s14 _ _ ha1, T.cl, T.nS, wf_sec _ _ _, _, rfl, b, C, dxb, _, _, rfl, s14 _ _ hb1, T.cl, T.nS, wf_sec _ _ _, sa, sb, as, bs, _, _, rfl, ea, eb, pa, pb, ?_⟩
          refine ⟨_, rfl, a, C, dxa, _, _, rfl, s14 _ _ ha1, T.cl, T.nB, wf_bob _ _ _, _, rfl, _, rfl, a, C, dxa, _, _, rfl, s14 _ _ ha1, T.cl, T.nP, wf_pl _ _ _, _, rfl, b, C, dxb, _, _, rfl, s14 _ _ hb1, T.cl, T.nP, wf_pl _ _ _, _, _, rfl, rfl, ?_⟩
          intro x dx nx nd ne
          have hm : PlanAt H4 (if lexP (prs w.secs) (prs wa.secs) = true then sb else sa) (minP wa.secs w.secs) := by
            unfold minP
            by_cases q : lexP (prs w.secs) (prs wa.secs) = true
            · rw [if_pos q, if_pos q]
              exact ⟨bs, eb, pb⟩
            · rw [if_neg q, if_neg q]
              exact ⟨as, ea, pa⟩
          refine ⟨x, dx, _, _, _, rfl, upd_same, fun H5 h5 k5 => ⟨rfl, ?_⟩⟩
          obtain ⟨hw, s5⟩ := way_made (b := wa.bob) (n := wa.plans + w.plans) nx nd (by rw [Int.natCast_add]; exact h5) k5 hm
          refine k x H5 ?_ (s14.trans s5)
          show WayAt C H5 x (jn wa w)
          rw [jn_tie hlt hlt2]
          exact hw
    | .non, some _, h => exact h.elim
    | .ref _, none, h => exact h.elim
    | .bl _, none, h => exact h.elim
    | .bl _, some _, h => exact h.elim
    | .int _, none, h => exact h.elim
    | .int _, some _, h => exact h.elim
    | .str _, none, h => exact h.elim
    | .str _, some _, h => exact h.elim
    | .byt _, none, h => exact h.elim
    | .byt _, some _, h => exact h.elim
    | .flt _, none, h => exact h.elim
    | .flt _, some _, h => exact h.elim
    | .ty _, none, h => exact h.elim
    | .ty _, some _, h => exact h.elim
end
end Wrp

end
section
set_option Elab.async false
set_option linter.all false
set_option maxRecDepth 100000
set_option maxHeartbeats 2000000
namespace Wrp
open PySem PySem.Spec PyProof.Rows L2
open PySem.W (Codec)
theorem sections_succ (n : Nat) : Sw88.sections (n + 2) = Sw88.sections (n + 1) ++ [⟨n + 2, false⟩, ⟨n + 2, true⟩] := by
  unfold Sw88.sections
  rw [List.range_succ, List.flatMap_append]
  show _ ++ ((if n + 1 = 0 then [(⟨1, false⟩ : Sec)] else [⟨n + 1 + 1, false⟩, ⟨n + 1 + 1, true⟩]) ++ []) = _
  rw [if_neg (by omega)]
  rfl
theorem Kp.put {H : Hp} {a : Addr} {o u : HO} (h : H a = some o) (h1 : ∀ xs, o ≠ .tup xs) (h2 : ∀ C dx fs, o ≠ .ins C dx fs) : Kp H (upd H a u) :=
  ⟨fun b xs e => by rw [upd_ne (fun z => by rw [z, h] at e; exact h1 xs (Option.some.inj e))]; exact e, fun b C dx fs e => by rw [upd_ne (fun z => by rw [z, h] at e; exact h2 C dx fs (Option.some.inj e))]; exact e⟩
theorem same_put {H0 H : Hp} {a : Addr} {u : HO} (s : Same H0 H) (h : H0 a = none) : Same H0 (upd H a u) := fun b o e => by
  rw [upd_ne (ne_of_none e h)]; exact s b o e
def spChoices : Sp := fun vs H Q _ => ∃ n : Nat, vs = [.int (n : Nat)] ∧ 1 ≤ n ∧ n ≤ 4 ∧ ∀ (a : Addr) (as : List Addr) (H' : Hp), H' a = some (.lst (as.map V.ref)) → PrsH H' as (prs (Sw88.sections n)) → Same H H' → Q (.ref a) H'
section
variable {P : Program} {w : World} {K : PySem.W.Frag} {mg : Str → Option Value} {base : Heap}
theorem scChoices : FnScope ["longest", "choices", "length"] ["longest"] (defScope sChoices) := ⟨rfl, rfl, rfl, by decide +kernel, rfl, by decide +kernel, by decide +kernel⟩
theorem sections_len : ∀ n : Nat, n ≤ 4 → (Sw88.sections n).length ≤ 7
  | 0, _ => by decide
  | 1, _ => by decide
  | 2, _ => by decide
  | 3, _ => by decide
  | 4, _ => by decide
  | n + 5, h => by omega
theorem paired_snoc {α β : Type} {G : α → β → Prop} {as : List α} {bs : List β} (h : Paired G as bs) {a : α} {b : β} (g : G a b) : Paired G (as ++ [a]) (bs ++ [b]) := Paired.snoc h g
theorem ok_choices {f : Addr} {fd : FuncData} (F : Fun K "section_choices" "section_choices" sChoices f fd) (B : Blt mg) : FnOk P w K mg base CX0 1 f fd ["longest"] spChoices := by
  refine F.ok scChoices (fun vs H Q E h => ?_) (fun cdv A outer s H vs Q E hr h => ?_)
  · obtain ⟨n, rfl, _⟩ := h
    rfl
  · obtain ⟨n, rfl, h1, h4, k⟩ := h
    refine ⟨_, pss_cons (ps_set (i := 1) scChoices.nd rfl (Or.inl rfl) (pe_lst (pa_cons (pe_tup (pa_cons pe_int (pa_cons pe_int pa_nil))) pa_nil)))
      (pss_cons (ps_for PassesOwn.never rfl (pi_range2 (by rfl) B.rng (pa_cons pe_int (pa_cons (pe_op op_add (pv 0) pe_int) pa_nil))) (pg_name (i := 2) scChoices.nd rfl (Or.inl rfl))
        (pss_cons (ps_expr (pe_bm PySem.F.plainAttrs_list PySem.F.slot_list_append PySem.F.type_list_append mt_append (pv 1) (pa_cons (pe_tup (pa_cons (pv 2) (pa_cons pe_int pa_nil))) pa_nil)))
        (pss_one (ps_expr (pe_bm PySem.F.plainAttrs_list PySem.F.slot_list_append PySem.F.type_list_append mt_append (pv 1) (pa_cons (pe_tup (pa_cons (pv 2) (pa_cons pe_int pa_nil))) pa_nil))))))
      (pss_one (ps_ret (pv 1)))), ?_⟩
    refine ⟨by show 2 ≤ sizeLine; decide, fun t ht => ⟨by show 1 ≤ sizeLine; decide, fun a ha => ?_⟩⟩
    have s1 : Same H (upd H t (.tup [.int 1, .int 0])) := Same.new ht
    have s2 := Same.new (o := .lst [.ref t]) ha
    have na : H a = none := s1.free ha
    refine ⟨_, rfl, _, _, rfl, rfl, 2, (n : Int) + 1, rfl, ⟨by omega, by omega, by omega, by omega⟩, ?_⟩
    have en : ((n : Int) + 1 - 2).toNat = n - 1 := by omega
    rw [en]
    refine for_range (lo := 2) (n := n - 1) (fun i σ H' => ∃ (v : Option V) (as : List Addr), σ = [some (.int (n : Nat)), some (.ref a), v] ∧ H' a = some (.lst (as.map V.ref)) ∧ PrsH H' as (prs (Sw88.sections (i + 1))) ∧ Same H H')
      ⟨none, [t], rfl, upd_same, ?_, s1.trans s2⟩ ?_ ?_
    · exact .cons (s2 _ _ upd_same) .nil
    · rintro i σ H' hi ⟨v, as, rfl, hl, hp, sm⟩
      have la : as.length ≤ 7 := by
        have e := Paired.length hp
        unfold prs at e
        rw [List.length_map] at e
        rw [e]
        exact sections_len _ (by omega)
      refine ⟨_, rfl, .inl ⟨rfl, _, SqL.of hl⟩, _, rfl, by show 2 ≤ sizeLine; decide, fun t1 ht1 => ?_⟩
      have q1 := Same.new (o := .tup [.int (2 + (i : Nat)), .int 0]) ht1
      refine ⟨a, _, _, rfl, rfl, q1 _ _ hl, (by rw [List.length_map, sizeLine_eq]; omega), ?_⟩
      have kp1 := Kp.put (u := .lst (as.map V.ref ++ [.ref t1])) (q1 _ _ hl) (fun xs => fun z => nomatch z) (fun _ _ _ => fun z => nomatch z)
      refine ⟨_, rfl, .inl ⟨rfl, _, SqL.of upd_same⟩, _, rfl, by show 2 ≤ sizeLine; decide, fun t2 ht2 => ?_⟩
      have nt2a : a ≠ t2 := ne_of_none upd_same ht2
      refine ⟨a, _, _, rfl, rfl, (by rw [upd_ne nt2a]; exact upd_same), (by rw [List.length_append, List.length_map, sizeLine_eq]; show as.length + 1 < _; omega), ?_⟩
      have q2 := Same.new (o := .tup [.int (2 + (i : Nat)), .int 1]) ht2
      have kp3 := Kp.put (u := .lst (as.map V.ref ++ [.ref t1] ++ [.ref t2])) (q2 _ _ upd_same) (fun xs => fun z => nomatch z) (fun _ _ _ => fun z => nomatch z)
      have kall := ((Kp.of q1).trans kp1).trans ((Kp.of q2).trans kp3)
      refine ⟨_, as ++ [t1] ++ [t2], rfl, ?_, ?_, ?_⟩
      · rw [upd_same, List.map_append, List.map_append]
        rfl
      · rw [sections_succ]
        have e : prs (Sw88.sections (i + 1) ++ [⟨i + 2, false⟩, ⟨i + 2, true⟩]) = prs (Sw88.sections (i + 1)) ++ [pr ⟨i + 2, false⟩] ++ [pr ⟨i + 2, true⟩] := by
          unfold prs
          rw [List.map_append, List.append_assoc]
          rfl
        rw [e]
        have ei : (2 : Int) + (i : Nat) = ((i + 2 : Nat) : Int) := by omega
        refine paired_snoc (paired_snoc (prs_mono kall hp) ?_) ?_
        · refine (((kp1.trans (Kp.of q2)).trans kp3)).1 t1 _ ?_
          rw [upd_same, ei]
          rfl
        · refine kp3.1 t2 _ ?_
          rw [upd_same, ei]
          rfl
      · exact same_put ((same_put (sm.trans q1) na).trans q2) na
    · rintro σ H' ⟨v, as, rfl, hl, hp, sm⟩
      have e : n - 1 + 1 = n := by omega
      rw [e] at hp
      exact ⟨_, rfl, k a as H' hl hp sm⟩
end
end Wrp

end
section
set_option Elab.async false
set_option linter.all false
set_option maxRecDepth 100000
set_option maxHeartbeats 4000000
namespace L2
open PySem PySem.Spec PyProof.Rows
/-- the turns over the pairs of a locked dict with tuple keys -/
theorem for_itemsT {d : Addr} {o : Obj} {kvs : List (List Key × V)} {g : TG} {tb : TS} {D : Ends} {σ : St} {H : Hp} (Pv : Nat → St → Hp → Prop) (h0 : Pv 0 σ H) (hl : ∀ i σ H, i ≤ kvs.length → Pv i σ H → H d = some (.frz o (.dT kvs)))
    (hs : ∀ i k v σ H T q, kvs[i]? = some (k, v) → Pv i σ H → H q = some (.tup (k.map kV)) → H T = none → g (.ref T) σ (upd H T (.tup [.ref q, v])) fun σ2 H2 => tb { D with nx := Pv (i + 1), ct := Pv (i + 1), bk := D.nx } σ2 H2) (hd : ∀ σ H, Pv kvs.length σ H → D.nx σ H) :
    ∃ W : Nat → Nat → St → Hp → Prop, (∃ m, W 0 m σ H) ∧ ∀ i m σ H, W i m σ H →
      ((ItiT d o kvs).stop i H ∧ D.nx σ H) ∨ ((ItiT d o kvs).go i H ∧ ∃ N : St → Hp → Prop, (∀ σ' H', N σ' H' → ∃ m', m' < m ∧ W (i + 1) m' σ' H') ∧ ∀ x H', (ItiT d o kvs).yld i H x H' → g x σ H' fun σ2 H2 => tb { D with nx := N, ct := N, bk := D.nx } σ2 H2) := by
  refine ⟨fun i m σ H => m = kvs.length - i ∧ i ≤ kvs.length ∧ Pv i σ H, ⟨kvs.length, by simp, Nat.zero_le _, h0⟩, ?_⟩
  rintro i m σ H ⟨rfl, hi, p⟩
  have q := hl i σ H hi p
  by_cases hlt : i < kvs.length
  · refine .inr ⟨⟨q, hlt⟩, Pv (i + 1), fun σ' H' p' => ⟨kvs.length - (i + 1), by omega, rfl, hlt, p'⟩, fun x H' y => ?_⟩
    obtain ⟨T, qa, k, v, e, hq, rfl, hT, rfl⟩ := y
    exact hs i k v σ H T qa e p hq hT
  · have e : i = kvs.length := by omega
    subst e
    exact .inl ⟨⟨q, Nat.le_refl _⟩, hd σ H p⟩
theorem for_valsT {d : Addr} {o : Obj} {kvs : List (List Key × V)} {g : TG} {tb : TS} {D : Ends} {σ : St} {H : Hp} (Pv : Nat → St → Hp → Prop) (h0 : Pv 0 σ H) (hl : ∀ i σ H, i ≤ kvs.length → Pv i σ H → H d = some (.frz o (.dT kvs)))
    (hs : ∀ i k v σ H, kvs[i]? = some (k, v) → Pv i σ H → g v σ H fun σ2 H2 => tb { D with nx := Pv (i + 1), ct := Pv (i + 1), bk := D.nx } σ2 H2) (hd : ∀ σ H, Pv kvs.length σ H → D.nx σ H) :
    ∃ W : Nat → Nat → St → Hp → Prop, (∃ m, W 0 m σ H) ∧ ∀ i m σ H, W i m σ H →
      ((ItdT d o kvs).stop i H ∧ D.nx σ H) ∨ ((ItdT d o kvs).go i H ∧ ∃ N : St → Hp → Prop, (∀ σ' H', N σ' H' → ∃ m', m' < m ∧ W (i + 1) m' σ' H') ∧ ∀ x H', (ItdT d o kvs).yld i H x H' → g x σ H' fun σ2 H2 => tb { D with nx := N, ct := N, bk := D.nx } σ2 H2) := by
  refine ⟨fun i m σ H => m = kvs.length - i ∧ i ≤ kvs.length ∧ Pv i σ H, ⟨kvs.length, by simp, Nat.zero_le _, h0⟩, ?_⟩
  rintro i m σ H ⟨rfl, hi, p⟩
  have q := hl i σ H hi p
  by_cases hlt : i < kvs.length
  · refine .inr ⟨⟨q, hlt⟩, Pv (i + 1), fun σ' H' p' => ⟨kvs.length - (i + 1), by omega, rfl, hlt, p'⟩, fun x H' y => ?_⟩
    obtain ⟨rfl, k, e⟩ := y
    exact hs i k x σ _ e p
  · have e : i = kvs.length := by omega
    subst e
    exact .inl ⟨⟨q, Nat.le_refl _⟩, hd σ H p⟩
end L2
namespace Wrp
open PySem PySem.Spec PyProof.Rows L2
open PySem.W (Codec)
abbrev sWays : Stmt := top 8
/-! ### a table's dict -/
def TabRel (C : Addr) (H : Hp) : List (List Key × V) → Tab → Prop := Paired fun kv e => kv.1 = natK e.1 ∧ ∃ a, kv.2 = .ref a ∧ WayAt C H a e.2
def TabAt (C : Addr) (H : Hp) (f : Addr) (d : Tab) : Prop := ∃ kvs, H f = some (.dT kvs) ∧ TabRel C H kvs d
theorem TabRel.mono {C : Addr} {H H' : Hp} (k : Kp H H') {kvs : List (List Key × V)} {d : Tab} (h : TabRel C H kvs d) : TabRel C H' kvs d :=
  Paired.mapP h fun _ _ ⟨e, a, ea, hw⟩ => ⟨e, a, ea, hw.mono k⟩
theorem TabRel.len {C : Addr} {H : Hp} {kvs : List (List Key × V)} {d : Tab} (h : TabRel C H kvs d) : kvs.length = d.length := Paired.length h
theorem TabRel.look {C : Addr} {H : Hp} {kvs : List (List Key × V)} {d : Tab} (h : TabRel C H kvs d) (k : Rack) : KnownAt C H ((valV kvs (natK k)).getD .non) (look d k) := by
  unfold TabRel at h
  induction h with
  | nil => trivial
  | @cons kv e kvs d hr t ih =>
    obtain ⟨e1, a, e2, hw⟩ := hr
    rw [look_cons]
    by_cases q : e.1 = k
    · rw [if_pos q, valV_pos (by rw [e1, q]), e2]
      exact hw
    · rw [if_neg q, valV_neg (fun z => q (natK_inj (e1.symm.trans z)))]
      exact ih
theorem TabRel.put {C : Addr} {H : Hp} {kvs : List (List Key × V)} {d : Tab} (h : TabRel C H kvs d) (k : Rack) {c : Addr} {w : Way} (hc : WayAt C H c w) : TabRel C H (putK kvs (natK k) (.ref c)) (putD d k w) := by
  have ea : (kvs.any fun kv => decide (kv.1 = natK k)) = (d.any fun e => decide (e.1 = k)) := by
    unfold TabRel at h
    induction h with
    | nil => rfl
    | @cons kv e kvs d hr t ih =>
      rw [List.any_cons, List.any_cons, ih]
      congr 1
      by_cases q : e.1 = k
      · rw [decide_eq_true q, decide_eq_true (by rw [hr.1, q])]
      · rw [decide_eq_false q, decide_eq_false (fun z => q (natK_inj (hr.1.symm.trans z)))]
  unfold putK putD
  rw [ea]
  by_cases q : (d.any fun e => decide (e.1 = k)) = true
  · rw [if_pos q, if_pos q]
    clear ea q
    unfold TabRel at h ⊢
    induction h with
    | nil => exact .nil
    | @cons kv e kvs d hr t ih =>
      rw [List.map_cons, List.map_cons]
      refine .cons ?_ ih
      by_cases q : e.1 = k
      · rw [if_pos q, if_pos (by rw [hr.1, q])]
        exact ⟨hr.1, c, rfl, hc⟩
      · rw [if_neg q, if_neg (fun z => q (natK_inj (hr.1.symm.trans z)))]
        exact hr
  · rw [if_neg q, if_neg q]
    exact Paired.snoc h ⟨rfl, c, rfl, hc⟩
/-- all but what stands at f is as it was -/
def SameX (f : Addr) (H H' : Hp) : Prop := ∀ b o, H b = some o → b ≠ f → H' b = some o
theorem SameX.same {f : Addr} {H H1 H2 : Hp} (a : SameX f H H1) (b : Same H1 H2) : SameX f H H2 := fun c o e hc => b c o (a c o e hc)
theorem SameX.put {f : Addr} {H H' : Hp} {u : HO} (a : SameX f H H') : SameX f H (upd H' f u) := fun c o e hc => by rw [upd_ne hc]; exact a c o e hc
theorem SameX.kp {f : Addr} {H H' : Hp} {kvs : List (List Key × V)} (a : SameX f H H') (h : H f = some (.dT kvs)) : Kp H H' :=
  ⟨fun b xs e => a b _ e (ne_of e h (fun z => nomatch z)), fun b C dx fs e => a b _ e (ne_of e h (fun z => nomatch z))⟩
theorem cut_both (xs : List V) (a b : Nat) (ha : a ≤ b) (hb : b ≤ xs.length) : cutV xs (some (a : Int)) (some (b : Int)) = (xs.drop a).take (b - a) := by
  unfold cutV
  rw [HT.sIx_nat, HT.sIx_nat, Nat.min_eq_left (show a ≤ xs.length by omega), Nat.min_eq_left hb]
theorem wanted_natT (s : Sec) (l : List Nat) : (if ((Sw88.bit s.turned : Nat) : Int) = 1 then (natT (l.take s.long)).reverse else natT (l.take s.long)) = natT (Sw88.wanted s l) := by
  unfold Sw88.wanted Sw88.bit
  cases s.turned with
  | true => rw [if_pos (by decide), if_pos rfl, natT_reverse]
  | false => rw [if_neg (by decide), if_neg (by decide)]
/-- all that the defs of plans lean on -/
structure Plans (P : Program) (w : World) (K : PySem.W.Frag) (mg : Str → Option Value) (base : Heap) (C : Addr) : Prop where
  T : TxtW K mg C
  B : Blt mg
  make : ∃ fI fdI, Mk K C fI ∧ FnOk P w K mg base CX0 1 fI fdI ["self", "bobbins", "sections", "plans"] (spWInit C) ∧ Binds K fdI ["self", "bobbins", "sections", "plans"] []
  wanted : ∃ f fd, FnOk P w K mg base CX0 1 f fd ["section", "turned"] spWanted ∧ Binds K fd ["section", "turned"] [] ∧ mg "colours_wanted" = some (.ref f) ∧ PySem.W.keepIn K (.ref f) = true
  bob : ∃ f fd, FnOk P w K mg base CX0 1 f fd ["pegs", "wanted"] spBob ∧ Binds K fd ["pegs", "wanted"] [] ∧ mg "bobbins_put_on" = some (.ref f) ∧ PySem.W.keepIn K (.ref f) = true
  after : ∃ f fd, FnOk P w K mg base CX0 1 f fd ["pegs", "wanted"] spAfter ∧ Binds K fd ["pegs", "wanted"] [] ∧ mg "pegs_after" = some (.ref f) ∧ PySem.W.keepIn K (.ref f) = true
  joined : ∃ f fd, FnOk P w K mg base CX0 3 f fd ["known", "further"] (spJoined C) ∧ Binds K fd ["known", "further"] [] ∧ mg "joined" = some (.ref f) ∧ PySem.W.keepIn K (.ref f) = true
  choices : ∃ f fd, FnOk P w K mg base CX0 1 f fd ["longest"] spChoices ∧ Binds K fd ["longest"] [] ∧ mg "section_choices" = some (.ref f) ∧ PySem.W.keepIn K (.ref f) = true
/-- the layers' list -/
def LaysAt (C : Addr) (H : Hp) (la : Addr) (ds : List Tab) : Prop := ∃ das : List Addr, H la = some (.lst (das.map V.ref)) ∧ Paired (TabAt C H) das ds
def spWays (C : Addr) : Sp := fun vs H Q _ => ∃ (n : Nat) (la ta : Addr) (r : Rack) (l : List Nat) (ds : List Tab), vs = [.int (n : Nat), .ref la, .ref ta, .int (r.length : Nat)] ∧ LaysAt C H la ds ∧ H ta = some (.tup (natT l)) ∧
  Lay r l ds ∧ ds.length = n ∧ 1 ≤ n ∧ n ≤ l.length ∧ l.length ≤ 12 ∧ 1 ≤ r.length ∧ r.length ≤ 4 ∧ Dig l ∧ ∀ f H', TabAt C H' f (layerD r.length l n ds) → Same H H' → Q (.ref f) H'
section
variable {P : Program} {w : World} {K : PySem.W.Frag} {mg : Str → Option Value} {base : Heap}
theorem scWays : FnScope ["wound", "layers", "threads", "peg_count", "found", "choice", "before", "wanted", "rack", "way", "after", "bobbins", "further"] ["wound", "layers", "threads", "peg_count"] (defScope sWays) := ⟨rfl, rfl, rfl, by decide +kernel, rfl, by decide +kernel, by decide +kernel⟩
theorem ok_ways {f C : Addr} {fd : FuncData} (F : Fun K "ways_to" "ways_to" sWays f fd) (G : Plans P w K mg base C) : FnOk P w K mg base CX0 5 f fd ["wound", "layers", "threads", "peg_count"] (spWays C) := by
  obtain ⟨T, B, ⟨fI, fdI, M, GI, bI⟩, ⟨fW, fdW, GW, bW, mW, kW⟩, ⟨fB, fdB, GB, bB, mB, kB⟩, ⟨fA, fdA, GA, bA, mA, kA⟩, ⟨fJ, fdJ, GJ, bJ, mJ, kJ⟩, ⟨fC, fdC, GC, bC, mC, kC⟩⟩ := G
  refine F.ok scWays (fun vs H Q E h => ?_) (fun cdv A outer s H vs Q E hr h => ?_)
  · obtain ⟨n, la, ta, r, l, ds, rfl, _⟩ := h
    rfl
  · obtain ⟨n, la, ta, r, l, ds, rfl, ⟨das, hla, hds⟩, hta, hlay, hdn, h1, hnl, hl12, hr1, hr4, hdl, k⟩ := h
    have r1 : Room 1 _ := hr.mono (by decide)
    have r2 : Room 2 _ := hr.mono (by decide)
    have r3 : Room 3 _ := hr.mono (by decide)
    have hu := hu_of hr
    refine ⟨_, pss_cons (ps_set (i := 4) scWays.nd rfl (Or.inl rfl) pe_dnewT)
      (pss_cons (ps_for PassesOwn.never rfl (pi_list (pe_call GC r1 rfl mC kC bC .nil pass0 (pa_cons (pe_callB (call_min2 rfl) (by rfl) B.min boot_minR (pa_cons (pv 0) (pa_cons (pv 3) pa_nil))) pa_nil))) (pg_name (i := 5) scWays.nd rfl (Or.inl rfl))
        (pss_cons (ps_set (i := 6) scWays.nd rfl (Or.inl rfl) (pe_op op_sub (pv 0) (pe_ix ix_tup (pv 5) pe_int (fun _ _ => rfl))))
        (pss_cons (ps_set (i := 7) scWays.nd rfl (Or.inl rfl) (pe_call GW r1 rfl mW kW bW .nil pass0 (pa_cons (pe_slice sl_cutT (pv 2) (po_some (pv 6)) (po_some (pv 0))) (pa_cons (pe_ix ix_tup (pv 5) pe_int (fun _ _ => rfl)) pa_nil))))
        (pss_one (ps_lock (ps_for PassesOwn.never rfl (pi_itemsT (pe_ix ix_list (pv 1) (pv 6) (fun _ _ => rfl))) (pg_pair (i := 8) (j := 9) rfl scWays.nd rfl rfl (Or.inl rfl) (Or.inl rfl) (Or.inr rfl) (Or.inr rfl))
          (pss_cons (ps_set (i := 10) scWays.nd rfl (Or.inl rfl) (pe_call GA r1 rfl mA kA bA .nil pass0 (pa_cons (pv 8) (pa_cons (pv 7) pa_nil))))
          (pss_cons (ps_set (i := 11) scWays.nd rfl (Or.inl rfl) (pe_op op_add (pe_fld (pv 9) rfl) (pe_call GB r1 rfl mB kB bB .nil pass0 (pa_cons (pv 8) (pa_cons (pv 7) pa_nil)))))
          (pss_cons (ps_set (i := 12) scWays.nd rfl (Or.inl rfl) (pe_make M GI r2 rfl T.mgC bI .nil pass0 (pa_cons (pv 11) (pa_cons (pe_op op_plusT (pe_fld (pv 9) rfl) (pe_tup (pa_cons (pv 5) pa_nil))) (pa_cons (pe_fld (pv 9) rfl) pa_nil)))))
          (pss_one (ps_dput hu (pv 4) (pv 10) (pe_call GJ r3 rfl mJ kJ bJ .nil pass0 (pa_cons (pe_dget1 hu (pv 4) (pv 10) ⟨rfl, rfl, rfl, rfl⟩) (pa_cons (pv 12) pa_nil))) rfl)))))))))))
      (pss_one (ps_ret (pv 4)))), ?_⟩
    intro fo hfo
    have s1 : Same H (upd H fo (.dT [])) := Same.new hfo
    have emin : (if ((r.length : Nat) : Int) < ((n : Nat) : Int) then ((r.length : Nat) : Int) else ((n : Nat) : Int)) = ((min n r.length : Nat) : Int) := by split <;> omega
    have m4 : min n r.length ≤ 4 := by omega
    refine ⟨_, rfl, _, rfl, _, _, rfl, min n r.length, congrArg (fun z => [V.int z]) emin, by omega, m4, fun ca cas H2 hca hcp s2 => ?_⟩
    have hf2 : H2 fo = some (.dT []) := s2 _ _ upd_same
    have s12 : Same H H2 := s1.trans s2
    have nca : ca ≠ fo := ne_of hca hf2 (fun z => nomatch z)
    refine ⟨ca, rfl, ⟨_, SqL.of hca⟩, for_list (K := K) (a := ca) (xs := cas.map V.ref) (fun i σ H' => ∃ v5 v6 v7 v8 v9 v10 v11 v12 : Option V,
        σ = [some (.int (n : Nat)), some (.ref la), some (.ref ta), some (.int (r.length : Nat)), some (.ref fo), v5, v6, v7, v8, v9, v10, v11, v12] ∧ SameX fo H2 H' ∧
        TabAt C H' fo (((Sw88.sections (min n r.length)).take i).foldl (fun f s => (ds.getD (n - s.long) []).foldl (one (Sw88.wanted s (l.drop (n - s.long))) s) f) []))
      ⟨none, none, none, none, none, none, none, none, rfl, fun b o e _ => e, [], hf2, .nil⟩ (fun i σ H' _ ⟨_, _, _, _, _, _, _, _, _, sx, _⟩ => SqL.of (sx _ _ hca nca)) ?_ ?_⟩
    · rintro i y σ H' hi ⟨v5, v6, v7, v8, v9, v10, v11, v12, rfl, sx, kvsF, hfF, relF⟩
      obtain ⟨ch, hch, rfl⟩ : ∃ c, cas[i]? = some c ∧ y = V.ref c := by
        rw [List.getElem?_map] at hi
        cases e : cas[i]? with
        | none => rw [e] at hi; cases hi
        | some c => rw [e] at hi; exact ⟨c, rfl, (Option.some.inj hi).symm⟩
      obtain ⟨p, hp, hpr⟩ := paired_get hcp hch
      obtain ⟨sc, hsc, rfl⟩ : ∃ sc, (Sw88.sections (min n r.length))[i]? = some sc ∧ p = pr sc := by
        unfold prs at hp
        rw [List.getElem?_map] at hp
        cases e : (Sw88.sections (min n r.length))[i]? with
        | none => rw [e] at hp; cases hp
        | some c => rw [e] at hp; exact ⟨c, rfl, (Option.some.inj hp).symm⟩
      have hmem : sc ∈ Sw88.sections (min n r.length) := List.mem_of_getElem? hsc
      have hsm := sec_mem.mp hmem
      have hlong : sc.long ≤ n ∧ sc.long ≤ r.length := by omega
      have kx : Kp H2 H' := sx.kp hf2
      have hch' : H' ch = some (.tup [.int (sc.long : Nat), .int (Sw88.bit sc.turned : Nat)]) := kx.1 _ _ hpr
      have hta' : H' ta = some (.tup (natT l)) := kx.1 _ _ (s12 _ _ hta)
      refine ⟨_, rfl, _, rfl, ch, _, _, _, rfl, rfl, SqT.of hch', rfl, _, _, rfl, rfl, ?_⟩
      have eb : ((n : Nat) : Int) - ((sc.long : Nat) : Int) = ((n - sc.long : Nat) : Int) := by omega
      refine ⟨_, rfl, _, rfl, _, rfl, _, rfl, _, rfl, ta, natT l, rfl, hta', fun c H3 hc s3 => ?_⟩
      have ecut : cutV (natT l) (some (((n : Nat) : Int) - ((sc.long : Nat) : Int))) (some ((n : Nat) : Int)) = natT ((l.drop (n - sc.long)).take sc.long) := by
        rw [eb, cut_both _ _ _ (by omega) (by rw [natT_length]; exact hnl), natT_drop, natT_take, show n - (n - sc.long) = sc.long by omega]
      rw [ecut] at hc
      refine ⟨_, rfl, ch, _, _, _, rfl, rfl, SqT.of (s3 _ _ hch'), rfl, c, _, _, rfl, hc, fun _ => ?_, fun wa H4 hwa s4 => ?_⟩
      · rw [natT_length, List.length_take, List.length_drop]
        omega
      · rw [wanted_natT] at hwa
        have hmlt : n - sc.long < ds.length := by omega
        obtain ⟨da, hda, hdt⟩ : ∃ da, das[n - sc.long]? = some da ∧ TabAt C H da (ds.getD (n - sc.long) []) := by
          have hle : das.length = ds.length := Paired.length hds
          have hi' : n - sc.long < das.length := by omega
          obtain ⟨b, hb, hg⟩ := paired_get hds (List.getElem?_eq_getElem hi')
          refine ⟨_, List.getElem?_eq_getElem hi', ?_⟩
          rw [getD_of hmlt] at hb
          rw [Option.some.inj hb]
          exact hg
        obtain ⟨kvs, hdk, hrel⟩ := hdt
        have nda : da ≠ fo := ne_of_none hdk hfo
        have s34 := s3.trans s4
        have hda4 : H4 da = some (.dT kvs) := s34 _ _ (sx _ _ (s12 _ _ hdk) nda)
        have hla4 : H4 la = some (.lst (das.map V.ref)) := s34 _ _ (sx _ _ (s12 _ _ hla) (ne_of_none hla hfo))
        have hfF4 : H4 fo = some (.dT kvsF) := s34 _ _ hfF
        have hch4 : H4 ch = some (.tup [.int (sc.long : Nat), .int (Sw88.bit sc.turned : Nat)]) := s34 _ _ hch'
        have hrel4 : TabRel C H4 kvs (ds.getD (n - sc.long) []) := hrel.mono ((Kp.of s12).trans (kx.trans (Kp.of s34)))
        have relF4 := relF.mono (Kp.of s34)
        have hgood := hlay.good _ _ (getD_of hmlt)
        have hWd : Dig (Sw88.wanted sc (l.drop (n - sc.long))) := (hdl.drop _).wanted sc
        have hWl : (Sw88.wanted sc (l.drop (n - sc.long))).length = sc.long := wanted_length (by rw [List.length_drop]; omega)
        have hgF := Good.choices hlay hdn hnl hdl ((Sw88.sections (min n r.length)).take i) [] (fun t ht => List.mem_of_mem_take ht) (Good.nil _ _)
        generalize hD : ds.getD (n - sc.long) [] = d at hrel4 hgood hrel
        generalize hFF : ((Sw88.sections (min n r.length)).take i).foldl (fun f s => (ds.getD (n - s.long) []).foldl (one (Sw88.wanted s (l.drop (n - s.long))) s) f) [] = F0 at relF4 hgF
        generalize hW : Sw88.wanted sc (l.drop (n - sc.long)) = W at hwa hWd hWl
        refine ⟨da, .dT kvs, hda4, trivial, fun od => ?_⟩
        have hnf : fo ≠ da := fun z => nda z.symm
        have kl : Kp H4 (upd H4 da (.frz od (.dT kvs))) := Kp.put hda4 (fun _ z => nomatch z) (fun _ _ _ z => nomatch z)
        have hlaL : (upd H4 da (.frz od (.dT kvs))) la = some (.lst (das.map V.ref)) := by rw [upd_ne (ne_of hla4 hda4 (fun z => nomatch z))]; exact hla4
        have hfL : (upd H4 da (.frz od (.dT kvs))) fo = some (.dT kvsF) := by rw [upd_ne hnf]; exact hfF4
        refine ⟨_, rfl, _, rfl, la, _, _, _, rfl, rfl, SqL.of hlaL, at_of (j := n - sc.long) (v := V.ref da) eb (by rw [List.getElem?_map, hda]; rfl), da, od, kvs, rfl, upd_same, ?_⟩
        refine for_itemsT (fun j σ Hj => ∃ v8 v9 v10 v11 v12 : Option V,
            σ = [some (.int (n : Nat)), some (.ref la), some (.ref ta), some (.int (r.length : Nat)), some (.ref fo), some (.ref ch), some (.int (((n : Nat) : Int) - ((sc.long : Nat) : Int))), some (.ref wa), v8, v9, v10, v11, v12] ∧
            SameX fo (upd H4 da (.frz od (.dT kvs))) Hj ∧ TabAt C Hj fo ((d.take j).foldl (one W sc) F0))
          ⟨v8, v9, v10, v11, v12, rfl, fun b o e _ => e, kvsF, hfL, relF4.mono kl⟩ (fun j σ Hj _ ⟨_, _, _, _, _, _, sj, _⟩ => sj _ _ upd_same nda) ?_ ?_
        · rintro j kk v σ Hj T1 q hkv ⟨v8, v9, v10, v11, v12, rfl, sj, kvsG, hfG, relG⟩ hq hT1
          obtain ⟨e, he, rfl, a, rfl, hway⟩ := paired_get hrel4 hkv
          have hed : e ∈ d := List.mem_of_getElem? he
          obtain ⟨g1, g2, g3⟩ := hgood.it e hed
          have kj : Kp H4 Hj := kl.trans (sj.kp hfL)
          rw [natK_kV] at hq
          have s0 := Same.new (o := .tup [.ref q, .ref a]) hT1
          refine ⟨T1, [.ref q, .ref a], rfl, SqT.of upd_same, rfl, _, _, rfl, _, _, rfl, rfl, ?_⟩
          have hway0 := hway.mono (kj.trans (Kp.of s0))
          have hq0 := s0 _ _ hq
          have hwa0 := s0 _ _ (kj.1 _ _ hwa)
          have hch0 := s0 _ _ (kj.1 _ _ hch4)
          have hf0 := s0 _ _ hfG
          refine ⟨_, rfl, _, rfl, q, wa, e.1, W, rfl, hq0, hwa0, by omega, by omega, fun c1 H5 hc1 s5 => ?_⟩
          obtain ⟨dxw, sw, hw1, asw, hw2, hw3⟩ := hway0.mono (Kp.of s5)
          refine ⟨_, rfl, a, C, dxw, _, _, rfl, hw1, T.cl, T.nB, wf_bob _ _ _, _, rfl, _, rfl, q, wa, e.1, W, rfl, s5 _ _ hq0, s5 _ _ hwa0, by omega, fun H6 s6 => ⟨_, _, rfl, rfl, ?_⟩⟩
          have s56 := s5.trans s6
          refine ⟨_, rfl, _, rfl, a, C, dxw, _, _, rfl, s6 _ _ hw1, T.cl, T.nS, wf_sec _ _ _, _, rfl, by show 1 ≤ sizeLine; decide, fun t1 ht1 => ?_⟩
          have s7 := Same.new (o := .tup [.ref ch]) ht1
          have lsw : asw.length = e.2.secs.length := by
            have q := Paired.length hw3
            unfold prs at q
            rw [List.length_map] at q
            exact q
          refine ⟨sw, t1, asw.map V.ref, [.ref ch], rfl, rfl, s7 _ _ (s6 _ _ hw2), upd_same, (by rw [List.length_map, lsw, sizeLine_eq]; show _ + 1 ≤ _; omega), fun c3 H8 hc3 s8 => ?_⟩
          have s68 := s6.trans (s7.trans s8)
          refine ⟨_, rfl, a, C, dxw, _, _, rfl, s68 _ _ hw1, T.cl, T.nP, wf_pl _ _ _, ?_⟩
          intro x dx nx nd ne
          have s08 := s0.trans (s5.trans s68)
          have hplan : PlanAt H8 c3 (e.2.secs ++ [sc]) := by
            refine ⟨asw ++ [ch], ?_, ?_⟩
            · rw [hc3, List.map_append]
              rfl
            · have ep : prs (e.2.secs ++ [sc]) = prs e.2.secs ++ [pr sc] := by
                unfold prs
                rw [List.map_append]
                rfl
              rw [ep]
              exact paired_snoc (prs_mono (Kp.of s68) hw3) (s08 _ _ (kj.1 _ _ hch4))
          refine ⟨x, dx, _, _, _, rfl, upd_same, fun H9 h9 k9 => ⟨rfl, ?_⟩⟩
          obtain ⟨hfw, s9⟩ := way_made (b := e.2.bob + Sw88.changes e.1 W) (n := e.2.plans) nx nd (by rw [Int.natCast_add]; exact h9) k9 hplan
          have s09 := s08.trans s9
          have hf9 : H9 fo = some (.dT kvsG) := s09 _ _ hfG
          have hc9 : H9 c1 = some (.tup ((natK (Sw88.put e.1 W)).map kV)) := by rw [natK_kV]; exact s9 _ _ (s68 _ _ hc1)
          have relG9 := relG.mono (Kp.of s09)
          refine ⟨_, rfl, fo, rfl, .inr ⟨kvsG, .inl hf9⟩, _, rfl, _, DGet.t hf9 hc9, _, rfl, _, look ((d.take j).foldl (one W sc) F0) (Sw88.put e.1 W), x, _, rfl, relG9.look _, hfw, fun c5 H10 hw10 s10 => ?_⟩
          have hf10 := s10 _ _ hf9
          have relG10 := relG9.mono (Kp.of s10)
          have hgG : Good r.length n ((d.take j).foldl (one W sc) F0) := Good.fold (m := n - sc.long) (by omega) (by omega) hWd _ _ (fun e' he' => hgood.it e' (List.mem_of_mem_take he')) hgF
          refine ⟨_, rfl, _, rfl, fo, _, rfl, DPut.t hf10 (s10 _ _ hc9) (by rw [relG10.len, sizeLine_eq]; have := hgG.few hr4; omega), ?_⟩
          have kput : Kp H10 (upd H10 fo (.dT (putK kvsG (natK (Sw88.put e.1 W)) (.ref c5)))) := Kp.put hf10 (fun _ z => nomatch z) (fun _ _ _ z => nomatch z)
          refine ⟨_, _, _, _, _, rfl, SameX.put (SameX.same sj (s09.trans s10)), _, upd_same, ?_⟩
          have et : d.take (j + 1) = d.take j ++ [e] := by rw [List.take_succ, he]; rfl
          rw [et, List.foldl_append]
          exact (relG10.put _ hw10).mono kput
        · rintro σ Hj ⟨v8, v9, v10, v11, v12, rfl, sj, kvsG, hfG, relG⟩
          have hdj : Hj da = some (.frz od (.dT kvs)) := sj _ _ upd_same nda
          refine ⟨hdj, _, _, _, _, _, _, _, _, rfl, ?_, kvsG, ?_, ?_⟩
          · intro b o e hb
            by_cases z : b = da
            · rw [z] at e ⊢
              rw [upd_same]
              have : H2 da = some (.dT kvs) := s12 _ _ hdk
              rw [this] at e
              exact e
            · rw [upd_ne z]
              exact sj _ _ (by rw [upd_ne z]; exact s34 _ _ (sx _ _ e hb)) hb
          · rw [upd_ne hnf]
            exact hfG
          · have kun : Kp Hj (upd Hj da (.dT kvs)) := Kp.put hdj (fun _ z => nomatch z) (fun _ _ _ z => nomatch z)
            have et : (Sw88.sections (min n r.length)).take (i + 1) = (Sw88.sections (min n r.length)).take i ++ [sc] := by rw [List.take_succ, hsc]; rfl
            rw [et, List.foldl_append, hFF]
            show TabRel C _ kvsG ((ds.getD (n - sc.long) []).foldl (one (Sw88.wanted sc (l.drop (n - sc.long))) sc) F0)
            rw [hD, hW]
            have ed : d.take kvs.length = d := by rw [hrel4.len, List.take_length]
            rw [ed] at relG
            exact relG.mono kun
    · rintro σ H' ⟨v5, v6, v7, v8, v9, v10, v11, v12, rfl, sx, htab⟩
      have el : ((cas.map V.ref).length) = (Sw88.sections (min n r.length)).length := by
        have e := Paired.length hcp
        unfold prs at e
        rw [List.length_map] at e
        rw [List.length_map, e]
      rw [el, List.take_length] at htab
      exact ⟨_, rfl, k fo H' htab fun b o e => sx b o (s12 b o e) (ne_of_none e hfo)⟩
end
end Wrp

end
section
set_option Elab.async false
set_option linter.all false
set_option maxRecDepth 100000
set_option maxHeartbeats 4000000
namespace Wrp
open PySem PySem.Spec PyProof.Rows L2
open PySem.W (Codec)
abbrev sBestWay : Stmt := top 9
theorem TabAt.same {C : Addr} {H H' : Hp} (s : Same H H') {f : Addr} {d : Tab} (h : TabAt C H f d) : TabAt C H' f d := let ⟨kvs, h1, h2⟩ := h; ⟨kvs, s _ _ h1, h2.mono (Kp.of s)⟩
theorem TabAt.lset {C : Addr} {H : Hp} {a : Addr} {xs ys : List V} (h : H a = some (.lst xs)) {f : Addr} {d : Tab} (t : TabAt C H f d) : TabAt C (upd H a (.lst ys)) f d :=
  let ⟨kvs, h1, h2⟩ := t
  ⟨kvs, by rw [upd_ne (ne_of h1 h (fun z => nomatch z))]; exact h1, h2.mono (Kp.put h (fun _ z => nomatch z) (fun _ _ _ z => nomatch z))⟩
theorem LaysAt.same {C : Addr} {H H' : Hp} (s : Same H H') {la : Addr} {ds : List Tab} (h : LaysAt C H la ds) : LaysAt C H' la ds := let ⟨das, h1, h2⟩ := h; ⟨das, s _ _ h1, Paired.mapP h2 fun _ _ t => t.same s⟩
def spBestWay (C : Addr) : Sp := fun vs H Q _ => ∃ (pa ta : Addr) (r : Rack) (l : List Nat), vs = [.ref pa, .ref ta] ∧ H pa = some (.tup (natT r)) ∧ H ta = some (.tup (natT l)) ∧ 1 ≤ r.length ∧ r.length ≤ 4 ∧ l.length ≤ 12 ∧ Dig r ∧ Dig l ∧
  ∀ a w H', WayAt C H' a w → Sw88.best r l = some (toBest w) → w.secs.length ≤ l.length → Same H H' → Q (.ref a) H'
section
variable {P : Program} {w : World} {K : PySem.W.Frag} {mg : Str → Option Value} {base : Heap}
theorem scBestWay : FnScope ["pegs", "threads", "layers", "wound", "found", "way"] ["pegs", "threads"] (defScope sBestWay) := ⟨rfl, rfl, rfl, by decide +kernel, rfl, by decide +kernel, by decide +kernel⟩
theorem ok_bestway {f C fW : Addr} {fd fdW : FuncData} (F : Fun K "best_way" "best_way" sBestWay f fd) (G : Plans P w K mg base C) (GW : FnOk P w K mg base CX0 5 fW fdW ["wound", "layers", "threads", "peg_count"] (spWays C))
    (bW : Binds K fdW ["wound", "layers", "threads", "peg_count"] []) (mW : mg "ways_to" = some (.ref fW)) (kW : PySem.W.keepIn K (.ref fW) = true) : FnOk P w K mg base CX0 7 f fd ["pegs", "threads"] (spBestWay C) := by
  obtain ⟨T, B, ⟨fI, fdI, M, GI, bI⟩, _, _, _, ⟨fJ, fdJ, GJ, bJ, mJ, kJ⟩, _⟩ := G
  refine F.ok scBestWay (fun vs H Q E h => ?_) (fun cdv A outer s H vs Q E hr h => ?_)
  · obtain ⟨pa, ta, r, l, rfl, _⟩ := h
    rfl
  · obtain ⟨pa, ta, r, l, rfl, hpa, hta, h1, h4, h12, hdr, hdl, k⟩ := h
    have r2 : Room 2 _ := hr.mono (by decide)
    have r3 : Room 3 _ := hr.mono (by decide)
    have r5 : Room 5 _ := hr.mono (by decide)
    have hu := hu_of hr
    refine ⟨_, pss_cons (ps_set (i := 2) scBestWay.nd rfl (Or.inl rfl) (pe_lst (pa_cons (pe_disp1 hu (pv 0) (pe_make M GI r2 rfl T.mgC bI .nil pass0 (pa_cons pe_int (pa_cons (pe_tup pa_nil) (pa_cons pe_int pa_nil))))) pa_nil)))
      (pss_cons (ps_for PassesOwn.never rfl (pi_range2 (by rfl) B.rng (pa_cons pe_int (pa_cons (pe_op op_add (pe_callB call_len_seq (by rfl) B.len PySem.boot_len (pa_cons (pv 1) pa_nil)) pe_int) pa_nil))) (pg_name (i := 3) scBestWay.nd rfl (Or.inl rfl))
        (pss_one (ps_expr (pe_bm PySem.F.plainAttrs_list PySem.F.slot_list_append PySem.F.type_list_append mt_append (pv 2)
          (pa_cons (pe_call GW r5 rfl mW kW bW .nil pass0 (pa_cons (pv 3) (pa_cons (pv 2) (pa_cons (pv 1) (pa_cons (pe_callB call_len_seq (by rfl) B.len PySem.boot_len (pa_cons (pv 0) pa_nil)) pa_nil))))) pa_nil)))))
      (pss_cons (ps_set (i := 4) scBestWay.nd rfl (Or.inl rfl) pe_non)
      (pss_cons (ps_lock (ps_for PassesOwn.never rfl (pi_valuesT (pe_ix ix_list (pv 2) (pe_callB call_len_seq (by rfl) B.len PySem.boot_len (pa_cons (pv 1) pa_nil)) (fun _ _ => rfl))) (pg_name (i := 5) scBestWay.nd rfl (Or.inl rfl))
        (pss_one (ps_set (i := 4) scBestWay.nd rfl (Or.inl rfl) (pe_call GJ r3 rfl mJ kJ bJ .nil pass0 (pa_cons (pv 4) (pa_cons (pv 5) pa_nil)))))))
      (pss_one (ps_ret (pv 4)))))), ?_⟩
    -- layers = [{pegs: Way(0, (), 1)}]
    intro d0 hd0
    have s0 := Same.new (o := .dT []) hd0
    refine ⟨_, rfl, by show 0 ≤ sizeLine; exact Nat.zero_le _, fun t0 ht0 => ?_⟩
    have s1 := Same.new (o := .tup []) ht0
    intro x dx nx nd ne
    refine ⟨x, dx, _, _, _, rfl, upd_same, fun H1 hw1 k1 => ⟨rfl, ?_⟩⟩
    obtain ⟨hway, s2⟩ := way_made (b := 0) (n := 1) (p := []) nx nd hw1 k1 ⟨[], upd_same, .nil⟩
    have s02 := s0.trans (s1.trans s2)
    have hd1 : H1 d0 = some (.dT []) := (s1.trans s2) _ _ upd_same
    refine ⟨hd1, pa, natK r, rfl, by rw [natK_kV]; exact s02 _ _ hpa, by show 1 ≤ sizeLine; decide, fun la hla => ?_⟩
    have kd : Kp H1 (upd H1 d0 (.dT [(natK r, .ref x)])) := Kp.put hd1 (fun _ z => nomatch z) (fun _ _ _ z => nomatch z)
    have s3 : Same H (upd H1 d0 (.dT [(natK r, .ref x)])) := same_put s02 hd0
    have sl := Same.new (o := .lst [.ref d0]) hla
    have s4 := s3.trans sl
    have nla : H la = none := s3.free hla
    have hL0 : LaysAt C (upd (upd H1 d0 (.dT [(natK r, .ref x)])) la (.lst [.ref d0])) la [[(r, ⟨0, [], 1⟩)]] :=
      ⟨[d0], upd_same, .cons (TabAt.same sl ⟨_, upd_same, .cons ⟨rfl, x, rfl, hway.mono kd⟩ .nil⟩) .nil⟩
    -- for wound in range(1, len(threads) + 1)
    refine ⟨_, rfl, ta, _, rfl, .inr (SqT.of (s4 _ _ hta)), _, _, rfl, rfl, 1, ((natT l).length : Int) + 1, rfl, ⟨by omega, by omega, by omega, by rw [natT_length]; omega⟩, ?_⟩
    have en : (((natT l).length : Int) + 1 - 1).toNat = l.length := by rw [natT_length]; omega
    rw [en]
    refine for_range (lo := 1) (n := l.length) (fun i σ H' => ∃ (v : Option V) (ds : List Tab), σ = [some (.ref pa), some (.ref ta), some (.ref la), v, none, none] ∧ LaysAt C H' la ds ∧ Lay r l ds ∧ ds.length = i + 1 ∧ Same H H')
      ⟨none, _, rfl, hL0, Lay.start hdr, rfl, s4⟩ ?_ ?_
    · rintro i σ H' hi ⟨v, ds, rfl, hL, hlay, hlen, sm⟩
      obtain ⟨das, hla1, hdas⟩ := id hL
      have ei : (1 : Int) + (i : Nat) = ((i + 1 : Nat) : Int) := by omega
      have epl : (((natT r).length : Nat) : Int) = ((r.length : Nat) : Int) := by rw [natT_length]
      refine ⟨_, rfl, .inl ⟨rfl, _, SqL.of hla1⟩, _, rfl, _, rfl, _, rfl, _, rfl, pa, _, rfl, .inr (SqT.of (sm _ _ hpa)), ?_⟩
      refine ⟨i + 1, la, ta, r, l, ds, ?_, hL, sm _ _ hta, hlay, hlen, by omega, hi, h12, h1, h4, hdl, fun fo H2 htab s5 => ?_⟩
      · show [V.int (1 + ((i : Nat) : Int)), V.ref la, V.ref ta, V.int (((natT r).length : Nat) : Int)] = _
        rw [ei, epl]
      · have hla2 := s5 _ _ hla1
        have hle : das.length = ds.length := Paired.length hdas
        refine ⟨la, _, _, rfl, rfl, hla2, (by rw [List.length_map, hle, hlen, sizeLine_eq]; omega), ?_⟩
        refine ⟨_, ds ++ [layerD r.length l (i + 1) ds], rfl, ⟨das ++ [fo], ?_, ?_⟩, hlay.step h4 hlen (by omega) hi hdl, by rw [List.length_append, hlen]; rfl, same_put (sm.trans s5) nla⟩
        · rw [upd_same, List.map_append]
          rfl
        · exact paired_snoc (Paired.mapP hdas fun _ _ t => (t.same s5).lset hla2) (htab.lset hla2)
    · rintro σ H' ⟨v, ds, rfl, hL, hlay, hlen, sm⟩
      -- found = None; for way in layers[len(threads)].values()
      obtain ⟨das, hla1, hdas⟩ := id hL
      have hle : das.length = ds.length := Paired.length hdas
      have hlt : l.length < ds.length := by omega
      have hi' : l.length < das.length := by omega
      obtain ⟨d, hd⟩ : ∃ d, ds[l.length]? = some d := ⟨_, List.getElem?_eq_getElem hlt⟩
      obtain ⟨da, hda, kvs, hdk, hrel⟩ : ∃ da, das[l.length]? = some da ∧ TabAt C H' da d := by
        obtain ⟨b, hb, hg⟩ := paired_get hdas (List.getElem?_eq_getElem hi')
        rw [hd] at hb
        rw [Option.some.inj hb]
        exact ⟨_, List.getElem?_eq_getElem hi', hg⟩
      obtain ⟨wb, hj, hbest, hsl⟩ := hlay.best h1 h4 hd
      refine ⟨da, .dT kvs, hdk, trivial, fun od => ?_⟩
      have kl : Kp H' (upd H' da (.frz od (.dT kvs))) := Kp.put hdk (fun _ z => nomatch z) (fun _ _ _ z => nomatch z)
      have hlaL : (upd H' da (.frz od (.dT kvs))) la = some (.lst (das.map V.ref)) := by rw [upd_ne (ne_of hla1 hdk (fun z => nomatch z))]; exact hla1
      have htaL := kl.1 _ _ (sm _ _ hta)
      refine ⟨_, rfl, _, rfl, ta, _, rfl, .inr (SqT.of htaL), la, _, _, _, rfl, rfl, SqL.of hlaL, at_of (j := l.length) (v := V.ref da) (by rw [natT_length]) (by rw [List.getElem?_map, hda]; rfl), da, od, kvs, rfl, upd_same, ?_⟩
      refine for_valsT (fun j σ Hj => ∃ (v4 : V) (v5 : Option V), σ = [some (.ref pa), some (.ref ta), some (.ref la), v, some v4, v5] ∧ KnownAt C Hj v4 ((d.take j).foldl (fun a e => some (jo a e.2)) none) ∧ Same (upd H' da (.frz od (.dT kvs))) Hj)
        ⟨.non, none, rfl, trivial, Same.refl _⟩ (fun j σ Hj _ ⟨_, _, _, _, sj⟩ => sj _ _ upd_same) ?_ ?_
      · rintro j kk v' σ Hj hkv ⟨v4, v5, rfl, hkn, sj⟩
        obtain ⟨e, he, _, a, rfl, hway⟩ := paired_get hrel hkv
        refine ⟨_, rfl, _, rfl, v4, _, a, e.2, rfl, hkn, hway.mono (kl.trans (Kp.of sj)), fun c H2 hc s5 => ?_⟩
        refine ⟨.ref c, _, rfl, ?_, sj.trans s5⟩
        have et : d.take (j + 1) = d.take j ++ [e] := by rw [List.take_succ, he]; rfl
        rw [et, List.foldl_append]
        exact hc
      · rintro σ Hj ⟨v4, v5, rfl, hkn, sj⟩
        have hdj : Hj da = some (.frz od (.dT kvs)) := sj _ _ upd_same
        refine ⟨hdj, _, rfl, ?_⟩
        have ed : d.take kvs.length = d := by rw [hrel.len, List.take_length]
        rw [ed] at hkn
        have hkn : KnownAt C Hj v4 (joinAll d) := hkn
        rw [hj] at hkn
        have kun : Kp Hj (upd Hj da (.dT kvs)) := Kp.put hdj (fun _ z => nomatch z) (fun _ _ _ z => nomatch z)
        have sfin : Same H (upd Hj da (.dT kvs)) := fun b o e => by
          by_cases z : b = da
          · rw [z] at e ⊢
            rw [upd_same]
            have q := sm _ _ e
            rw [hdk] at q
            exact q
          · rw [upd_ne z]
            exact sj _ _ (by rw [upd_ne z]; exact sm b o e)
        match v4, hkn with
        | .ref a, hkn => exact k a wb _ ((show WayAt C Hj a wb from hkn).mono kun) hbest hsl sfin
        | .non, h => exact h.elim
        | .bl _, h => exact h.elim
        | .int _, h => exact h.elim
        | .str _, h => exact h.elim
        | .byt _, h => exact h.elim
        | .flt _, h => exact h.elim
        | .ty _, h => exact h.elim
end
end Wrp

end
section
set_option Elab.async false
set_option linter.all false
set_option maxRecDepth 100000
set_option maxHeartbeats 4000000
namespace Wrp
open PySem PySem.Spec PyProof.Rows L2
open PySem.W (Codec)
abbrev sListed : Stmt := top 20
abbrev sBegins : Stmt := top 22
abbrev sThreads : Stmt := top 23
abbrev sWarpInit : Stmt := inClass (top 11) 0
/-! ### the warp -/
abbrev St8 := Sw88.Warp
structure WOk (s : St8) : Prop where
  r1 : 1 ≤ s.rack.length
  r4 : s.rack.length ≤ 4
  l12 : s.left.length ≤ 12
  dr : Dig s.rack
  dl : Dig s.left
theorem WOk.init : WOk Sw88.init := ⟨by decide, by decide, by decide, fun n hn => (by have : n = 0 := List.mem_singleton.mp hn; omega), fun n hn => nomatch hn⟩
theorem WOk.step {s : St8} (h : WOk s) (c : Sw88.Call) : WOk (Sw88.step s c).1 := by
  cases c with
  | begins n =>
    show WOk (if n < 1 ∨ Sw88.PEGS < n then (s, Sw88.ok (-1)) else (⟨List.replicate n 0, []⟩, Sw88.ok 0)).1
    by_cases q : n < 1 ∨ Sw88.PEGS < n
    · rw [if_pos q]; exact h
    · rw [if_neg q]
      have q1 : 1 ≤ n ∧ n ≤ 4 := by unfold Sw88.PEGS at q; omega
      exact ⟨by show 1 ≤ (List.replicate n 0).length; rw [List.length_replicate]; exact q1.1, by show (List.replicate n 0).length ≤ 4; rw [List.length_replicate]; exact q1.2, by show 0 ≤ 12; omega,
        (fun m hm => by rw [List.eq_of_mem_replicate hm]; omega), fun m hm => nomatch hm⟩
  | threads l =>
    show WOk (if (l.all fun c => decide (1 ≤ c) && decide (c ≤ Sw88.COLOURS)) = false then (s, Sw88.ok (-1)) else if Sw88.THREADS < s.left.length + l.length then (s, Sw88.ok (-5)) else ({ s with left := s.left ++ l }, Sw88.ok (s.left.length + l.length : Nat))).1
    by_cases q : (l.all fun c => decide (1 ≤ c) && decide (c ≤ Sw88.COLOURS)) = false
    · rw [if_pos q]; exact h
    · rw [if_neg q]
      by_cases q2 : Sw88.THREADS < s.left.length + l.length
      · rw [if_pos q2]; exact h
      · rw [if_neg q2]
        have hd : Dig l := fun m hm => by
          rw [Bool.not_eq_false, List.all_eq_true] at q
          have := q m hm
          rw [Bool.and_eq_true] at this
          exact of_decide_eq_true this.2
        refine ⟨h.r1, h.r4, ?_, h.dr, h.dl.append hd⟩
        show (s.left ++ l).length ≤ 12
        rw [List.length_append]
        unfold Sw88.THREADS at q2
        omega
  | best => exact h
  | check p => exact h
  | wind sc =>
    show WOk (if sc.long = 0 ∨ s.rack.length < sc.long ∨ s.left.length < sc.long then (s, Sw88.ok (-6)) else (⟨Sw88.put s.rack (Sw88.wanted sc s.left), s.left.drop sc.long⟩, Sw88.ok (Sw88.changes s.rack (Sw88.wanted sc s.left) : Nat))).1
    by_cases q : sc.long = 0 ∨ s.rack.length < sc.long ∨ s.left.length < sc.long
    · rw [if_pos q]; exact h
    · rw [if_neg q]
      have hw : (Sw88.wanted sc s.left).length = sc.long := wanted_length (by omega)
      have hp : (Sw88.put s.rack (Sw88.wanted sc s.left)).length = s.rack.length := put_length (by omega)
      refine ⟨by show 1 ≤ (Sw88.put s.rack (Sw88.wanted sc s.left)).length; rw [hp]; exact h.r1, by show (Sw88.put s.rack (Sw88.wanted sc s.left)).length ≤ 4; rw [hp]; exact h.r4, ?_, h.dr.put (h.dl.wanted sc), h.dl.drop _⟩
      show (s.left.drop sc.long).length ≤ 12
      rw [List.length_drop]
      have := h.l12
      omega
  | rack => exact h
  | colours => exact h
def wpf (pa ta : Addr) : List (Str × V) := putF "threads" (.ref ta) (putF "pegs" (.ref pa) [])
theorem wpf_pegs (pa ta : Addr) : (wpf pa ta).lookup ("pegs" : Str) = some (.ref pa) := by
  unfold wpf
  rw [lookup_putF, if_neg (by decide +kernel), lookup_putF, if_pos rfl]
theorem wpf_thr (pa ta : Addr) : (wpf pa ta).lookup ("threads" : Str) = some (.ref ta) := by
  unfold wpf
  rw [lookup_putF, if_pos rfl]
theorem wpf_no (pa ta : Addr) {m : Str} (h1 : ¬ m = "threads") (h2 : ¬ m = "pegs") : (wpf pa ta).lookup m = none := by
  unfold wpf
  rw [lookup_putF, if_neg h1, lookup_putF, if_neg h2]
  rfl
theorem wpf_eq (pa ta : Addr) : wpf pa ta = [(("pegs" : Str), V.ref pa), (("threads" : Str), V.ref ta)] := by
  unfold wpf
  show (if ("pegs" : Str) = "threads" then _ else (("pegs" : Str), V.ref pa) :: [(("threads" : Str), V.ref ta)]) = _
  rw [if_neg (by decide +kernel)]
theorem wpf_setp (pa ta c : Addr) : putF "pegs" (.ref c) (wpf pa ta) = wpf c ta := by
  rw [wpf_eq, wpf_eq]
  show (if ("pegs" : Str) = "pegs" then _ else _) = _
  rw [if_pos rfl]
theorem wpf_sett (pa ta c : Addr) : putF "threads" (.ref c) (wpf pa ta) = wpf pa c := by
  rw [wpf_eq, wpf_eq]
  show (if ("pegs" : Str) = "threads" then _ else (("pegs" : Str), V.ref pa) :: (if ("threads" : Str) = "threads" then (("threads" : Str), V.ref c) :: [] else _)) = _
  rw [if_neg (by decide +kernel), if_pos rfl]
def WarpAt (C : Addr) (H : Hp) (p : Addr) (s : St8) : Prop := ∃ dx pa ta, H p = some (.ins C dx (wpf pa ta)) ∧ H pa = some (.tup (natT s.rack)) ∧ H ta = some (.tup (natT s.left))
theorem WarpAt.same {C : Addr} {H H' : Hp} (s : Same H H') {p : Addr} {x : St8} (h : WarpAt C H p x) : WarpAt C H' p x := let ⟨dx, pa, ta, h1, h2, h3⟩ := h; ⟨dx, pa, ta, s _ _ h1, s _ _ h2, s _ _ h3⟩
structure TxtP (K : PySem.W.Frag) (mg : Str → Option Value) (C : Addr) : Prop where
  cl : Cls K C
  nP : NoAttr K C "pegs"
  nT : NoAttr K C "threads"
  mgC : mg "Warp" = some (.ref C)
/-- the module's numbers -/
structure Nums (mg : Str → Option Value) : Prop where
  pegs : ∃ t, mg "MOST_PEGS" = some (.int 4 t)
  cols : ∃ t, mg "MOST_COLOURS" = some (.int 9 t)
  thrs : ∃ t, mg "MOST_THREADS" = some (.int 12 t)
  rng : ∃ t, mg "OUT_OF_RANGE" = some (.int (-1) t)
  left : ∃ t, mg "THREADS_LEFT" = some (.int (-4) t)
  many : ∃ t, mg "TOO_MANY_THREADS" = some (.int (-5) t)
  notw : ∃ t, mg "NOT_TO_BE_WOUND" = some (.int (-6) t)
abbrev intL (l : List Int) : List V := l.map V.int
/-- what a call is to reach -/
def Post (C p : Addr) (s : St8) (c : Sw88.Call) (H : Hp) (Q : VK) : Prop :=
  ∀ a H', H a = none → H' a = some (.lst (intL (Sw88Neutral.out (Sw88.step s c).2))) → WarpAt C H' p (Sw88.step s c).1 → SameX p H H' → Q (.ref a) H'
theorem freeX {p a : Addr} {H H' : Hp} {o : HO} (sx : SameX p H H') (hp : H' p = some o) (ha : H' a = none) : H a = none := by
  cases e : H a with
  | none => rfl
  | some u =>
    have := sx a u e (ne_of_none hp ha).symm
    rw [ha] at this
    cases this
def spListed : Sp := fun vs H Q _ => ∃ (a : Addr) (xs : List Int), vs = [.ref a] ∧ H a = some (.lst (intL xs)) ∧ xs.length ≤ 1000 ∧ ∀ c H', H' c = some (.lst (intL ((xs.length : Int) :: xs))) → Same H H' → Q (.ref c) H'
def spWarpInit (C : Addr) : Sp := fun vs H Q _ => ∃ (p dx pa ta : Addr) (s : St8), vs = [.ref p, .ref pa, .ref ta] ∧ H p = some (.ins C dx []) ∧ H pa = some (.tup (natT s.rack)) ∧ H ta = some (.tup (natT s.left)) ∧
  ∀ H' : Hp, WarpAt C H' p s → SameX p H H' → Q .non H'
def spBegins (C : Addr) : Sp := fun vs H Q _ => ∃ (p : Addr) (n : Nat) (s : St8), vs = [.ref p, .int (n : Nat)] ∧ WarpAt C H p s ∧ WOk s ∧ Post C p s (.begins n) H Q
def spThreads (C : Addr) : Sp := fun vs H Q _ => ∃ (p b : Addr) (l : List Nat) (s : St8), vs = [.ref p, .ref b] ∧ WarpAt C H p s ∧ WOk s ∧ H b = some (.lst (natT l)) ∧ l.length ≤ 100 ∧ Post C p s (.threads l) H Q
section
variable {P : Program} {w : World} {K : PySem.W.Frag} {mg : Str → Option Value} {base : Heap}
theorem scListed : FnScope ["numbers"] ["numbers"] (defScope sListed) := ⟨rfl, rfl, rfl, by decide +kernel, rfl, by decide +kernel, by decide +kernel⟩
theorem ok_listed {f : Addr} {fd : FuncData} (F : Fun K "listed" "listed" sListed f fd) (B : Blt mg) : FnOk P w K mg base CX0 1 f fd ["numbers"] spListed := by
  refine F.ok scListed (fun vs H Q E h => ?_) (fun cdv A outer s H vs Q E hr h => ?_)
  · obtain ⟨a, xs, rfl, _⟩ := h
    rfl
  · obtain ⟨a, xs, rfl, ha, hl, k⟩ := h
    refine ⟨_, pss_one (ps_ret (pe_op op_cat (pe_lst (pa_cons (pe_callB call_len_seq (by rfl) B.len PySem.boot_len (pa_cons (pv 0) pa_nil)) pa_nil)) (pv 0))), ?_⟩
    refine ⟨_, rfl, a, _, rfl, .inl (SqL.of ha), by show 1 ≤ sizeLine; decide, fun p hp => ?_⟩
    have s1 := Same.new (o := .lst [.int ((intL xs).length : Nat)]) hp
    refine ⟨_, rfl, p, a, _, _, rfl, rfl, upd_same, s1 _ _ ha, (by rw [List.length_map, sizeLine_eq]; show 1 + _ ≤ _; omega), fun c hc => ?_⟩
    refine k c _ ?_ (s1.trans (Same.new hc))
    rw [upd_same, List.length_map]
    rfl
theorem scWarpInit : FnScope ["self", "pegs", "threads"] ["self", "pegs", "threads"] (defScope sWarpInit) := ⟨rfl, rfl, rfl, by decide +kernel, rfl, by decide +kernel, by decide +kernel⟩
theorem ok_warpinit {f C : Addr} {fd : FuncData} (F : Fun K "__init__" "Warp.__init__" sWarpInit f fd) (T : TxtP K mg C) : FnOk P w K mg base CX0 1 f fd ["self", "pegs", "threads"] (spWarpInit C) := by
  refine F.ok scWarpInit (fun vs H Q E h => ?_) (fun cdv A outer s H vs Q E hr h => ?_)
  · obtain ⟨p, dx, pa, ta, s, rfl, _⟩ := h
    rfl
  · obtain ⟨p, dx, pa, ta, x, rfl, hp, hpa, hta, k⟩ := h
    refine ⟨_, pss_cons (ps_fld (pv 0) (pv 1) rfl) (pss_one (ps_fld (pv 0) (pv 2) rfl)), ?_⟩
    refine ⟨_, rfl, _, rfl, p, C, dx, [], rfl, hp, T.cl, T.nP, (by show 0 < 1000; decide), ?_⟩
    refine ⟨_, rfl, _, rfl, p, C, dx, _, rfl, upd_same, T.cl, T.nT, (by show 1 < 1000; decide), ?_⟩
    have n1 : pa ≠ p := ne_of hpa hp (fun z => nomatch z)
    have n2 : ta ≠ p := ne_of hta hp (fun z => nomatch z)
    refine k _ ⟨dx, pa, ta, upd_same, ?_, ?_⟩ fun b o e hb => ?_
    · rw [upd_ne n1, upd_ne n1]; exact hpa
    · rw [upd_ne n2, upd_ne n2]; exact hta
    · rw [upd_ne hb, upd_ne hb]; exact e
end
end Wrp

end
section
set_option Elab.async false
set_option linter.all false
set_option maxRecDepth 100000
set_option maxHeartbeats 4000000
namespace Wrp
open PySem PySem.Spec PyProof.Rows L2
open PySem.W (Codec)
theorem SameX.of {p : Addr} {H H' : Hp} (s : Same H H') : SameX p H H' := fun b o e _ => s b o e
theorem SameX.trans {p : Addr} {H H1 H2 : Hp} (a : SameX p H H1) (b : SameX p H1 H2) : SameX p H H2 := fun c o e hc => b c o (a c o e hc) hc
theorem out_ok (z : Int) : Sw88Neutral.out (Sw88.ok z) = [z] := rfl
theorem pts_yes {X : Cx} : PTs X [] tYes := pts_nil
section
variable {P : Program} {w : World} {K : PySem.W.Frag} {mg : Str → Option Value} {base : Heap}
theorem scBegins : FnScope ["warp", "pegs"] ["warp", "pegs"] (defScope sBegins) := ⟨rfl, rfl, rfl, by decide +kernel, rfl, by decide +kernel, by decide +kernel⟩
theorem ok_begins {f C : Addr} {fd : FuncData} (F : Fun K "begins" "begins" sBegins f fd) (T : TxtP K mg C) (B : Nums mg) : FnOk P w K mg base CX0 1 f fd ["warp", "pegs"] (spBegins C) := by
  obtain ⟨t4, m4⟩ := B.pegs
  obtain ⟨tr, mr⟩ := B.rng
  refine F.ok scBegins (fun vs H Q E h => ?_) (fun cdv A outer s H vs Q E hr h => ?_)
  · obtain ⟨p, n, s, rfl, _⟩ := h
    rfl
  · obtain ⟨p, n, x, rfl, hw, hok, k⟩ := h
    obtain ⟨dx, pa, ta, hp, hpa, hta⟩ := id hw
    refine ⟨_, pss_cons (ps_if (PW.pt (pw_or (pt_cmpR op_lt (pv 1) pe_int (nomark _)) (pw_or1 (pt_cmpR op_gt (pv 1) (pe_glob (v := .int 4) rfl m4 ⟨t4, rfl⟩) (nomark _))))) (pss_one (ps_ret (pe_lst (pa_cons (pe_glob (v := .int (-1)) rfl mr ⟨tr, rfl⟩) pa_nil)))) pss_nil)
      (pss_cons (ps_fld (pv 0) (pe_op op_timesT (pe_tup (pa_cons pe_int pa_nil)) (pv 1)) rfl)
      (pss_cons (ps_fld (pv 0) (pe_tup pa_nil) rfl)
      (pss_one (ps_ret (pe_lst (pa_cons pe_int pa_nil)))))), ?_⟩
    have bad : (n < 1 ∨ Sw88.PEGS < n) → ∀ c, H c = none → Q (.ref c) (upd H c (.lst [.int (-1)])) := fun hb c hc => by
      have es : Sw88.step x (.begins n) = (x, Sw88.ok (-1)) := by
        show (if n < 1 ∨ Sw88.PEGS < n then (x, Sw88.ok (-1)) else ((⟨List.replicate n 0, []⟩ : St8), Sw88.ok 0)) = _
        rw [if_pos hb]
      have k := k c (upd H c (.lst [.int (-1)]))
      rw [es] at k
      exact k hc upd_same (hw.same (Same.new hc)) (SameX.of (Same.new hc))
    refine ⟨_, rfl, _, _, rfl, rfl, _, rfl, ite2 (fun c => ?_) (fun c => ?_)⟩
    · have hb : n < 1 := by have := of_decide_eq_true c; omega
      exact iteT ⟨by show 1 ≤ sizeLine; decide, bad (.inl hb)⟩
    · have h1 : ¬ n < 1 := fun z => c (decide_eq_true (by omega))
      refine ⟨_, rfl, _, _, rfl, rfl, _, rfl, ite2 (fun c2 => ?_) (fun c2 => ?_)⟩
      · have hb : Sw88.PEGS < n := by have := of_decide_eq_true c2; unfold Sw88.PEGS; omega
        exact ⟨by show 1 ≤ sizeLine; decide, bad (.inr hb)⟩
      · have h4 : n ≤ 4 := by
          refine Decidable.byContradiction fun z => c2 (decide_eq_true (by omega))
        refine ⟨by show 1 ≤ sizeLine; decide, fun t1 ht1 => ?_⟩
        have s1 := Same.new (o := .tup [.int 0]) ht1
        refine ⟨_, rfl, t1, .int 0, (n : Nat), rfl, rfl, upd_same, by omega, by omega, fun c1 H1 hc1 s2 => ?_⟩
        have s12 := s1.trans s2
        refine ⟨_, rfl, p, C, dx, _, rfl, s12 _ _ hp, T.cl, T.nP, (by rw [wpf_eq]; show 2 < 1000; decide), ?_⟩
        refine ⟨by show 0 ≤ sizeLine; exact Nat.zero_le _, fun t2 ht2 => ?_⟩
        rw [wpf_setp] at ht2
        have s3 := Same.new (o := .tup []) ht2
        rw [wpf_setp]
        refine ⟨_, rfl, p, C, dx, _, rfl, s3 _ _ upd_same, T.cl, T.nT, (by rw [wpf_eq]; show 2 < 1000; decide), ?_⟩
        rw [wpf_sett]
        refine ⟨by show 1 ≤ sizeLine; decide, fun c ha => ?_⟩
        have es : Sw88.step x (.begins n) = (⟨List.replicate n 0, []⟩, Sw88.ok 0) := by
          show (if n < 1 ∨ Sw88.PEGS < n then (x, Sw88.ok (-1)) else ((⟨List.replicate n 0, []⟩ : St8), Sw88.ok 0)) = _
          rw [if_neg (by unfold Sw88.PEGS; omega)]
        have k := k c
        rw [es] at k
        have np : p ≠ c := fun z => by rw [← z, upd_same] at ha; cases ha
        have nc1 : c1 ≠ p := ne_of hc1 (s12 _ _ hp) (fun z => nomatch z)
        have nt2 : t2 ≠ p := fun z => by rw [z, upd_same] at ht2; cases ht2
        have s4 := Same.new (o := .lst [.int 0]) ha
        have sx : SameX p H (upd (upd (upd H1 p (.ins C dx (wpf c1 ta))) t2 (.tup [])) p (.ins C dx (wpf c1 t2))) := fun b o e hb => by
          rw [upd_ne hb]
          refine s3 _ _ ?_
          rw [upd_ne hb]
          exact s12 _ _ e
        refine k _ (freeX sx upd_same ha) upd_same ⟨dx, c1, t2, s4 _ _ upd_same, s4 _ _ ?_, s4 _ _ ?_⟩ fun b o e hb => s4 _ _ (sx b o e hb)
        · rw [upd_ne nc1]
          refine s3 _ _ ?_
          rw [upd_ne nc1, hc1]
          show some (HO.tup (List.replicate ((n : Nat) : Int).toNat (V.int 0))) = some (HO.tup (natT (List.replicate n 0)))
          rw [Int.toNat_natCast]
          unfold natT
          rw [List.map_replicate]
          rfl
        · rw [upd_ne nt2, upd_same]
          rfl
end
end Wrp

end
section
set_option Elab.async false
set_option linter.all false
set_option maxRecDepth 100000
set_option maxHeartbeats 4000000
namespace Wrp
open PySem PySem.Spec PyProof.Rows L2
open PySem.W (Codec)
/-! ### the methods of a warp -/
abbrev sCanWind : Stmt := inClass (top 11) 1
abbrev sWindSec : Stmt := inClass (top 11) 2
def badS (r : Rack) (l : List Nat) (s : Sec) : Prop := s.long = 0 ∨ r.length < s.long ∨ l.length < s.long
instance (r : Rack) (l : List Nat) (s : Sec) : Decidable (badS r l s) := by unfold badS; exact inferInstance
def spCanWind (C : Addr) : Sp := fun vs H Q _ => ∃ (p : Addr) (n : Nat) (s : St8), vs = [.ref p, .int (n : Nat)] ∧ WarpAt C H p s ∧ Q (.bl (decide (1 ≤ n) && (decide (n ≤ s.left.length) && decide (n ≤ s.rack.length)))) H
def spWindSec (C : Addr) : Sp := fun vs H Q _ => ∃ (p : Addr) (sc : Sec) (s : St8), vs = [.ref p, .int (sc.long : Nat), .int (Sw88.bit sc.turned : Nat)] ∧ WarpAt C H p s ∧ ¬ badS s.rack s.left sc ∧ s.rack.length ≤ 4 ∧
  ∀ H', WarpAt C H' p ⟨Sw88.put s.rack (Sw88.wanted sc s.left), s.left.drop sc.long⟩ → SameX p H H' → Q (.int (Sw88.changes s.rack (Sw88.wanted sc s.left) : Nat)) H'
theorem cut_to (xs : List V) (k : Nat) (h : k ≤ xs.length) : cutV xs none (some (k : Int)) = xs.take k := by
  unfold cutV
  rw [HT.sIx_none, HT.sIx_nat, Nat.min_eq_left h]
  rfl
/-- what is known of the class Warp -/
structure Warps (P : Program) (w : World) (K : PySem.W.Frag) (mg : Str → Option Value) (base : Heap) (C : Addr) : Prop where
  T : TxtP K mg C
  L : Blt mg
  make : ∃ f fd, Mk K C f ∧ FnOk P w K mg base CX0 1 f fd ["self", "pegs", "threads"] (spWarpInit C) ∧ Binds K fd ["self", "pegs", "threads"] []
  can : ∃ f fd, Meth K C "can_wind" f ∧ FnOk P w K mg base CX0 1 f fd ["self", "length"] (spCanWind C) ∧ Binds K fd ["self", "length"] []
  sec : ∃ f fd, Meth K C "wind_section" f ∧ FnOk P w K mg base CX0 2 f fd ["self", "length", "turned"] (spWindSec C) ∧ Binds K fd ["self", "length", "turned"] []
/-- a def of the text, by what it promises -/
def Has (P : Program) (w : World) (K : PySem.W.Frag) (mg : Str → Option Value) (base : Heap) (k : Nat) (x : Str) (ps : List Str) (sp : Sp) : Prop :=
  ∃ f fd, FnOk P w K mg base CX0 k f fd ps sp ∧ Binds K fd ps [] ∧ mg x = some (.ref f) ∧ PySem.W.keepIn K (.ref f) = true
theorem can_bad {s : St8} {sc : Sec} (h : (!(decide (1 ≤ sc.long) && (decide (sc.long ≤ s.left.length) && decide (sc.long ≤ s.rack.length)))) = true) : badS s.rack s.left sc := by
  refine Decidable.byContradiction fun z => ?_
  have hz : ¬ (sc.long = 0 ∨ s.rack.length < sc.long ∨ s.left.length < sc.long) := z
  rw [decide_eq_true (show 1 ≤ sc.long by omega), decide_eq_true (show sc.long ≤ s.left.length by omega), decide_eq_true (show sc.long ≤ s.rack.length by omega)] at h
  cases h
theorem can_good {s : St8} {sc : Sec} (h : ¬ (!(decide (1 ≤ sc.long) && (decide (sc.long ≤ s.left.length) && decide (sc.long ≤ s.rack.length)))) = true) : ¬ badS s.rack s.left sc := by
  rw [Bool.not_eq_true, Bool.not_eq_false', Bool.and_eq_true, Bool.and_eq_true] at h
  have a1 := of_decide_eq_true h.1
  have a2 := of_decide_eq_true h.2.1
  have a3 := of_decide_eq_true h.2.2
  intro z
  have hz : sc.long = 0 ∨ s.rack.length < sc.long ∨ s.left.length < sc.long := z
  omega
section
variable {P : Program} {w : World} {K : PySem.W.Frag} {mg : Str → Option Value} {base : Heap}
theorem scCanWind : FnScope ["self", "length"] ["self", "length"] (defScope sCanWind) := ⟨rfl, rfl, rfl, by decide +kernel, rfl, by decide +kernel, by decide +kernel⟩
theorem ok_canwind {f C : Addr} {fd : FuncData} (F : Fun K "can_wind" "Warp.can_wind" sCanWind f fd) (T : TxtP K mg C) (L : Blt mg) : FnOk P w K mg base CX0 1 f fd ["self", "length"] (spCanWind C) := by
  refine F.ok scCanWind (fun vs H Q E h => ?_) (fun cdv A outer s H vs Q E hr h => ?_)
  · obtain ⟨p, n, s, rfl, _⟩ := h
    rfl
  · obtain ⟨p, n, x, rfl, hw, k⟩ := h
    obtain ⟨dx, pa, ta, hp, hpa, hta⟩ := id hw
    refine ⟨_, pss_one (ps_ret (pe_and (pe_cmpR op_le pe_int (pv 1) (nomark _)) (pe_and (pe_cmpR op_le (pv 1) (pe_callB call_len_seq (by rfl) L.len PySem.boot_len (pa_cons (pe_fld (pv 0) rfl) pa_nil)) (nomark _))
      (pe_one (pe_cmpR op_le (pv 1) (pe_callB call_len_seq (by rfl) L.len PySem.boot_len (pa_cons (pe_fld (pv 0) rfl) pa_nil)) (nomark _)))))), ?_⟩
    refine ⟨_, rfl, _, _, rfl, rfl, _, rfl, ?_⟩
    by_cases h1 : 1 ≤ n
    · rw [if_pos (decide_eq_true (show (1 : Int) ≤ ((n : Nat) : Int) by omega))]
      refine ⟨_, rfl, _, rfl, p, C, dx, _, _, rfl, hp, T.cl, T.nT, wpf_thr _ _, ta, _, rfl, .inr (SqT.of hta), _, _, rfl, rfl, _, rfl, ?_⟩
      rw [natT_length]
      by_cases h2 : n ≤ x.left.length
      · rw [if_pos (decide_eq_true (show ((n : Nat) : Int) ≤ ((x.left.length : Nat) : Int) by omega))]
        refine ⟨_, rfl, _, rfl, p, C, dx, _, _, rfl, hp, T.cl, T.nP, wpf_pegs _ _, pa, _, rfl, .inr (SqT.of hpa), _, _, rfl, rfl, ?_⟩
        rw [decide_eq_true h1, decide_eq_true h2, Bool.true_and, Bool.true_and] at k
        rw [natT_length]
        have e : decide (((n : Nat) : Int) ≤ ((x.rack.length : Nat) : Int)) = decide (n ≤ x.rack.length) := decide_eq_decide.mpr (by omega)
        show Q (V.bl (decide (((n : Nat) : Int) ≤ ((x.rack.length : Nat) : Int)))) H
        rw [e]
        exact k
      · rw [if_neg (by simpa using h2)]
        rw [decide_eq_false h2, Bool.false_and, Bool.and_false] at k
        exact k
    · rw [if_neg (fun z => h1 (by have := of_decide_eq_true z; omega))]
      rw [decide_eq_false h1, Bool.false_and] at k
      exact k
theorem scWindSec : FnScope ["self", "length", "turned", "wanted", "bobbins"] ["self", "length", "turned"] (defScope sWindSec) := ⟨rfl, rfl, rfl, by decide +kernel, rfl, by decide +kernel, by decide +kernel⟩
theorem ok_windsec {f C Cw : Addr} {fd : FuncData} (F : Fun K "wind_section" "Warp.wind_section" sWindSec f fd) (T : TxtP K mg C) (G : Plans P w K mg base Cw) : FnOk P w K mg base CX0 2 f fd ["self", "length", "turned"] (spWindSec C) := by
  obtain ⟨_, L, _, ⟨fW, fdW, GW, bW, mW, kW⟩, ⟨fB, fdB, GB, bB, mB, kB⟩, ⟨fA, fdA, GA, bA, mA, kA⟩, _, _⟩ := G
  refine F.ok scWindSec (fun vs H Q E h => ?_) (fun cdv A outer s H vs Q E hr h => ?_)
  · obtain ⟨p, sc, s, rfl, _⟩ := h
    rfl
  · obtain ⟨p, sc, x, rfl, hw, hgood, hr4, k⟩ := h
    obtain ⟨dx, pa, ta, hp, hpa, hta⟩ := id hw
    have hg : ¬ (sc.long = 0 ∨ x.rack.length < sc.long ∨ x.left.length < sc.long) := hgood
    have hwl : (Sw88.wanted sc x.left).length = sc.long := wanted_length (by omega)
    have r1 : Room 1 _ := hr
    refine ⟨_, pss_cons (ps_set (i := 3) scWindSec.nd rfl (Or.inl rfl) (pe_call GW r1 rfl mW kW bW .nil pass0 (pa_cons (pe_slice sl_cutT (pe_fld (pv 0) rfl) po_none (po_some (pv 1))) (pa_cons (pv 2) pa_nil))))
      (pss_cons (ps_set (i := 4) scWindSec.nd rfl (Or.inl rfl) (pe_call GB r1 rfl mB kB bB .nil pass0 (pa_cons (pe_fld (pv 0) rfl) (pa_cons (pv 3) pa_nil))))
      (pss_cons (ps_fld (pv 0) (pe_call GA r1 rfl mA kA bA .nil pass0 (pa_cons (pe_fld (pv 0) rfl) (pa_cons (pv 3) pa_nil))) rfl)
      (pss_cons (ps_fld (pv 0) (pe_slice sl_cutT (pe_fld (pv 0) rfl) (po_some (pv 1)) po_none) rfl)
      (pss_one (ps_ret (pv 4)))))), ?_⟩
    refine ⟨_, rfl, p, C, dx, _, _, rfl, hp, T.cl, T.nT, wpf_thr _ _, _, rfl, _, rfl, ta, _, rfl, hta, fun c1 H1 hc1 t1 => ?_⟩
    rw [cut_to _ _ (by rw [natT_length]; omega), natT_take] at hc1
    refine ⟨_, rfl, c1, _, _, rfl, hc1, (fun _ => by rw [natT_length, List.length_take]; omega), fun c2 H2 hc2 t2 => ?_⟩
    rw [wanted_natT] at hc2
    have t12 := t1.trans t2
    refine ⟨_, rfl, p, C, dx, _, _, rfl, t12 _ _ hp, T.cl, T.nP, wpf_pegs _ _, _, rfl, pa, c2, x.rack, Sw88.wanted sc x.left, rfl, t12 _ _ hpa, hc2, by omega, fun H3 t3 => ?_⟩
    have t13 := t12.trans t3
    refine ⟨_, rfl, p, C, dx, _, _, rfl, t13 _ _ hp, T.cl, T.nP, wpf_pegs _ _, _, rfl, pa, c2, x.rack, Sw88.wanted sc x.left, rfl, t13 _ _ hpa, t3 _ _ hc2, by omega, by omega, fun c4 H4 hc4 t4 => ?_⟩
    have t14 := t13.trans t4
    refine ⟨_, rfl, p, C, dx, _, rfl, t14 _ _ hp, T.cl, T.nP, (by rw [wpf_eq]; show 2 < 1000; decide), ?_⟩
    rw [wpf_setp]
    have nta : ta ≠ p := ne_of hta hp (fun z => nomatch z)
    have nc4 : c4 ≠ p := ne_of hc4 (t14 _ _ hp) (fun z => nomatch z)
    refine ⟨_, rfl, p, C, dx, _, _, rfl, upd_same, T.cl, T.nT, wpf_thr _ _, _, rfl, _, rfl, ta, _, rfl, (by rw [upd_ne nta]; exact t14 _ _ hta), fun c5 H5 hc5 t5 => ?_⟩
    rw [cut_from, natT_drop] at hc5
    refine ⟨_, rfl, p, C, dx, _, rfl, t5 _ _ upd_same, T.cl, T.nT, (by rw [wpf_eq]; show 2 < 1000; decide), ?_⟩
    rw [wpf_sett]
    have nc5 : c5 ≠ p := ne_of hc5 (t5 _ _ upd_same) (fun z => nomatch z)
    refine ⟨_, rfl, k _ ⟨dx, c4, c5, upd_same, ?_, ?_⟩ fun b o e hb => ?_⟩
    · rw [upd_ne nc4]
      exact t5 _ _ (by rw [upd_ne nc4]; exact hc4)
    · rw [upd_ne nc5]; exact hc5
    · rw [upd_ne hb]
      exact t5 _ _ (by rw [upd_ne hb]; exact t14 _ _ e)
end
end Wrp

end
section
set_option Elab.async false
set_option linter.all false
set_option maxRecDepth 100000
set_option maxHeartbeats 4000000
namespace Wrp
open PySem PySem.Spec PyProof.Rows L2
open PySem.W (Codec)
def badC (c : Nat) : Bool := decide ((c : Int) < 1) || decide ((9 : Int) < c)
theorem all_bad (l : List Nat) : (l.all fun c => decide (1 ≤ c) && decide (c ≤ Sw88.COLOURS)) = !((l.map badC).any id) := by
  induction l with
  | nil => rfl
  | cons c l ih =>
    rw [List.all_cons, ih, List.map_cons, List.any_cons, Bool.not_or]
    congr 1
    unfold badC Sw88.COLOURS
    by_cases h1 : 1 ≤ c
    · by_cases h2 : c ≤ 9
      · rw [decide_eq_true h1, decide_eq_true h2, decide_eq_false (show ¬ ((c : Nat) : Int) < 1 by omega), decide_eq_false (show ¬ (9 : Int) < ((c : Nat) : Int) by omega)]
        rfl
      · rw [decide_eq_true h1, decide_eq_false h2, decide_eq_false (show ¬ ((c : Nat) : Int) < 1 by omega), decide_eq_true (show (9 : Int) < ((c : Nat) : Int) by omega)]
        rfl
    · rw [decide_eq_false h1, decide_eq_true (show ((c : Nat) : Int) < 1 by omega)]
      rfl
section
variable {P : Program} {w : World} {K : PySem.W.Frag} {mg : Str → Option Value} {base : Heap}
theorem scThreads : FnScope ["warp", "added", "colour"] ["warp", "added"] (defScope sThreads) := ⟨rfl, rfl, rfl, by decide +kernel, rfl, by decide +kernel, by decide +kernel⟩
theorem ok_threads {f C : Addr} {fd : FuncData} (F : Fun K "threads" "threads" sThreads f fd) (T : TxtP K mg C) (B : Nums mg) (L : Blt mg) : FnOk P w K mg base CX0 1 f fd ["warp", "added"] (spThreads C) := by
  obtain ⟨t9, m9⟩ := B.cols
  obtain ⟨tr, mr⟩ := B.rng
  obtain ⟨t12, m12⟩ := B.thrs
  obtain ⟨tm, mm⟩ := B.many
  refine F.ok scThreads (fun vs H Q E h => ?_) (fun cdv A outer s H vs Q E hr h => ?_)
  · obtain ⟨p, b, l, s, rfl, _⟩ := h
    rfl
  · obtain ⟨p, b, l, x, rfl, hw, hok, hb, hl, k⟩ := h
    obtain ⟨dx, pa, ta, hp, hpa, hta⟩ := id hw
    refine ⟨_, pss_cons (ps_if (pt_val (pe_callB (cr_any rfl) (by rfl) L.any boot_anyR (pa_cons (pe_lc (own := [("colour", 2)]) (g := gName 2) rfl scThreads.nd (pi_list (pv 1)) (blkOk_by (by rfl))
        (fun s H C cl fp => by apply pg_name (i := 2) <;> first | rfl | exact scThreads.nd | exact Or.inl rfl | exact Or.inr rfl) (fun s H C cl fp => pts_nil)
        (fun s H C cl fp => pe_or (pe_cmpR op_lt (pv 2) pe_int (nomark _)) (pe_one (pe_cmpR op_gt (pv 2) (pe_glob (v := .int 9) rfl m9 ⟨t9, rfl⟩) (nomark _))))) pa_nil)))
        (pss_one (ps_ret (pe_lst (pa_cons (pe_glob (v := .int (-1)) rfl mr ⟨tr, rfl⟩) pa_nil)))) pss_nil)
      (pss_cons (ps_if (pt_cmpR op_gt (pe_op op_add (pe_callB call_len_seq (by rfl) L.len PySem.boot_len (pa_cons (pe_fld (pv 0) rfl) pa_nil)) (pe_callB call_len_seq (by rfl) L.len PySem.boot_len (pa_cons (pv 1) pa_nil))) (pe_glob (v := .int 12) rfl m12 ⟨t12, rfl⟩) (nomark _))
        (pss_one (ps_ret (pe_lst (pa_cons (pe_glob (v := .int (-5)) rfl mm ⟨tm, rfl⟩) pa_nil)))) pss_nil)
      (pss_cons (ps_fld (pv 0) (pe_op op_plusT (pe_fld (pv 0) rfl) (pe_callTy call_tuple_of (by rfl) L.tup boot_tupleR (pa_cons (pv 1) pa_nil))) rfl)
      (pss_one (ps_ret (pe_lst (pa_cons (pe_callB call_len_seq (by rfl) L.len PySem.boot_len (pa_cons (pe_fld (pv 0) rfl) pa_nil)) pa_nil)))))), ?_⟩
    refine ⟨_, rfl, b, rfl, ⟨_, SqL.of hb⟩, fun D hD => ?_⟩
    have sD := Same.new (o := .lst []) hD
    refine lc_list (K := K) (a := b) (xs := natT l) (fun i H' => Same H H' ∧ H' D = some (.lst (((l.take i).map badC).map V.bl))) ⟨sD, upd_same⟩ (fun i H' _ p => SqL.of (p.1 _ _ hb)) ?_ ?_
    · rintro i y H' hi ⟨sm, hd⟩
      obtain ⟨c, hc, rfl⟩ : ∃ c, l[i]? = some c ∧ y = V.int (c : Nat) := by
        unfold natT at hi
        rw [List.getElem?_map] at hi
        cases e : l[i]? with
        | none => rw [e] at hi; cases hi
        | some c => rw [e] at hi; exact ⟨c, rfl, (Option.some.inj hi).symm⟩
      have et : l.take (i + 1) = l.take i ++ [c] := by rw [List.take_succ, hc]; rfl
      have fin : ∀ z : Bool, z = badC c → ∃ acc, H' D = some (.lst acc) ∧ acc.length < sizeLine ∧ (Same H (upd H' D (.lst (acc ++ [V.bl z]))) ∧ (upd H' D (.lst (acc ++ [V.bl z]))) D = some (.lst (((l.take (i + 1)).map badC).map V.bl))) := fun z hz => by
        refine ⟨_, hd, ?_, same_put sm hD, ?_⟩
        · rw [List.length_map, List.length_map, List.length_take, sizeLine_eq]; omega
        · rw [upd_same, et, List.map_append, List.map_append, hz]
          rfl
      refine ⟨rfl, ?_⟩
      unfold tYes
      simp only [if_true]
      refine ⟨_, rfl, _, _, rfl, rfl, _, rfl, ite2 (fun q => ?_) (fun q => ?_)⟩
      · refine fin true ?_
        unfold badC
        rw [q]
        rfl
      · refine ⟨_, rfl, _, _, rfl, rfl, fin _ ?_⟩
        unfold badC
        rw [Bool.not_eq_true] at q
        rw [q]
        rfl
    · rintro H' ⟨sm, hd⟩
      have el : (natT l).length = l.length := natT_length l
      rw [el, List.take_length] at hd
      refine ⟨D, l.map badC, rfl, SqL.of hd, _, rfl, ?_⟩
      have hw' := hw.same sm
      obtain ⟨dx, pa, ta, hp, hpa, hta⟩ := id hw'
      have hb' := sm _ _ hb
      refine ite2 (fun q => ?_) (fun q => ?_)
      · refine ⟨by show 1 ≤ sizeLine; decide, fun c hc => ?_⟩
        have es : Sw88.step x (.threads l) = (x, Sw88.ok (-1)) := by
          show (if (l.all fun c => decide (1 ≤ c) && decide (c ≤ Sw88.COLOURS)) = false then (x, Sw88.ok (-1)) else if Sw88.THREADS < x.left.length + l.length then (x, Sw88.ok (-5)) else ({ x with left := x.left ++ l }, Sw88.ok (x.left.length + l.length : Nat))) = _
          rw [if_pos (by rw [all_bad, q]; rfl)]
        have k := k c
        rw [es] at k
        exact k _ (sm.free hc) upd_same (hw'.same (Same.new hc)) (SameX.of (sm.trans (Same.new hc)))
      · have hgood : ¬ (l.all fun c => decide (1 ≤ c) && decide (c ≤ Sw88.COLOURS)) = false := by
          rw [all_bad]
          rw [Bool.not_eq_true] at q
          rw [q]
          decide
        refine ⟨_, rfl, p, C, dx, _, _, rfl, hp, T.cl, T.nT, wpf_thr _ _, ta, _, rfl, .inr (SqT.of hta), _, rfl, b, _, rfl, .inl (SqL.of hb'), _, _, rfl, rfl, _, _, rfl, rfl, _, rfl, ite2 (fun q2 => ?_) (fun q2 => ?_)⟩
        · have hm : Sw88.THREADS < x.left.length + l.length := by
            have := of_decide_eq_true q2
            rw [natT_length, natT_length] at this
            unfold Sw88.THREADS
            omega
          refine ⟨by show 1 ≤ sizeLine; decide, fun c hc => ?_⟩
          have es : Sw88.step x (.threads l) = (x, Sw88.ok (-5)) := by
            show (if (l.all fun c => decide (1 ≤ c) && decide (c ≤ Sw88.COLOURS)) = false then (x, Sw88.ok (-1)) else if Sw88.THREADS < x.left.length + l.length then (x, Sw88.ok (-5)) else ({ x with left := x.left ++ l }, Sw88.ok (x.left.length + l.length : Nat))) = _
            rw [if_neg hgood, if_pos hm]
          have k := k c
          rw [es] at k
          exact k _ (sm.free hc) upd_same (hw'.same (Same.new hc)) (SameX.of (sm.trans (Same.new hc)))
        · have hm : ¬ Sw88.THREADS < x.left.length + l.length := fun z => q2 (decide_eq_true (by rw [natT_length, natT_length]; unfold Sw88.THREADS at z; omega))
          have es : Sw88.step x (.threads l) = ({ x with left := x.left ++ l }, Sw88.ok (x.left.length + l.length : Nat)) := by
            show (if (l.all fun c => decide (1 ≤ c) && decide (c ≤ Sw88.COLOURS)) = false then (x, Sw88.ok (-1)) else if Sw88.THREADS < x.left.length + l.length then (x, Sw88.ok (-5)) else ({ x with left := x.left ++ l }, Sw88.ok (x.left.length + l.length : Nat))) = _
            rw [if_neg hgood, if_neg hm]
          refine ⟨_, rfl, p, C, dx, _, _, rfl, hp, T.cl, T.nT, wpf_thr _ _, _, rfl, b, natT l, rfl, .inl ⟨SqL.of hb', fun t1 ht1 => ?_⟩⟩
          have s1 := Same.new (o := .tup (natT l)) ht1
          refine ⟨ta, t1, natT x.left, natT l, rfl, rfl, s1 _ _ hta, upd_same, (by rw [natT_length, natT_length, sizeLine_eq]; unfold Sw88.THREADS at hm; omega), fun c1 H1 hc1 s2 => ?_⟩
          rw [natT_append] at hc1
          have s12 := s1.trans s2
          refine ⟨_, rfl, p, C, dx, _, rfl, s12 _ _ hp, T.cl, T.nT, (by rw [wpf_eq]; show 2 < 1000; decide), ?_⟩
          rw [wpf_sett]
          have nc1 : c1 ≠ p := ne_of hc1 (s12 _ _ hp) (fun z => nomatch z)
          have npa : pa ≠ p := ne_of hpa hp (fun z => nomatch z)
          have hc1' : (upd H1 p (.ins C dx (wpf pa c1))) c1 = some (.tup (natT (x.left ++ l))) := by rw [upd_ne nc1]; exact hc1
          refine ⟨_, rfl, p, C, dx, _, _, rfl, upd_same, T.cl, T.nT, wpf_thr _ _, c1, _, rfl, .inr (SqT.of hc1'), by show 1 ≤ sizeLine; decide, fun c hc => ?_⟩
          have k := k c
          rw [es] at k
          have s3 := Same.new (o := .lst [.int ((natT (x.left ++ l)).length : Nat)]) hc
          have sx : SameX p H (upd H1 p (.ins C dx (wpf pa c1))) := fun b o e hb => by rw [upd_ne hb]; exact s12 _ _ (sm _ _ e)
          refine k _ (freeX sx upd_same hc) ?_ ⟨dx, pa, c1, s3 _ _ upd_same, s3 _ _ (by rw [upd_ne npa]; exact s12 _ _ hpa), s3 _ _ hc1'⟩ fun b o e hb => s3 _ _ (by rw [upd_ne hb]; exact s12 _ _ (sm _ _ e))
          rw [upd_same, natT_length, List.length_append]
          rfl
end
end Wrp

end
section
set_option Elab.async false
set_option linter.all false
set_option maxRecDepth 100000
set_option maxHeartbeats 4000000
namespace Wrp
open PySem PySem.Spec PyProof.Rows L2
open PySem.W (Codec)
abbrev sBest : Stmt := top 24
def spBest (C : Addr) : Sp := fun vs H Q _ => ∃ (p : Addr) (s : St8), vs = [.ref p] ∧ WarpAt C H p s ∧ WOk s ∧ Post C p s .best H Q
def longs (p : List Sec) : List Int := p.map fun s => ((s.long : Nat) : Int)
def bits (p : List Sec) : List Int := p.map fun s => ((Sw88.bit s.turned : Nat) : Int)
theorem best_out (w : Way) : Sw88Neutral.out ⟨((toBest w).bobbins : Nat), [[(toBest w).sections, (toBest w).many], (toBest w).plan.map (fun s => s.long), (toBest w).plan.map fun s => Sw88.bit s.turned]⟩ =
    [((w.bob : Nat) : Int)] ++ (((2 : Nat) : Int) :: [((w.secs.length : Nat) : Int), ((w.plans : Nat) : Int)]) ++ ((w.secs.length : Int) :: longs w.secs) ++ ((w.secs.length : Int) :: bits w.secs) := by
  show ((w.bob : Nat) : Int) :: ([[w.secs.length, w.plans], w.secs.map (fun s => s.long), w.secs.map fun s => Sw88.bit s.turned].flatMap fun w => (w.length : Int) :: w.map fun (x : Nat) => (x : Int)) = _
  rw [List.flatMap_cons, List.flatMap_cons, List.flatMap_cons, List.flatMap_nil, List.length_map, List.length_map, List.map_map, List.map_map, List.append_nil]
  rfl
theorem intL_append (a b : List Int) : intL (a ++ b) = intL a ++ intL b := List.map_append
/-- a plan's pair by its place -/
theorem plan_get {H : Hp} {as : List Addr} {p : List Sec} (h : PrsH H as (prs p)) {i : Nat} {y : V} (hi : (as.map V.ref)[i]? = some y) : ∃ ch sc, y = .ref ch ∧ p[i]? = some sc ∧ H ch = some (.tup [.int (sc.long : Nat), .int (Sw88.bit sc.turned : Nat)]) := by
  rw [List.getElem?_map] at hi
  cases e : as[i]? with
  | none => rw [e] at hi; cases hi
  | some ch =>
    rw [e] at hi
    obtain ⟨q, hq, hpr⟩ := paired_get h e
    unfold prs at hq
    rw [List.getElem?_map] at hq
    cases e2 : p[i]? with
    | none => rw [e2] at hq; cases hq
    | some sc =>
      rw [e2] at hq
      have e3 : pr sc = q := Option.some.inj hq
      subst e3
      exact ⟨ch, sc, (Option.some.inj hi).symm, rfl, hpr⟩
theorem take_map_succ {α β : Type} (f : α → β) {p : List α} {i : Nat} {x : α} (h : p[i]? = some x) : (p.map f).take (i + 1) = (p.map f).take i ++ [f x] := by
  rw [List.take_succ, List.getElem?_map, h]
  rfl
section
variable {P : Program} {w : World} {K : PySem.W.Frag} {mg : Str → Option Value} {base : Heap}
theorem scBest : FnScope ["warp", "way", "lengths", "turns", "section"] ["warp"] (defScope sBest) := ⟨rfl, rfl, rfl, by decide +kernel, rfl, by decide +kernel, by decide +kernel⟩
theorem ok_best {f C Cw fB fL : Addr} {fd fdB fdL : FuncData} (F : Fun K "best" "best" sBest f fd) (T : TxtP K mg C) (W : TxtW K mg Cw) (L : Blt mg) (GB : FnOk P w K mg base CX0 7 fB fdB ["pegs", "threads"] (spBestWay Cw)) (bB : Binds K fdB ["pegs", "threads"] [])
    (mB : mg "best_way" = some (.ref fB)) (kB : PySem.W.keepIn K (.ref fB) = true) (GL : FnOk P w K mg base CX0 1 fL fdL ["numbers"] spListed) (bL : Binds K fdL ["numbers"] []) (mL : mg "listed" = some (.ref fL)) (kL : PySem.W.keepIn K (.ref fL) = true) :
    FnOk P w K mg base CX0 9 f fd ["warp"] (spBest C) := by
  refine F.ok scBest (fun vs H Q E h => ?_) (fun cdv A outer s H vs Q E hr h => ?_)
  · obtain ⟨p, s, rfl, _⟩ := h
    rfl
  · obtain ⟨p, x, rfl, hw, hok, k⟩ := h
    obtain ⟨dx, pa, ta, hp, hpa, hta⟩ := id hw
    have r1 : Room 1 _ := hr.mono (by decide)
    have r7 : Room 7 _ := hr.mono (by decide)
    refine ⟨_, pss_cons (ps_set (i := 1) scBest.nd rfl (Or.inl rfl) (pe_call GB r7 rfl mB kB bB .nil pass0 (pa_cons (pe_fld (pv 0) rfl) (pa_cons (pe_fld (pv 0) rfl) pa_nil))))
      (pss_cons (ps_setLc (i := 2) (own := [("section", 4)]) (g := gName 4) (te := tOp (rIxT K) (tVar 4) (tC (.int 0))) rfl scBest.nd rfl rfl rfl (pi_tup (pe_fld (pv 1) rfl)) (blkOk_by (by rfl))
        (fun s H C cl fp => by apply pg_name (i := 4) <;> first | rfl | exact scBest.nd | exact Or.inl rfl | exact Or.inr rfl) (fun s H C cl fp => pts_nil) (fun s H C cl fp => by exact pe_ix ix_tup (pv 4) pe_int (fun _ _ => rfl)))
      (pss_cons (ps_setLc (i := 3) (own := [("section", 4)]) (g := gName 4) (te := tOp (rIxT K) (tVar 4) (tC (.int 1))) rfl scBest.nd rfl rfl rfl (pi_tup (pe_fld (pv 1) rfl)) (blkOk_by (by rfl))
        (fun s H C cl fp => by apply pg_name (i := 4) <;> first | rfl | exact scBest.nd | exact Or.inl rfl | exact Or.inr rfl) (fun s H C cl fp => pts_nil) (fun s H C cl fp => by exact pe_ix ix_tup (pv 4) pe_int (fun _ _ => rfl)))
      (pss_one (ps_ret (pe_op op_cat (pe_op op_cat (pe_op op_cat (pe_lst (pa_cons (pe_fld (pv 1) rfl) pa_nil))
        (pe_call GL r1 rfl mL kL bL .nil pass0 (pa_cons (pe_lst (pa_cons (pe_callB call_len_seq (by rfl) L.len PySem.boot_len (pa_cons (pe_fld (pv 1) rfl) pa_nil)) (pa_cons (pe_fld (pv 1) rfl) pa_nil))) pa_nil)))
        (pe_call GL r1 rfl mL kL bL .nil pass0 (pa_cons (pv 2) pa_nil))) (pe_call GL r1 rfl mL kL bL .nil pass0 (pa_cons (pv 3) pa_nil))))))), ?_⟩
    refine ⟨_, rfl, p, C, dx, _, _, rfl, hp, T.cl, T.nP, wpf_pegs _ _, _, rfl, p, C, dx, _, _, rfl, hp, T.cl, T.nT, wpf_thr _ _, pa, ta, x.rack, x.left, rfl, hpa, hta, hok.r1, hok.r4, hok.l12, hok.dr, hok.dl, fun a wb H1 hwb hbest hsl s1 => ?_⟩
    obtain ⟨dxw, sa, hw1, as, hsa, hprs⟩ := hwb
    have hl12 := hok.l12
    have la : as.length = wb.secs.length := by
      have q := Paired.length hprs
      unfold prs at q
      rw [List.length_map] at q
      exact q
    have lxs : (as.map V.ref).length = wb.secs.length := by rw [List.length_map, la]
    refine ⟨_, rfl, a, Cw, dxw, _, _, rfl, hw1, W.cl, W.nS, wf_sec _ _ _, sa, rfl, ⟨_, SqT.of hsa⟩, fun D hD => ?_⟩
    have sD := Same.new (o := .lst []) hD
    refine lc_tup (K := K) (a := sa) (xs := as.map V.ref) (fun i H' => Same H1 H' ∧ H' D = some (.lst (intL ((longs wb.secs).take i)))) ⟨sD, upd_same⟩ (fun i H' _ p => SqT.of (p.1 _ _ hsa)) ?_ ?_
    · rintro i y H' hi ⟨sm, hd⟩
      obtain ⟨ch, sc, rfl, hsc, hch⟩ := plan_get hprs hi
      refine ⟨rfl, ?_⟩
      unfold tYes
      simp only [if_true]
      refine ⟨_, rfl, ch, _, _, _, rfl, rfl, SqT.of (sm _ _ hch), rfl, _, hd, ?_, same_put sm hD, ?_⟩
      · rw [List.length_map, List.length_take, sizeLine_eq]
        unfold longs
        rw [List.length_map]
        omega
      · rw [upd_same]
        unfold longs
        rw [take_map_succ _ hsc, intL_append]
        rfl
    · rintro H2 ⟨s2, hd2⟩
      have eD : (longs wb.secs).take (as.map V.ref).length = longs wb.secs := List.take_of_length_le (by unfold longs; rw [List.length_map, lxs]; exact Nat.le_refl _)
      rw [eD] at hd2
      refine ⟨_, rfl, a, Cw, dxw, _, _, rfl, s2 _ _ hw1, W.cl, W.nS, wf_sec _ _ _, sa, rfl, ⟨_, SqT.of (s2 _ _ hsa)⟩, fun D2 hD2 => ?_⟩
      have sD2 := Same.new (o := .lst []) hD2
      have hprs2 := prs_mono (Kp.of s2) hprs
      refine lc_tup (K := K) (a := sa) (xs := as.map V.ref) (fun i H' => Same H2 H' ∧ H' D2 = some (.lst (intL ((bits wb.secs).take i)))) ⟨sD2, upd_same⟩ (fun i H' _ p => SqT.of (p.1 _ _ (s2 _ _ hsa))) ?_ ?_
      · rintro i y H' hi ⟨sm, hd⟩
        obtain ⟨ch, sc, rfl, hsc, hch⟩ := plan_get hprs2 hi
        refine ⟨rfl, ?_⟩
        unfold tYes
        simp only [if_true]
        refine ⟨_, rfl, ch, _, _, _, rfl, rfl, SqT.of (sm _ _ hch), rfl, _, hd, ?_, same_put sm hD2, ?_⟩
        · rw [List.length_map, List.length_take, sizeLine_eq]
          unfold bits
          rw [List.length_map]
          omega
        · rw [upd_same]
          unfold bits
          rw [take_map_succ _ hsc, intL_append]
          rfl
      · rintro H3 ⟨s3, hd3⟩
        have eD2 : (bits wb.secs).take (as.map V.ref).length = bits wb.secs := List.take_of_length_le (by unfold bits; rw [List.length_map, lxs]; exact Nat.le_refl _)
        rw [eD2] at hd3
        have s23 := s2.trans s3
        have hw3 := s23 _ _ hw1
        have hsa3 := s23 _ _ hsa
        have ll : (longs wb.secs).length = wb.secs.length := List.length_map _
        have lb : (bits wb.secs).length = wb.secs.length := List.length_map _
        refine ⟨_, rfl, a, Cw, dxw, _, _, rfl, hw3, W.cl, W.nB, wf_bob _ _ _, by show 1 ≤ sizeLine; decide, fun q1 hq1 => ?_⟩
        have t1 := Same.new (o := .lst [.int ((wb.bob : Nat) : Int)]) hq1
        refine ⟨_, rfl, a, Cw, dxw, _, _, rfl, t1 _ _ hw3, W.cl, W.nS, wf_sec _ _ _, sa, _, rfl, .inr (SqT.of (t1 _ _ hsa3)), _, rfl, a, Cw, dxw, _, _, rfl, t1 _ _ hw3, W.cl, W.nP, wf_pl _ _ _, by show 2 ≤ sizeLine; decide, fun q2 hq2 => ?_⟩
        rw [lxs]
        have t2 := Same.new (o := .lst [.int ((wb.secs.length : Nat) : Int), .int ((wb.plans : Nat) : Int)]) hq2
        refine ⟨q2, [((wb.secs.length : Nat) : Int), ((wb.plans : Nat) : Int)], rfl, upd_same, by show 2 ≤ 1000; decide, fun q3 H4 hq3 t3 => ?_⟩
        have t23 := t2.trans t3
        refine ⟨q1, q3, _, _, rfl, rfl, t23 _ _ upd_same, hq3, by show 1 + 3 ≤ sizeLine; decide, fun q4 hq4 => ?_⟩
        have t4 := Same.new (o := .lst ([.int ((wb.bob : Nat) : Int)] ++ intL (((2 : Nat) : Int) :: [((wb.secs.length : Nat) : Int), ((wb.plans : Nat) : Int)]))) hq4
        have t14 := t1.trans (t23.trans t4)
        refine ⟨_, rfl, D, longs wb.secs, rfl, t14 _ _ (s3 _ _ hd2), by omega, fun q5 H5 hq5 t5 => ?_⟩
        refine ⟨q4, q5, _, _, rfl, rfl, t5 _ _ upd_same, hq5, (by simp only [List.length_append, List.length_map, List.length_cons, List.length_nil]; rw [ll, sizeLine_eq]; omega), fun q6 hq6 => ?_⟩
        have t6 := Same.new (o := .lst ([.int ((wb.bob : Nat) : Int)] ++ intL (((2 : Nat) : Int) :: [((wb.secs.length : Nat) : Int), ((wb.plans : Nat) : Int)]) ++ intL (((longs wb.secs).length : Int) :: longs wb.secs))) hq6
        have t16 := t14.trans (t5.trans t6)
        refine ⟨_, rfl, D2, bits wb.secs, rfl, t16 _ _ hd3, by omega, fun q7 H6 hq7 t7 => ?_⟩
        refine ⟨q6, q7, _, _, rfl, rfl, t7 _ _ upd_same, hq7, (by simp only [List.length_append, List.length_map, List.length_cons, List.length_nil]; rw [ll, lb, sizeLine_eq]; omega), fun q8 hq8 => ?_⟩
        have t8 := fun (o : HO) => Same.new (o := o) hq8
        have es : Sw88.step x .best = (x, ⟨((toBest wb).bobbins : Nat), [[(toBest wb).sections, (toBest wb).many], (toBest wb).plan.map (fun s => s.long), (toBest wb).plan.map fun s => Sw88.bit s.turned]⟩) := by
          show (x, match Sw88.best x.rack x.left with
            | some b => (⟨(b.bobbins : Nat), [[b.sections, b.many], b.plan.map (fun (s : Sec) => s.long), b.plan.map fun (s : Sec) => Sw88.bit s.turned]⟩ : Sw88.Ans)
            | none => Sw88.ok (-6)) = _
          rw [hbest]
        have k := k q8
        rw [es] at k
        have sall := fun (o : HO) => (s1.trans s23).trans ((t16.trans t7).trans (t8 o))
        refine k _ (((s1.trans s23).trans (t16.trans t7)).free hq8) ?_ (hw.same (sall _)) (SameX.of (sall _))
        rw [upd_same, best_out, ll, lb]
        unfold intL
        simp only [List.map_append, List.map_cons, List.map_nil]
        rfl
end
end Wrp

end
section
set_option Elab.async false
set_option linter.all false
set_option maxRecDepth 100000
set_option maxHeartbeats 4000000
namespace Wrp
open PySem PySem.Spec PyProof.Rows L2
open PySem.W (Codec)
abbrev sCheck : Stmt := top 25
def flatP (p : List Sec) : List V := p.flatMap fun s => [V.int (s.long : Nat), V.int (Sw88.bit s.turned : Nat)]
theorem flatP_len : ∀ p : List Sec, (flatP p).length = 2 * p.length
  | [] => rfl
  | s :: p => by
    show (flatP p).length + 1 + 1 = 2 * (p.length + 1)
    rw [flatP_len p]; omega
theorem flatP_get : ∀ (p : List Sec) (i : Nat) (s : Sec), p[i]? = some s → (flatP p)[2 * i]? = some (.int (s.long : Nat)) ∧ (flatP p)[2 * i + 1]? = some (.int (Sw88.bit s.turned : Nat))
  | [], i, s, h => by simp at h
  | t :: p, 0, s, h => by
    have e : t = s := Option.some.inj h
    subst e
    exact ⟨rfl, rfl⟩
  | t :: p, i + 1, s, h => flatP_get p i s h
theorem stuck_len {r r' : Rack} (h : r.length = r'.length) : ∀ (p : List Sec) (i : Nat) (l : List Nat), Sw88.stuck i r l p = Sw88.stuck i r' l p
  | [], _, _ => rfl
  | s :: p, i, l => by
    show (if s.long = 0 ∨ r.length < s.long ∨ l.length < s.long then some i else Sw88.stuck (i + 1) r (l.drop s.long) p) = if s.long = 0 ∨ r'.length < s.long ∨ l.length < s.long then some i else Sw88.stuck (i + 1) r' (l.drop s.long) p
    rw [h, stuck_len h p]
/-- how far a plan has been followed -/
structure Follows (x : St8) (p : List Sec) (i : Nat) (r : Rack) (l : List Nat) (c : Nat) : Prop where
  rl : r.length = x.rack.length
  ll : l.length + total (p.take i) = x.left.length
  st : Sw88.stuck 0 x.rack x.left p = Sw88.stuck i x.rack l (p.drop i)
  fo : Sw88.follow x.rack x.left p = (Sw88.follow r l (p.drop i)).map fun n => c + n
theorem Follows.start (x : St8) (p : List Sec) : Follows x p 0 x.rack x.left 0 := by
  refine ⟨rfl, rfl, rfl, ?_⟩
  show Sw88.follow x.rack x.left p = _
  rw [List.drop_zero]
  cases Sw88.follow x.rack x.left p with
  | none => rfl
  | some n => show some n = some (0 + n); rw [Nat.zero_add]
theorem Follows.bad {x : St8} {p : List Sec} {i : Nat} {r : Rack} {l : List Nat} {c : Nat} {s : Sec} (h : Follows x p i r l c) (hs : p[i]? = some s) (hb : badS r l s) : Sw88.step x (.check p) = (x, ⟨-6, [[i]]⟩) := by
  have ed : p.drop i = s :: p.drop (i + 1) := by
    obtain ⟨hi, e⟩ := List.getElem?_eq_some_iff.mp hs
    rw [List.drop_eq_getElem_cons hi, e]
  have e1 : Sw88.stuck 0 x.rack x.left p = some i := by
    rw [h.st, ed]
    show (if s.long = 0 ∨ x.rack.length < s.long ∨ l.length < s.long then some i else _) = _
    rw [if_pos (by rw [← h.rl]; exact hb)]
  show (x, match Sw88.stuck 0 x.rack x.left p with
    | some i => (⟨-6, [[i]]⟩ : Sw88.Ans)
    | none => match Sw88.follow x.rack x.left p with
      | some n => ⟨(n : Nat), []⟩
      | none => ⟨-4, [[x.left.length - (p.map fun (s : Sec) => s.long).foldl (fun a b => a + b) 0]]⟩) = _
  rw [e1]
theorem Follows.next {x : St8} {p : List Sec} {i : Nat} {r : Rack} {l : List Nat} {c : Nat} {s : Sec} (h : Follows x p i r l c) (hs : p[i]? = some s) (hb : ¬ badS r l s) :
    Follows x p (i + 1) (Sw88.put r (Sw88.wanted s l)) (l.drop s.long) (c + Sw88.changes r (Sw88.wanted s l)) := by
  have ed : p.drop i = s :: p.drop (i + 1) := by
    obtain ⟨hi, e⟩ := List.getElem?_eq_some_iff.mp hs
    rw [List.drop_eq_getElem_cons hi, e]
  have hb' : ¬ (s.long = 0 ∨ r.length < s.long ∨ l.length < s.long) := hb
  have hw : (Sw88.wanted s l).length = s.long := wanted_length (by omega)
  refine ⟨(put_length (by omega)).trans h.rl, ?_, ?_, ?_⟩
  · have et : p.take (i + 1) = p.take i ++ [s] := by rw [List.take_succ, hs]; rfl
    rw [et, total_append, List.length_drop]
    have := h.ll
    show l.length - s.long + (total (p.take i) + (s.long + 0)) = _
    omega
  · rw [h.st, ed]
    show (if s.long = 0 ∨ x.rack.length < s.long ∨ l.length < s.long then some i else Sw88.stuck (i + 1) x.rack (l.drop s.long) (p.drop (i + 1))) = _
    rw [if_neg (by rw [← h.rl]; exact hb')]
  · rw [h.fo, ed]
    have e2 : Sw88.follow r l (s :: p.drop (i + 1)) = if s.long = 0 ∨ r.length < s.long ∨ l.length < s.long then none else (Sw88.follow (Sw88.put r (Sw88.wanted s l)) (l.drop s.long) (p.drop (i + 1))).map fun n => Sw88.changes r (Sw88.wanted s l) + n := by
      cases l <;> rfl
    rw [e2, if_neg hb', Option.map_map]
    congr 1
    funext n
    show c + (Sw88.changes r (Sw88.wanted s l) + n) = c + Sw88.changes r (Sw88.wanted s l) + n
    omega
theorem sum_total (p : List Sec) : (p.map fun s => s.long).foldl (fun a b => a + b) 0 = total p := by
  have : ∀ (p : List Sec) (a : Nat), (p.map fun s => s.long).foldl (fun a b => a + b) a = a + total p := fun p => by
    induction p with
    | nil => intro a; rfl
    | cons s p ih =>
      intro a
      rw [List.map_cons, List.foldl_cons, ih]
      show a + s.long + total p = a + (s.long + total p)
      omega
  rw [this]; omega
theorem Follows.fin {x : St8} {p : List Sec} {r : Rack} {l : List Nat} {c : Nat} (h : Follows x p p.length r l c) : Sw88.step x (.check p) = (x, if 0 < l.length then ⟨-4, [[l.length]]⟩ else ⟨(c : Nat), []⟩) := by
  have e1 : Sw88.stuck 0 x.rack x.left p = none := by rw [h.st, List.drop_length]; rfl
  have e2 := h.fo
  rw [List.drop_length] at e2
  have e3 := h.ll
  rw [List.take_length] at e3
  show (x, match Sw88.stuck 0 x.rack x.left p with
    | some i => (⟨-6, [[i]]⟩ : Sw88.Ans)
    | none => match Sw88.follow x.rack x.left p with
      | some n => ⟨(n : Nat), []⟩
      | none => ⟨-4, [[x.left.length - (p.map fun (s : Sec) => s.long).foldl (fun a b => a + b) 0]]⟩) = _
  rw [e1, e2]
  cases l with
  | nil => rfl
  | cons a l =>
    rw [if_pos (by show 0 < l.length + 1; omega)]
    show (x, (⟨-4, [[x.left.length - (p.map fun s => s.long).foldl (fun a b => a + b) 0]]⟩ : Sw88.Ans)) = _
    rw [sum_total, show x.left.length - total p = (a :: l).length by omega]
def spCheck (C : Addr) : Sp := fun vs H Q _ => ∃ (p b : Addr) (pl : List Sec) (s : St8), vs = [.ref p, .ref b] ∧ WarpAt C H p s ∧ WOk s ∧ H b = some (.lst (flatP pl)) ∧ pl.length ≤ 1000 ∧ Post C p s (.check pl) H Q
section
variable {P : Program} {w : World} {K : PySem.W.Frag} {mg : Str → Option Value} {base : Heap}
theorem scCheck : FnScope ["warp", "sections", "trial", "bobbins", "section", "length"] ["warp", "sections"] (defScope sCheck) := ⟨rfl, rfl, rfl, by decide +kernel, rfl, by decide +kernel, by decide +kernel⟩
theorem ok_check {f C : Addr} {fd : FuncData} (F : Fun K "check" "check" sCheck f fd) (B : Nums mg) (G : Warps P w K mg base C) (GL : Has P w K mg base 1 "listed" ["numbers"] spListed) : FnOk P w K mg base CX0 3 f fd ["warp", "sections"] (spCheck C) := by
  obtain ⟨T, L, ⟨fI, fdI, M, GI, bI⟩, ⟨fN, fdN, mN, GN, bN⟩, ⟨fS, fdS, mS, GS, bS⟩⟩ := G
  obtain ⟨fL, fdL, GL, bL, mL, kL⟩ := GL
  obtain ⟨t4, m4⟩ := B.left
  obtain ⟨t6, m6⟩ := B.notw
  refine F.ok scCheck (fun vs H Q E h => ?_) (fun cdv A outer s H vs Q E hr h => ?_)
  · obtain ⟨p, b, pl, s, rfl, _⟩ := h
    rfl
  · obtain ⟨p, b, pl, x, rfl, hw, hok, hb, hl, k⟩ := h
    obtain ⟨dx, pa, ta, hp, hpa, hta⟩ := id hw
    have r1 : Room 1 _ := hr.mono (by decide)
    have r2 : Room 2 _ := hr
    refine ⟨_, pss_cons (ps_set (i := 2) scCheck.nd rfl (Or.inl rfl) (pe_make M GI r2 rfl T.mgC bI .nil pass0 (pa_cons (pe_fld (pv 0) rfl) (pa_cons (pe_fld (pv 0) rfl) pa_nil))))
      (pss_cons (ps_set (i := 3) scCheck.nd rfl (Or.inl rfl) pe_int)
      (pss_cons (ps_for PassesOwn.never rfl (pi_range1 (by rfl) L.rng (pa_cons (pe_op op_fdiv (pe_callB call_len_seq (by rfl) L.len PySem.boot_len (pa_cons (pv 1) pa_nil)) pe_int) pa_nil)) (pg_name (i := 4) scCheck.nd rfl (Or.inl rfl))
        (pss_cons (ps_set (i := 5) scCheck.nd rfl (Or.inl rfl) (pe_ix ix_list (pv 1) (pe_op op_mul pe_int (pv 4)) (fun _ _ => rfl)))
        (pss_cons (ps_if (pt_not (pt_val (pe_meth (pv 2) T.cl mN GN r1 bN .nil pass0 (pa_cons (pv 5) pa_nil))))
          (pss_one (ps_ret (pe_op op_cat (pe_lst (pa_cons (pe_glob (v := .int (-6)) rfl m6 ⟨t6, rfl⟩) pa_nil)) (pe_call GL r1 rfl mL kL bL .nil pass0 (pa_cons (pe_lst (pa_cons (pv 4) pa_nil)) pa_nil))))) pss_nil)
        (pss_one (ps_set (i := 3) scCheck.nd rfl (Or.inl rfl) (pe_op op_add (pv 3) (pe_meth (pv 2) T.cl mS GS r2 bS .nil pass0 (pa_cons (pv 5) (pa_cons (pe_ix ix_list (pv 1) (pe_op op_add (pe_op op_mul pe_int (pv 4)) pe_int) (fun _ _ => rfl)) pa_nil)))))))))
      (pss_cons (ps_if (pt_cmpR op_gt (pe_callB call_len_seq (by rfl) L.len PySem.boot_len (pa_cons (pe_fld (pv 2) rfl) pa_nil)) pe_int (nomark _))
        (pss_one (ps_ret (pe_op op_cat (pe_lst (pa_cons (pe_glob (v := .int (-4)) rfl m4 ⟨t4, rfl⟩) pa_nil)) (pe_call GL r1 rfl mL kL bL .nil pass0 (pa_cons (pe_lst (pa_cons (pe_callB call_len_seq (by rfl) L.len PySem.boot_len (pa_cons (pe_fld (pv 2) rfl) pa_nil)) pa_nil)) pa_nil))))) pss_nil)
      (pss_one (ps_ret (pe_lst (pa_cons (pv 3) pa_nil))))))), ?_⟩
    refine ⟨_, rfl, p, C, dx, _, _, rfl, hp, T.cl, T.nP, wpf_pegs _ _, _, rfl, p, C, dx, _, _, rfl, hp, T.cl, T.nT, wpf_thr _ _, fun q dq nq nd ne => ?_⟩
    have s0 : Same H (upd (upd H dq (.own q)) q (.ins C dq [])) := (Same.new nd).trans (Same.new (by rw [upd_ne ne.symm]; exact nq))
    refine ⟨q, dq, pa, ta, x, rfl, upd_same, s0 _ _ hpa, s0 _ _ hta, fun H1 hw1 sx1 => ⟨rfl, ?_⟩⟩
    have s1 : Same H H1 := Same.made nq nd sx1
    refine ⟨_, rfl, b, _, rfl, .inl (SqL.of (s1 _ _ hb)), _, _, rfl, rfl, ⟨by decide, by decide⟩, _, rfl, by rw [flatP_len]; omega, by rw [flatP_len]; omega, ?_⟩
    have en : ((((flatP pl).length : Nat) : Int) / 2).toNat = pl.length := by rw [flatP_len]; omega
    rw [en]
    have hr4 := hok.r4
    refine for_range (lo := 0) (n := pl.length) (fun i σ H' => ∃ (v4 v5 : Option V) (r : Rack) (l : List Nat) (c : Nat), σ = [some (.ref p), some (.ref b), some (.ref q), some (.int (c : Nat)), v4, v5] ∧
        WarpAt C H' q ⟨r, l⟩ ∧ Follows x pl i r l c ∧ Same H H')
      ⟨none, none, x.rack, x.left, 0, rfl, hw1, Follows.start x pl, s1⟩ ?_ ?_
    · rintro i σ H' hi ⟨v4, v5, r, l, c, rfl, hwq, fo, sm⟩
      obtain ⟨sc, hsc⟩ : ∃ sc, pl[i]? = some sc := ⟨_, List.getElem?_eq_getElem hi⟩
      obtain ⟨g1, g2⟩ := flatP_get pl i sc hsc
      obtain ⟨dq', qa, qt, hq, hqa, hqt⟩ := id hwq
      have hb' := sm _ _ hb
      have hrl := fo.rl
      refine ⟨_, rfl, _, rfl, _, _, rfl, rfl, .inl ⟨by decide, by decide⟩, b, _, _, _, rfl, rfl, SqL.of hb', at_of (j := 2 * i) (by omega) g1, ?_⟩
      refine ⟨_, rfl, q, dq', _, rfl, hq, wpf_no _ _ (by decide +kernel) (by decide +kernel), _, rfl, q, sc.long, ⟨r, l⟩, rfl, hwq, _, rfl, ite2 (fun qq => ?_) (fun qq => ?_)⟩
      · have es := fo.bad hsc (can_bad qq)
        refine ⟨by show 1 ≤ sizeLine; decide, fun q1 hq1 => ?_⟩
        have t1 := Same.new (o := .lst [.int (-6)]) hq1
        refine ⟨_, rfl, by show 1 ≤ sizeLine; decide, fun q2 hq2 => ?_⟩
        have t2 := Same.new (o := .lst [.int (0 + ((i : Nat) : Int))]) hq2
        refine ⟨q2, [0 + ((i : Nat) : Int)], rfl, upd_same, by show 1 ≤ 1000; decide, fun q3 H1 hq3 t3 => ?_⟩
        refine ⟨q1, q3, _, _, rfl, rfl, (t2.trans t3) _ _ upd_same, hq3, by show 1 + 2 ≤ sizeLine; decide, fun q4 hq4 => ?_⟩
        have k := k q4
        rw [es] at k
        have sall := fun (o : HO) => ((sm.trans t1).trans (t2.trans t3)).trans (Same.new (o := o) hq4)
        refine k _ (((sm.trans t1).trans (t2.trans t3)).free hq4) ?_ (hw.same (sall _)) (SameX.of (sall _))
        rw [upd_same, Int.zero_add]
        rfl
      · have hgood := can_good qq
        refine ⟨_, rfl, _, rfl, q, dq', _, rfl, hq, wpf_no _ _ (by decide +kernel) (by decide +kernel), _, rfl, _, rfl, _, rfl, _, _, rfl, rfl, .inl ⟨by decide, by decide⟩, _, _, rfl, rfl, b, _, _, _, rfl, rfl, SqL.of hb', at_of (j := 2 * i + 1) (by omega) g2, ?_⟩
        refine ⟨q, sc, ⟨r, l⟩, rfl, hwq, hgood, (by show r.length ≤ 4; omega), fun H2 hw2 sx2 => ⟨_, _, rfl, rfl, ?_⟩⟩
        refine ⟨some (.int (0 + ((i : Nat) : Int))), some (.int ((sc.long : Nat) : Int)), _, _, c + Sw88.changes r (Sw88.wanted sc l), ?_, hw2, fo.next hsc hgood, fun b' o e => sx2 b' o (sm b' o e) (ne_of_none e nq)⟩
        rw [Int.natCast_add]
        rfl
    · rintro σ H' ⟨v4, v5, r, l, c, rfl, hwq, fo, sm⟩
      have es := fo.fin
      obtain ⟨dq', qa, qt, hq, hqa, hqt⟩ := id hwq
      refine ⟨_, rfl, q, C, dq', _, _, rfl, hq, T.cl, T.nT, wpf_thr _ _, qt, _, rfl, .inr (SqT.of hqt), _, _, rfl, rfl, _, rfl, ite2 (fun qq => ?_) (fun qq => ?_)⟩
      · have hpos : 0 < l.length := by
          have h1 := of_decide_eq_true qq
          rw [natT_length] at h1
          have h2 : (0 : Int) < ((l.length : Nat) : Int) := h1
          omega
        rw [if_pos hpos] at es
        refine ⟨by show 1 ≤ sizeLine; decide, fun q1 hq1 => ?_⟩
        have t1 := Same.new (o := .lst [.int (-4)]) hq1
        refine ⟨_, rfl, q, C, dq', _, _, rfl, t1 _ _ hq, T.cl, T.nT, wpf_thr _ _, qt, _, rfl, .inr (SqT.of (t1 _ _ hqt)), by show 1 ≤ sizeLine; decide, fun q2 hq2 => ?_⟩
        have t2 := Same.new (o := .lst [.int (((natT l).length : Nat) : Int)]) hq2
        refine ⟨q2, [(((natT l).length : Nat) : Int)], rfl, upd_same, by show 1 ≤ 1000; decide, fun q3 H1 hq3 t3 => ?_⟩
        refine ⟨q1, q3, _, _, rfl, rfl, (t2.trans t3) _ _ upd_same, hq3, by show 1 + 2 ≤ sizeLine; decide, fun q4 hq4 => ?_⟩
        have k := k q4
        rw [es] at k
        have sall := fun (o : HO) => ((sm.trans t1).trans (t2.trans t3)).trans (Same.new (o := o) hq4)
        refine k _ (((sm.trans t1).trans (t2.trans t3)).free hq4) ?_ (hw.same (sall _)) (SameX.of (sall _))
        rw [upd_same, natT_length]
        rfl
      · have hpos : ¬ 0 < l.length := fun z => qq (decide_eq_true (by rw [natT_length]; show (0 : Int) < ((l.length : Nat) : Int); omega))
        rw [if_neg hpos] at es
        refine ⟨_, rfl, by show 1 ≤ sizeLine; decide, fun q1 hq1 => ?_⟩
        have k := k q1
        rw [es] at k
        have t1 := fun (o : HO) => Same.new (o := o) hq1
        exact k _ (sm.free hq1) upd_same (hw.same (sm.trans (t1 _))) (SameX.of (sm.trans (t1 _)))
end
end Wrp

end
section
set_option Elab.async false
set_option linter.all false
set_option maxRecDepth 100000
set_option maxHeartbeats 4000000
namespace L2
open PySem PySem.Spec PyProof.Rows
/-- t.m(e) of a tracked tuple -/
def tBMT (r : V → List V → Hp → VK → Prop) (to : TE) (t : TA) : TE := fun σ H Q => to σ H fun x H1 => (∃ a ys, x = .ref a ∧ H1 a = some (.tup ys)) ∧ t σ H1 fun xs H2 => r x xs H2 Q
theorem pe_bmT {X : Cx} {o e : Expr} {es : List Expr} {to : TE} {t : TA} {name : Str} {apos cpos : Pos} {id : String} {r : V → List V → Hp → VK → Prop}
    (slot : Slot "tuple" name id) (hty : typeOf (.builtin id) = pure (.type "method_descriptor")) (hm : MtR X id r) (ho : PE X o to) (ha : PA X (e :: es) t)
    (hbase : attributeBase o name X.env (eval o X.env) = eval o X.env := by rfl)
    (hfew : ((backTo cpos (starEach (e :: es) X.env)).all (fun x => !x.1) && (backToKw cpos (keywordEach [] X.env)).all (fun x => x.1.isSome)
      && decide ((e :: es).length + ([] : List Keyword).length + (if ([] : List Keyword).isEmpty then 0 else 1) < 30)) = true := by rfl)
    (hline : (apos.endLine == cpos.line) = true := by rfl) (hs : starEach (e :: es) X.env = (false, eval e X.env) :: starEach es X.env := by rfl) (hplain : (backTo cpos (starEach es X.env)).any (·.1) = false := by rfl) :
    PE X (.Call (.Attribute o name apos) (e :: es) [] cpos) (tBMT r to t) := by
  intro pins s σ H Q I h
  refine wpAny_Call_method_late hbase hfew hline rfl (thn (ho pins s σ H _ I h) fun v s1 ⟨x, H1, I1, r1, ⟨a, ys, ex, ha'⟩, q1⟩ => ?_)
  subst ex
  have ev : v = Value.ref a := r1
  subst ev
  obtain ⟨_, its, _, ob, hob, hcls, n, hd⟩ := (show ObjOk X.prog X.w H1 s1.heap a (.tup ys) from I1.hok a _ ha')
  refine ⟨"tuple", id, PySem.F.plainAttrs_tuple, slot, hty, ⟨ob, hob, hcls⟩, fun b eb => ?_, ?_⟩
  · cases eb
    exact ⟨ob, hob, congrArg Prod.snd hd⟩
  have hA := ha cpos pins s1 σ H1 _ I1 q1
  rw [hs] at hA ⊢
  refine Calls.callWith_builtin (by show (false || (backTo cpos (starEach es X.env)).any (·.1)) = false; rw [hplain] <;> rfl) (Calls.evalArgs_plain ?_)
  exact thn hA fun us s2 ⟨vs, H2, I2, r2, q2⟩ => hm pins s2 σ H2 (.ref a) vs _ us Q I2 rfl r2 q2
end L2
namespace Wrp
open PySem PySem.Spec PyProof.Rows L2
open PySem.W (Codec)
abbrev sRunCount : Stmt := top 21
abbrev sWind : Stmt := top 26
abbrev sRackNow : Stmt := top 27
abbrev sColours : Stmt := top 28
def spWind (C : Addr) : Sp := fun vs H Q _ => ∃ (p : Addr) (sc : Sec) (s : St8), vs = [.ref p, .int (sc.long : Nat), .int (Sw88.bit sc.turned : Nat)] ∧ WarpAt C H p s ∧ WOk s ∧ Post C p s (.wind sc) H Q
def spRack (C : Addr) : Sp := fun vs H Q _ => ∃ (p : Addr) (s : St8), vs = [.ref p] ∧ WarpAt C H p s ∧ WOk s ∧ Post C p s .rack H Q
def spRuns : Sp := fun vs H Q _ => ∃ (a : Addr) (l : List Nat), vs = [.ref a] ∧ H a = some (.tup (natT l)) ∧ l.length ≤ 100 ∧ ∀ H', Same H H' → Q (.int (Sw88.runs l : Nat)) H'
def spColours (C : Addr) : Sp := fun vs H Q _ => ∃ (p : Addr) (s : St8), vs = [.ref p] ∧ WarpAt C H p s ∧ WOk s ∧ Post C p s .colours H Q
theorem natT_ints (l : List Nat) : natT l = (l.map fun (n : Nat) => (n : Int)).map V.int := by
  unfold natT
  rw [List.map_map]
  rfl
theorem natT_get {l : List Nat} {i : Nat} {c : Nat} (h : l[i]? = some c) : (natT l)[i]? = some (.int (c : Nat)) := by
  unfold natT
  rw [List.getElem?_map, h]
  rfl
theorem boot_listR : bootBuiltins "list" = some (.type "list") := by decide +kernel
section
variable {P : Program} {w : World} {K : PySem.W.Frag} {mg : Str → Option Value} {base : Heap}
theorem scWind : FnScope ["warp", "length", "turned"] ["warp", "length", "turned"] (defScope sWind) := ⟨rfl, rfl, rfl, by decide +kernel, rfl, by decide +kernel, by decide +kernel⟩
theorem ok_wind {f C : Addr} {fd : FuncData} (F : Fun K "wind" "wind" sWind f fd) (B : Nums mg) (G : Warps P w K mg base C) : FnOk P w K mg base CX0 3 f fd ["warp", "length", "turned"] (spWind C) := by
  obtain ⟨T, L, _, ⟨fN, fdN, mN, GN, bN⟩, ⟨fS, fdS, mS, GS, bS⟩⟩ := G
  obtain ⟨t6, m6⟩ := B.notw
  refine F.ok scWind (fun vs H Q E h => ?_) (fun cdv A outer s H vs Q E hr h => ?_)
  · obtain ⟨p, sc, s, rfl, _⟩ := h
    rfl
  · obtain ⟨p, sc, x, rfl, hw, hok, k⟩ := h
    obtain ⟨dx, pa, ta, hp, hpa, hta⟩ := id hw
    have r1 : Room 1 _ := hr.mono (by decide)
    have r2 : Room 2 _ := hr
    refine ⟨_, pss_cons (ps_if (pt_not (pt_val (pe_meth (pv 0) T.cl mN GN r1 bN .nil pass0 (pa_cons (pv 1) pa_nil)))) (pss_one (ps_ret (pe_lst (pa_cons (pe_glob (v := .int (-6)) rfl m6 ⟨t6, rfl⟩) pa_nil)))) pss_nil)
      (pss_one (ps_ret (pe_lst (pa_cons (pe_meth (pv 0) T.cl mS GS r2 bS .nil pass0 (pa_cons (pv 1) (pa_cons (pv 2) pa_nil))) pa_nil)))), ?_⟩
    refine ⟨_, rfl, p, dx, _, rfl, hp, wpf_no _ _ (by decide +kernel) (by decide +kernel), _, rfl, p, sc.long, x, rfl, hw, _, rfl, ite2 (fun qq => ?_) (fun qq => ?_)⟩
    · have hbad : sc.long = 0 ∨ x.rack.length < sc.long ∨ x.left.length < sc.long := can_bad qq
      have es : Sw88.step x (.wind sc) = (x, Sw88.ok (-6)) := by
        show (if sc.long = 0 ∨ x.rack.length < sc.long ∨ x.left.length < sc.long then (x, Sw88.ok (-6)) else ((⟨Sw88.put x.rack (Sw88.wanted sc x.left), x.left.drop sc.long⟩ : St8), Sw88.ok (Sw88.changes x.rack (Sw88.wanted sc x.left) : Nat))) = _
        rw [if_pos hbad]
      refine ⟨by show 1 ≤ sizeLine; decide, fun c hc => ?_⟩
      have k := k c
      rw [es] at k
      exact k _ hc upd_same (hw.same (Same.new hc)) (SameX.of (Same.new hc))
    · have hgood := can_good qq
      have es : Sw88.step x (.wind sc) = (⟨Sw88.put x.rack (Sw88.wanted sc x.left), x.left.drop sc.long⟩, Sw88.ok (Sw88.changes x.rack (Sw88.wanted sc x.left) : Nat)) := by
        show (if sc.long = 0 ∨ x.rack.length < sc.long ∨ x.left.length < sc.long then (x, Sw88.ok (-6)) else ((⟨Sw88.put x.rack (Sw88.wanted sc x.left), x.left.drop sc.long⟩ : St8), Sw88.ok (Sw88.changes x.rack (Sw88.wanted sc x.left) : Nat))) = _
        have hg : ¬ (sc.long = 0 ∨ x.rack.length < sc.long ∨ x.left.length < sc.long) := hgood
        rw [if_neg hg]
      refine ⟨_, rfl, p, dx, _, rfl, hp, wpf_no _ _ (by decide +kernel) (by decide +kernel), _, rfl, _, rfl, p, sc, x, rfl, hw, hgood, hok.r4, fun H2 hw2 sx2 => ?_⟩
      refine ⟨by show 1 ≤ sizeLine; decide, fun c hc => ?_⟩
      have k := k c
      rw [es] at k
      obtain ⟨dx2, pa2, ta2, hp2, _, _⟩ := id hw2
      have t := fun (o : HO) => Same.new (o := o) hc
      exact k _ (freeX sx2 hp2 hc) upd_same (hw2.same (t _)) (sx2.same (t _))
theorem scRackNow : FnScope ["warp"] ["warp"] (defScope sRackNow) := ⟨rfl, rfl, rfl, by decide +kernel, rfl, by decide +kernel, by decide +kernel⟩
theorem ok_rack {f C : Addr} {fd : FuncData} (F : Fun K "rack_now" "rack_now" sRackNow f fd) (T : TxtP K mg C) (L : Blt mg) (GL : Has P w K mg base 1 "listed" ["numbers"] spListed) : FnOk P w K mg base CX0 2 f fd ["warp"] (spRack C) := by
  obtain ⟨fL, fdL, GL, bL, mL, kL⟩ := GL
  refine F.ok scRackNow (fun vs H Q E h => ?_) (fun cdv A outer s H vs Q E hr h => ?_)
  · obtain ⟨p, s, rfl, _⟩ := h
    rfl
  · obtain ⟨p, x, rfl, hw, hok, k⟩ := h
    obtain ⟨dx, pa, ta, hp, hpa, hta⟩ := id hw
    have r1 : Room 1 _ := hr
    have hr4 := hok.r4
    refine ⟨_, pss_one (ps_ret (pe_op op_cat (pe_lst (pa_cons (pe_callB call_len_seq (by rfl) L.len PySem.boot_len (pa_cons (pe_fld (pv 0) rfl) pa_nil)) pa_nil))
      (pe_call GL r1 rfl mL kL bL .nil pass0 (pa_cons (pe_callTy call_list_of (by rfl) L.lst boot_listR (pa_cons (pe_fld (pv 0) rfl) pa_nil)) pa_nil)))), ?_⟩
    refine ⟨_, rfl, p, C, dx, _, _, rfl, hp, T.cl, T.nT, wpf_thr _ _, ta, _, rfl, .inr (SqT.of hta), by show 1 ≤ sizeLine; decide, fun q1 hq1 => ?_⟩
    have t1 := Same.new (o := .lst [.int (((natT x.left).length : Nat) : Int)]) hq1
    refine ⟨_, rfl, p, C, dx, _, _, rfl, t1 _ _ hp, T.cl, T.nP, wpf_pegs _ _, pa, _, rfl, .inr (SqT.of (t1 _ _ hpa)), fun q2 hq2 => ?_⟩
    have t2 := Same.new (o := .lst (natT x.rack)) hq2
    refine ⟨q2, x.rack.map fun (n : Nat) => (n : Int), rfl, (by rw [upd_same, natT_ints]), (by rw [List.length_map]; omega), fun q3 H3 hq3 t3 => ?_⟩
    refine ⟨q1, q3, _, _, rfl, rfl, (t2.trans t3) _ _ upd_same, hq3, (by simp only [List.length_map, List.length_cons, List.length_nil]; rw [sizeLine_eq]; omega), fun q4 hq4 => ?_⟩
    have k := k q4
    have sall := fun (o : HO) => (t1.trans (t2.trans t3)).trans (Same.new (o := o) hq4)
    refine k _ ((t1.trans (t2.trans t3)).free hq4) ?_ (hw.same (sall _)) (SameX.of (sall _))
    rw [upd_same, natT_length, List.length_map]
    show some (HO.lst _) = some (HO.lst (intL (((x.left.length : Nat) : Int) :: ([x.rack].flatMap fun w => (w.length : Int) :: w.map fun (n : Nat) => (n : Int)))))
    rw [List.flatMap_singleton]
    rfl
theorem scRunCount : FnScope ["row", "place"] ["row"] (defScope sRunCount) := ⟨rfl, rfl, rfl, by decide +kernel, rfl, by decide +kernel, by decide +kernel⟩
theorem ok_runs {f : Addr} {fd : FuncData} (F : Fun K "run_count" "run_count" sRunCount f fd) (L : Blt mg) : FnOk P w K mg base CX0 1 f fd ["row"] spRuns := by
  refine F.ok scRunCount (fun vs H Q E h => ?_) (fun cdv A outer s H vs Q E hr h => ?_)
  · obtain ⟨a, l, rfl, _⟩ := h
    rfl
  · obtain ⟨a, l, rfl, ha, hl, k⟩ := h
    refine ⟨_, pss_one (ps_ret (pe_callB call_len_seq (by rfl) L.len PySem.boot_len (pa_cons (pe_lc (own := [("place", 1)]) (g := gName 1) (tt := tOr (tTest (tOp rEq (tVar 1) (tC (.int 0)))) (tTest (tOp rNe (tOp (rIxT K) (tVar 0) (tVar 1)) (tOp (rIxT K) (tVar 0) (tOp (rI0 fun i j => .int (i - j)) (tVar 1) (tC (.int 1))))))) rfl scRunCount.nd
      (pi_range1 (by rfl) L.rng (pa_cons (pe_callB call_len_seq (by rfl) L.len PySem.boot_len (pa_cons (pv 0) pa_nil)) pa_nil)) (blkOk_by (by rfl))
      (fun s H C cl fp => by apply pg_name (i := 1) <;> first | rfl | exact scRunCount.nd | exact Or.inl rfl | exact Or.inr rfl)
      (fun s H C cl fp => by exact pts_one (PW.pt (pw_or (pt_cmpR op_eq (pv 1) pe_int (nomark _)) (pw_or1 (pt_cmpR op_ne (pe_ix ix_tup (pv 0) (pv 1) (fun _ _ => rfl)) (pe_ix ix_tup (pv 0) (pe_op op_sub (pv 1) pe_int) (fun _ _ => rfl)) (nomark _))))))
      (fun s H C cl fp => pv 1)) pa_nil))), ?_⟩
    refine ⟨_, rfl, a, _, rfl, .inr (SqT.of ha), _, rfl, by rw [natT_length]; omega, by rw [natT_length]; omega, fun D hD => ?_⟩
    have en : ((((natT l).length : Nat) : Int)).toNat = l.length := by rw [natT_length]; omega
    rw [en]
    refine lc_range (lo := 0) (n := l.length) (fun i H' => Same H H' ∧ ∃ acc : List V, H' D = some (.lst acc) ∧ acc.length = Sw88.runs (l.take i)) ⟨Same.new hD, [], upd_same, rfl⟩ ?_ ?_
    · rintro i H' hi ⟨sm, acc, hd, hla⟩
      obtain ⟨x, hx⟩ : ∃ x, l[i]? = some x := ⟨_, List.getElem?_eq_getElem hi⟩
      have ha' := sm _ _ ha
      have er := runs_take hx
      have hle : acc.length < sizeLine := by
        rw [hla, sizeLine_eq]
        have := runs_le (l.take i)
        rw [List.length_take] at this
        omega
      refine ⟨rfl, ?_⟩
      refine ⟨_, rfl, rfl, _, rfl, ite2 (fun q => ?_) (fun q => ?_)⟩
      · have h0 : i = 0 := by
          have := V.int.inj (of_decide_eq_true q)
          omega
        rw [if_pos (.inl h0)] at er
        refine iteT ⟨_, rfl, acc, hd, hle, same_put sm hD, _, upd_same, ?_⟩
        rw [List.length_append, hla, er]
        rfl
      · have h0 : i ≠ 0 := fun z => q (decide_eq_true (congrArg V.int (by omega)))
        obtain ⟨y, hy⟩ : ∃ y, l[i - 1]? = some y := ⟨_, List.getElem?_eq_getElem (by omega)⟩
        refine ⟨_, rfl, _, rfl, a, _, _, _, rfl, rfl, SqT.of ha', at_of (j := i) (by omega) (natT_get hx), _, rfl, _, rfl, _, _, rfl, rfl, a, _, _, _, rfl, rfl, SqT.of ha', at_of (j := i - 1) (by omega) (natT_get hy), rfl, _, rfl, ite2 (fun c => ?_) (fun c => ?_)⟩
        · have hne : ¬ y = x := fun e => by
            rw [Bool.not_eq_true'] at c
            exact of_decide_eq_false c (by rw [e])
          rw [if_pos (.inr (by rw [hy]; simp [hne]))] at er
          refine ⟨_, rfl, acc, hd, hle, same_put sm hD, _, upd_same, ?_⟩
          rw [List.length_append, hla, er]
          rfl
        · have he : y = x := by
            refine Decidable.byContradiction fun z => c ?_
            rw [Bool.not_eq_true']
            exact decide_eq_false fun e => z (by have := V.int.inj e; omega)
          rw [if_neg (by rw [hy, he]; simp [h0])] at er
          exact ⟨sm, acc, hd, by rw [er]; exact hla⟩
    · rintro H' ⟨sm, acc, hd, hla⟩
      rw [List.take_length] at hla
      refine ⟨D, _, rfl, .inl (SqL.of hd), ?_⟩
      rw [hla]
      exact k H' sm
theorem scColours : FnScope ["warp", "answered", "colour"] ["warp"] (defScope sColours) := ⟨rfl, rfl, rfl, by decide +kernel, rfl, by decide +kernel, by decide +kernel⟩
theorem ok_colours {f C : Addr} {fd : FuncData} (F : Fun K "colours" "colours" sColours f fd) (T : TxtP K mg C) (L : Blt mg) (GR : Has P w K mg base 1 "run_count" ["row"] spRuns) (GL : Has P w K mg base 1 "listed" ["numbers"] spListed) :
    FnOk P w K mg base CX0 2 f fd ["warp"] (spColours C) := by
  obtain ⟨fR, fdR, GR, bR, mR, kR⟩ := GR
  obtain ⟨fL, fdL, GL, bL, mL, kL⟩ := GL
  refine F.ok scColours (fun vs H Q E h => ?_) (fun cdv A outer s H vs Q E hr h => ?_)
  · obtain ⟨p, s, rfl, _⟩ := h
    rfl
  · obtain ⟨p, x, rfl, hw, hok, k⟩ := h
    obtain ⟨dx, pa, ta, hp, hpa, hta⟩ := id hw
    have r1 : Room 1 _ := hr
    have hl12 := hok.l12
    refine ⟨_, pss_cons (ps_set (i := 1) scColours.nd rfl (Or.inl rfl) (pe_lst (pa_cons (pe_call GR r1 rfl mR kR bR .nil pass0 (pa_cons (pe_fld (pv 0) rfl) pa_nil)) pa_nil)))
      (pss_cons (ps_for PassesOwn.never rfl (pi_list (pe_sortSet rfl (by rfl) L.srt (by rfl) L.st (pe_fld (pv 0) rfl))) (pg_name (i := 2) scColours.nd rfl (Or.inl rfl))
        (pss_one (ps_set (i := 1) scColours.nd rfl (Or.inl rfl) (pe_op op_cat (pv 1) (pe_call GL r1 rfl mL kL bL .nil pass0 (pa_cons (pe_lst (pa_cons (pv 2) (pa_cons (pe_bmT PySem.F.slot_tuple_count PySem.F.type_tuple_count mt_countT (pe_fld (pv 0) rfl) (pa_cons (pv 2) pa_nil)) pa_nil))) pa_nil))))))
      (pss_one (ps_ret (pv 1)))), ?_⟩
    have hcl : (colsOf x.left).length ≤ 10 := by
      unfold colsOf
      exact Nat.le_trans (List.length_filter_le _ _) (by rw [List.length_range]; decide)
    refine ⟨_, rfl, p, C, dx, _, _, rfl, hp, T.cl, T.nT, wpf_thr _ _, ta, x.left, rfl, hta, by omega, fun H1 s1 => ⟨by show 1 ≤ sizeLine; decide, fun q0 hq0 => ?_⟩⟩
    have t0 := Same.new (o := .lst [.int ((Sw88.runs x.left : Nat) : Int)]) hq0
    have s2 := s1.trans t0
    have htaI : H ta = some (.tup ((x.left.map fun (n : Nat) => (n : Int)).map V.int)) := by rw [← natT_ints]; exact hta
    refine ⟨_, rfl, p, C, dx, _, _, rfl, s2 _ _ hp, T.cl, T.nT, wpf_thr _ _, ta, _, rfl, s2 _ _ htaI, (by rw [List.length_map]; omega), fun sp ns' hsp hnd hmem hsort _ => ?_⟩
    have ens := cols_eq hok.dl hnd hmem hsort
    subst ens
    have t1 := Same.new (o := .lst (((colsOf x.left).map fun (n : Nat) => (n : Int)).map V.int)) hsp
    refine ⟨sp, rfl, ⟨_, SqL.of upd_same⟩, ?_⟩
    refine for_list (K := K) (a := sp) (xs := ((colsOf x.left).map fun (n : Nat) => (n : Int)).map V.int) (fun i σ H' => ∃ (v2 : Option V) (q : Addr), σ = [some (.ref p), some (.ref q), v2] ∧
        H' q = some (.lst (intL (((Sw88.runs x.left : Nat) : Int) :: outC x.left ((colsOf x.left).take i)))) ∧ H q = none ∧ H' sp = some (.lst (((colsOf x.left).map fun (n : Nat) => (n : Int)).map V.int)) ∧ Same H H')
      ⟨none, q0, rfl, t1 _ _ upd_same, s1.free hq0, upd_same, s2.trans t1⟩ (fun i σ H' _ ⟨_, _, _, _, _, h5, _⟩ => SqL.of h5) ?_ ?_
    · rintro i y σ H' hi ⟨v2, q, rfl, hq, hqn, hs5, sm⟩
      obtain ⟨c, hc, rfl⟩ : ∃ c : Nat, (colsOf x.left)[i]? = some c ∧ y = V.int (c : Nat) := by
        rw [List.getElem?_map, List.getElem?_map] at hi
        cases e : (colsOf x.left)[i]? with
        | none => rw [e] at hi; cases hi
        | some c => rw [e] at hi; exact ⟨c, rfl, (Option.some.inj hi).symm⟩
      have et : (colsOf x.left).take (i + 1) = (colsOf x.left).take i ++ [c] := by rw [List.take_succ, hc]; rfl
      refine ⟨_, rfl, _, rfl, _, rfl, p, C, dx, _, _, rfl, sm _ _ hp, T.cl, T.nT, wpf_thr _ _, ⟨ta, _, rfl, sm _ _ htaI⟩, _, rfl, ta, _, (c : Int), rfl, rfl, sm _ _ htaI, by show 2 ≤ sizeLine; decide, fun q2 hq2 => ?_⟩
      rw [count_cast]
      have t2 := Same.new (o := .lst [.int ((c : Nat) : Int), .int ((Sw88.ofColour x.left c : Nat) : Int)]) hq2
      refine ⟨q2, [((c : Nat) : Int), ((Sw88.ofColour x.left c : Nat) : Int)], rfl, upd_same, by show 2 ≤ 1000; decide, fun q3 H3 hq3 t3 => ?_⟩
      have t23 := t2.trans t3
      have hlt : ((outC x.left ((colsOf x.left).take i)).length) ≤ 30 := by
        rw [outC_len, List.length_take]
        omega
      refine ⟨q, q3, _, _, rfl, rfl, t23 _ _ hq, hq3, (by simp only [List.length_map, List.length_cons, List.length_nil]; rw [sizeLine_eq]; omega), fun q4 hq4 => ?_⟩
      have t4 := fun (o : HO) => Same.new (o := o) hq4
      refine ⟨some (.int ((c : Nat) : Int)), q4, rfl, ?_, (sm.trans t23).free hq4, t4 _ _ _ (t23 _ _ hs5), (sm.trans t23).trans (t4 _)⟩
      rw [upd_same, et, outC_snoc]
      unfold intL
      rw [← List.map_append]
      rfl
    · rintro σ H' ⟨v2, q, rfl, hq, hqn, hs5, sm⟩
      rw [List.length_map, List.length_map, List.take_length, ← colours_out] at hq
      exact ⟨_, rfl, k q H' hqn hq (hw.same sm) (SameX.of sm)⟩
end
end Wrp

end
section
set_option Elab.async false
set_option linter.all false
set_option maxRecDepth 100000
set_option maxHeartbeats 2000000
namespace Wrp
/-! ### the calls, one behind another, as numbers -/
def flatI (p : List Sw88.Section) : List Int := p.flatMap fun s => [((s.long : Nat) : Int), ((Sw88.bit s.turned : Nat) : Int)]
theorem flatI_len : ∀ p : List Sw88.Section, (flatI p).length = 2 * p.length
  | [] => rfl
  | s :: p => by
    show (flatI p).length + 1 + 1 = 2 * (p.length + 1)
    rw [flatI_len p]; omega
inductive Enc : List Int → Sw88.Call → Prop
  | begins (n : Nat) : Enc [0, (n : Nat)] (.begins n)
  | threads (l : List Nat) (h : l.length ≤ 20) : Enc (1 :: ((l.length : Nat) : Int) :: l.map fun (n : Nat) => (n : Int)) (.threads l)
  | best : Enc [2] .best
  | check (p : List Sw88.Section) (h : p.length ≤ 20) : Enc (3 :: ((2 * p.length : Nat) : Int) :: flatI p) (.check p)
  | wind (s : Sw88.Section) : Enc [4, (s.long : Nat), (Sw88.bit s.turned : Nat)] (.wind s)
  | rack : Enc [5] .rack
  | colours : Enc [6] .colours
theorem nats_of {l : List Int} (h : l.all Sw88Neutral.nat = true) : (l.map Int.toNat).map (fun (n : Nat) => (n : Int)) = l := by
  rw [List.map_map]
  have : ∀ x ∈ l, ((fun (n : Nat) => (n : Int)) ∘ Int.toNat) x = x := fun x hx => by
    have q := List.all_eq_true.mp h x hx
    unfold Sw88Neutral.nat at q
    rw [Bool.and_eq_true] at q
    have := of_decide_eq_true q.1
    show ((x.toNat : Nat) : Int) = x
    omega
  rw [List.map_congr_left this]
  exact List.map_id _
theorem planIn_flat : ∀ (n : Nat) (l : List Nat) (p : List Sw88.Section), Sw88Neutral.planIn n l = some p → l = p.flatMap (fun s => [s.long, Sw88.bit s.turned]) ∧ p.length = n
  | 0, [], p, h => by
    have e : [] = p := Option.some.inj h
    subst e
    exact ⟨rfl, rfl⟩
  | 0, _ :: _, p, h => by cases h
  | n + 1, [], p, h => by cases h
  | n + 1, [_], p, h => by cases h
  | n + 1, k :: b :: l, p, h => by
    have h : (if b ≤ 1 then (Sw88Neutral.planIn n l).map fun r => (⟨k, b == 1⟩ : Sw88.Section) :: r else none) = some p := h
    by_cases hb : b ≤ 1
    · rw [if_pos hb] at h
      cases e : Sw88Neutral.planIn n l with
      | none => rw [e] at h; cases h
      | some r =>
        rw [e] at h
        have h : (⟨k, b == 1⟩ : Sw88.Section) :: r = p := Option.some.inj h
        subst h
        obtain ⟨h1, h2⟩ := planIn_flat n l r e
        refine ⟨?_, by rw [List.length_cons, h2]⟩
        rw [List.flatMap_cons, ← h1]
        have eb : Sw88.bit (b == 1) = b := by
          have : b = 0 ∨ b = 1 := by omega
          rcases this with e | e <;> subst e <;> rfl
        show k :: b :: l = k :: Sw88.bit (b == 1) :: l
        rw [eb]
    · rw [if_neg hb] at h
      cases h
theorem callIn_threads (l : List Nat) : Sw88Neutral.callIn (1 :: l) = (Sw88Neutral.listIn l).map Sw88.Call.threads := rfl
theorem callIn_check (n : Nat) (l : List Nat) : Sw88Neutral.callIn (3 :: n :: l) = if n ≤ 20 then (Sw88Neutral.planIn n l).map Sw88.Call.check else none := rfl
theorem enc_of {c : List (List Int)} (hk : PyFlat.okCall PySw88.shape c) (ha : Sw88Neutral.asked1 ((PySw88.whole c).headD []) = true) : ∃ x, Sw88Neutral.callOf ((PySw88.whole c).headD []) = some x ∧ Enc (PyFlat.put1 c) x := by
  obtain ⟨p, a, xs, rfl, hs⟩ := hk
  unfold Sw88Neutral.asked1 at ha
  have key : ∀ ns : List Int, (Sw88Neutral.callOf ns).isSome = true → ns.all Sw88Neutral.nat = true ∧ Sw88Neutral.callOf ns = Sw88Neutral.callIn (ns.map Int.toNat) := fun ns h => by
    unfold Sw88Neutral.callOf at h ⊢
    by_cases q : ns.all Sw88Neutral.nat = false
    · rw [if_pos q] at h; cases h
    · rw [if_neg q] at h ⊢
      exact ⟨by simpa using q, rfl⟩
  unfold PySw88.shape at hs
  by_cases h0 : p = 0
  · rw [if_pos h0] at hs
    subst h0
    obtain ⟨e1, e2⟩ := Prod.mk.inj (Option.some.inj hs)
    match a, xs, e1, e2 with
    | [n], [], _, _ =>
      have ha : (Sw88Neutral.callOf [0, n]).isSome = true := ha
      obtain ⟨k1, k2⟩ := key _ ha
      have hn := nats_of k1
      refine ⟨.begins n.toNat, k2, ?_⟩
      have en : ((n.toNat : Nat) : Int) = n := (List.cons.inj (List.cons.inj hn).2).1
      show Enc [0, n] _
      rw [← en, Int.toNat_natCast]
      exact .begins _
  rw [if_neg h0] at hs
  by_cases h1 : p = 1
  · rw [if_pos h1] at hs
    subst h1
    obtain ⟨e1, e2⟩ := Prod.mk.inj (Option.some.inj hs)
    obtain rfl : a = [] := List.length_eq_zero_iff.mp e1.symm
    obtain ⟨r, rfl⟩ := List.length_eq_one_iff.mp e2.symm
    · have ha : (Sw88Neutral.callOf (1 :: (r.length : Int) :: r)).isSome = true := ha
      obtain ⟨k1, k2⟩ := key _ ha
      rw [k2] at ha
      have ha : ((Sw88Neutral.listIn ((r.length : Int).toNat :: r.map Int.toNat)).map Sw88.Call.threads).isSome = true := ha
      have k2 : Sw88Neutral.callOf (1 :: (r.length : Int) :: r) = (Sw88Neutral.listIn ((r.length : Int).toNat :: r.map Int.toNat)).map Sw88.Call.threads := k2
      have el : Sw88Neutral.listIn ((r.length : Int).toNat :: r.map Int.toNat) = if (r.length : Int).toNat ≤ 20 ∧ (r.map Int.toNat).length = (r.length : Int).toNat then some (r.map Int.toNat) else none := rfl
      rw [el] at ha k2
      by_cases q : (r.length : Int).toNat ≤ 20 ∧ (r.map Int.toNat).length = (r.length : Int).toNat
      · rw [if_pos q] at k2
        refine ⟨.threads (r.map Int.toNat), k2, ?_⟩
        have hn : (r.map Int.toNat).map (fun (n : Nat) => (n : Int)) = r := (List.cons.inj (List.cons.inj (nats_of k1)).2).2
        show Enc ([1] ++ ((r.length : Int) :: r ++ [])) _
        rw [List.append_nil]
        have := Enc.threads (r.map Int.toNat) (by rw [q.2]; exact q.1)
        rw [hn, List.length_map] at this
        exact this
      · rw [if_neg q] at ha
        cases ha
  rw [if_neg h1] at hs
  by_cases h2 : p = 2
  · rw [if_pos h2] at hs
    subst h2
    obtain ⟨e1, e2⟩ := Prod.mk.inj (Option.some.inj hs)
    match a, xs, e1, e2 with
    | [], [], _, _ => exact ⟨.best, rfl, .best⟩
  rw [if_neg h2] at hs
  by_cases h3 : p = 3
  · rw [if_pos h3] at hs
    subst h3
    obtain ⟨e1, e2⟩ := Prod.mk.inj (Option.some.inj hs)
    obtain rfl : a = [] := List.length_eq_zero_iff.mp e1.symm
    obtain ⟨r, rfl⟩ := List.length_eq_one_iff.mp e2.symm
    · have ha : (Sw88Neutral.callOf (3 :: ((r.length : Int) / 2) :: r)).isSome = true := ha
      obtain ⟨k1, k2⟩ := key _ ha
      rw [k2] at ha
      have ha : (if ((r.length : Int) / 2).toNat ≤ 20 then (Sw88Neutral.planIn ((r.length : Int) / 2).toNat (r.map Int.toNat)).map Sw88.Call.check else none).isSome = true := ha
      have k2 : Sw88Neutral.callOf (3 :: ((r.length : Int) / 2) :: r) = if ((r.length : Int) / 2).toNat ≤ 20 then (Sw88Neutral.planIn ((r.length : Int) / 2).toNat (r.map Int.toNat)).map Sw88.Call.check else none := k2
      by_cases q : ((r.length : Int) / 2).toNat ≤ 20
      · rw [if_pos q] at k2 ha
        cases e : Sw88Neutral.planIn ((r.length : Int) / 2).toNat (r.map Int.toNat) with
        | none => rw [e] at ha; cases ha
        | some pl =>
          rw [e] at k2
          obtain ⟨g1, g2⟩ := planIn_flat _ _ _ e
          refine ⟨.check pl, k2, ?_⟩
          have hn : (r.map Int.toNat).map (fun (n : Nat) => (n : Int)) = r := (List.cons.inj (List.cons.inj (nats_of k1)).2).2
          have er : flatI pl = r := by
            rw [← hn, g1]
            unfold flatI
            rw [List.map_flatMap]
            rfl
          have el : r.length = 2 * pl.length := by rw [← er]; exact flatI_len pl
          show Enc ([3] ++ ((r.length : Int) :: r ++ [])) _
          rw [List.append_nil]
          have := Enc.check pl (by omega)
          rw [er, ← el] at this
          exact this
      · rw [if_neg q] at ha
        cases ha
  rw [if_neg h3] at hs
  by_cases h4 : p = 4
  · rw [if_pos h4] at hs
    subst h4
    obtain ⟨e1, e2⟩ := Prod.mk.inj (Option.some.inj hs)
    match a, xs, e1, e2 with
    | [k, b], [], _, _ =>
      have ha : (Sw88Neutral.callOf [4, k, b]).isSome = true := ha
      obtain ⟨k1, k2⟩ := key _ ha
      rw [k2] at ha
      have ha : (if b.toNat ≤ 1 then some (Sw88.Call.wind ⟨k.toNat, b.toNat == 1⟩) else none).isSome = true := ha
      have k2 : Sw88Neutral.callOf [4, k, b] = if b.toNat ≤ 1 then some (Sw88.Call.wind ⟨k.toNat, b.toNat == 1⟩) else none := k2
      by_cases q : b.toNat ≤ 1
      · rw [if_pos q] at k2
        refine ⟨_, k2, ?_⟩
        have hn := nats_of k1
        have ek : ((k.toNat : Nat) : Int) = k := (List.cons.inj (List.cons.inj hn).2).1
        have eb : ((b.toNat : Nat) : Int) = b := (List.cons.inj (List.cons.inj (List.cons.inj hn).2).2).1
        have ebt : Sw88.bit (b.toNat == 1) = b.toNat := by
          have : b.toNat = 0 ∨ b.toNat = 1 := by omega
          rcases this with e | e <;> rw [e] <;> rfl
        have := Enc.wind ⟨k.toNat, b.toNat == 1⟩
        simp only [ebt, ek, eb] at this
        exact this
      · rw [if_neg q] at ha
        cases ha
  rw [if_neg h4] at hs
  by_cases h5 : p = 5
  · rw [if_pos h5] at hs
    subst h5
    obtain ⟨e1, e2⟩ := Prod.mk.inj (Option.some.inj hs)
    match a, xs, e1, e2 with
    | [], [], _, _ => exact ⟨.rack, rfl, .rack⟩
  rw [if_neg h5] at hs
  by_cases h6 : p = 6
  · rw [if_pos h6] at hs
    subst h6
    obtain ⟨e1, e2⟩ := Prod.mk.inj (Option.some.inj hs)
    match a, xs, e1, e2 with
    | [], [], _, _ => exact ⟨.colours, rfl, .colours⟩
  rw [if_neg h6] at hs
  cases hs
/-! ### what is due -/
def outs : Sw88.Warp → List Sw88.Call → List Int
  | _, [] => []
  | s, c :: cs => (((Sw88Neutral.out (Sw88.step s c).2).length : Int) :: Sw88Neutral.out (Sw88.step s c).2) ++ outs (Sw88.step s c).1 cs
theorem played_outs : ∀ (raw : List (List (List Int))) (s : Sw88.Warp), (∀ c ∈ raw, PyFlat.okCall PySw88.shape c) → (raw.map fun c => (PySw88.whole c).headD []).all Sw88Neutral.asked1 = true →
    ∃ es : List (List Int × Sw88.Call), PyFlat.put raw = (es.map (·.1)).flatten ∧ (∀ e ∈ es, Enc e.1 e.2) ∧ es.length = raw.length ∧
      PyFlat.told (PyFlat.played (fun s c => Sw88Neutral.step s (c.headD [])) s (raw.map PySw88.whole)) = outs s (es.map (·.2))
  | [], s, _, _ => ⟨[], rfl, (fun e he => nomatch he), rfl, rfl⟩
  | c :: raw, s, hk, ha => by
    rw [List.map_cons, List.all_cons, Bool.and_eq_true] at ha
    obtain ⟨x, hx, he⟩ := enc_of (hk c (List.mem_cons.mpr (.inl rfl))) ha.1
    obtain ⟨es, h1, h2, h3, h4⟩ := played_outs raw (Sw88.step s x).1 (fun d hd => hk d (List.mem_cons.mpr (.inr hd))) ha.2
    refine ⟨(PyFlat.put1 c, x) :: es, ?_, ?_, by rw [List.length_cons, List.length_cons, h3], ?_⟩
    · show PyFlat.put1 c ++ PyFlat.put raw = _
      rw [h1]
      rfl
    · intro e he'
      rcases List.mem_cons.mp he' with q | q
      · rw [q]; exact he
      · exact h2 e q
    · have hst : Sw88Neutral.step s ((PySw88.whole c).headD []) = ((Sw88.step s x).1, Sw88Neutral.out (Sw88.step s x).2) := by
        unfold Sw88Neutral.step
        rw [hx]
      rw [List.map_cons]
      show PyFlat.told ((Sw88Neutral.step s ((PySw88.whole c).headD [])).2 :: PyFlat.played _ (Sw88Neutral.step s ((PySw88.whole c).headD [])).1 (raw.map PySw88.whole)) = _
      rw [hst]
      show (((Sw88Neutral.out (Sw88.step s x).2).length : Int) :: Sw88Neutral.out (Sw88.step s x).2) ++ PyFlat.told (PyFlat.played _ (Sw88.step s x).1 (raw.map PySw88.whole)) = _
      rw [h4]
      rfl
theorem asked_enc {l : List Int} (h : PySw88.answers_asked l = true) : ∃ es : List (List Int × Sw88.Call), l = (es.map (·.1)).flatten ∧ (∀ e ∈ es, Enc e.1 e.2) ∧ es.length ≤ 60 ∧ PySw88.answers l = outs Sw88.init (es.map (·.2)) ∧ (PySw88.answers l).length ≤ 10000000 := by
  unfold PySw88.answers_asked at h
  cases e : PyFlat.calls PySw88.shape l.length l with
  | none => rw [e] at h; cases h
  | some raw =>
    rw [e] at h
    have h : (!raw.isEmpty && PyFlat.atMost 60 raw && PyInside.calls PySw88.bound raw && Sw88Neutral.asked ((raw.map PySw88.whole).map fun c => c.headD []) && PyFlat.short 10000000 (PySw88.answers l)) = true := h
    rw [Bool.and_eq_true, Bool.and_eq_true, Bool.and_eq_true, Bool.and_eq_true] at h
    obtain ⟨⟨⟨⟨_, h60⟩, _⟩, hasked⟩, hshort⟩ := h
    obtain ⟨hput, hok⟩ := PyFlat.put_calls _ _ _ e
    unfold Sw88Neutral.asked at hasked
    rw [Bool.and_eq_true, List.map_map] at hasked
    obtain ⟨es, g1, g2, g3, g4⟩ := played_outs raw Sw88.init hok hasked.1
    refine ⟨es, hput.trans g1, g2, by rw [g3]; exact of_decide_eq_true h60, ?_, of_decide_eq_true hshort⟩
    unfold PySw88.answers PySw88.calls
    rw [e]
    exact g4
end Wrp

end
section
set_option Elab.async false
set_option linter.all false
set_option maxRecDepth 100000
set_option maxHeartbeats 4000000
namespace Wrp
open PySem PySem.Spec PyProof.Rows L2
open PySem.W (Codec)
abbrev sSize : Stmt := top 36
abbrev sAnswer : Stmt := top 37
abbrev sAnswers : Stmt := top 38
structure Kinds (mg : Str → Option Value) : Prop where
  beg : ∃ t, mg "BEGINS" = some (.int 0 t)
  thr : ∃ t, mg "THREADS" = some (.int 1 t)
  bst : ∃ t, mg "BEST" = some (.int 2 t)
  chk : ∃ t, mg "CHECK" = some (.int 3 t)
  wnd : ∃ t, mg "WIND" = some (.int 4 t)
  rck : ∃ t, mg "RACK" = some (.int 5 t)
def spSize (K : PySem.W.Frag) : Sp := fun vs H Q _ => ∃ (b : Addr) (k : Nat) (ns c rest : List Int) (x : Sw88.Call), vs = [.ref b, .int (k : Nat)] ∧ SqL K H b (intL ns) ∧ ns.drop k = c ++ rest ∧ Enc c x ∧ Q (.int (c.length : Nat)) H
def spAnswer (C : Addr) : Sp := fun vs H Q _ => ∃ (p b : Addr) (c : List Int) (x : Sw88.Call) (s : St8), vs = [.ref p, .ref b] ∧ WarpAt C H p s ∧ WOk s ∧ H b = some (.lst (intL c)) ∧ Enc c x ∧ Post C p s x H Q
def spAnswers (K : PySem.W.Frag) : Sp := fun vs H Q _ => ∃ (b : Addr) (ns : List Int), vs = [.ref b] ∧ SqL K H b (intL ns) ∧ PySw88.answers_asked ns = true ∧ ns.length ≤ 30000 ∧ ∀ a H', H' a = some (.lst (intL (PySw88.answers ns))) → Q (.ref a) H'
theorem drop_get {ns : List Int} {k : Nat} {c rest : List Int} (h : ns.drop k = c ++ rest) {i : Nat} {z : Int} (hi : c[i]? = some z) : ns[k + i]? = some z := by
  rw [← List.getElem?_drop, h, List.getElem?_append_left (List.getElem?_eq_some_iff.mp hi).1]
  exact hi
theorem atI_intL {ns : List Int} {j : Nat} {z y : Int} (h : ns[j]? = some z) (e : y = (j : Int)) : atI (intL ns) y = some (.int z) := at_of e (by rw [List.getElem?_map, h]; rfl)
section
variable {P : Program} {w : World} {K : PySem.W.Frag} {mg : Str → Option Value} {base : Heap}
theorem scSize : FnScope ["calls", "start", "call"] ["calls", "start"] (defScope sSize) := ⟨rfl, rfl, rfl, by decide +kernel, rfl, by decide +kernel, by decide +kernel⟩
theorem ok_size {f : Addr} {fd : FuncData} (F : Fun K "call_size" "call_size" sSize f fd) (N : Kinds mg) : FnOk P w K mg base CX0 1 f fd ["calls", "start"] (spSize K) := by
  obtain ⟨t0, m0⟩ := N.beg
  obtain ⟨t1, m1⟩ := N.thr
  obtain ⟨t3, m3⟩ := N.chk
  obtain ⟨t4, m4⟩ := N.wnd
  refine F.ok scSize (fun vs H Q E h => ?_) (fun cdv A outer s H vs Q E hr h => ?_)
  · obtain ⟨b, k, ns, c, rest, x, rfl, _⟩ := h
    rfl
  · obtain ⟨b, k, ns, c, rest, x, rfl, hb, hd, he, q⟩ := h
    refine ⟨_, pss_cons (ps_set (i := 2) scSize.nd rfl (Or.inl rfl) (pe_ix ix_list (pv 0) (pv 1) (fun _ _ => rfl)))
      (pss_cons (ps_if (PW.pt (pw_or (pt_cmpR op_eq (pv 2) (pe_glob (v := .int 1) rfl m1 ⟨t1, rfl⟩) (nomark _)) (pw_or1 (pt_cmpR op_eq (pv 2) (pe_glob (v := .int 3) rfl m3 ⟨t3, rfl⟩) (nomark _)))))
        (pss_one (ps_ret (pe_op op_add pe_int (pe_ix ix_list (pv 0) (pe_op op_add (pv 1) pe_int) (fun _ _ => rfl))))) pss_nil)
      (pss_cons (ps_if (pt_cmpR op_eq (pv 2) (pe_glob (v := .int 0) rfl m0 ⟨t0, rfl⟩) (nomark _)) (pss_one (ps_ret pe_int)) pss_nil)
      (pss_cons (ps_if (pt_cmpR op_eq (pv 2) (pe_glob (v := .int 4) rfl m4 ⟨t4, rfl⟩) (nomark _)) (pss_one (ps_ret pe_int)) pss_nil)
      (pss_one (ps_ret pe_int))))), ?_⟩
    -- its first number
    have first : ∀ z : Int, c[0]? = some z → atI (intL ns) ((k : Nat) : Int) = some (.int z) := fun z hz => atI_intL (drop_get hd hz) rfl
    have second : ∀ z : Int, c[1]? = some z → atI (intL ns) (((k : Nat) : Int) + 1) = some (.int z) := fun z hz => atI_intL (drop_get hd hz) (by omega)
    cases he with
    | begins n =>
      refine ⟨_, rfl, _, rfl, b, _, _, _, rfl, rfl, hb, first 0 rfl, _, rfl, rfl, _, rfl, ite2 (fun z => absurd (of_decide_eq_true z) (by decide)) (fun _ => ?_)⟩
      refine ⟨_, rfl, rfl, _, rfl, ite2 (fun z => absurd (of_decide_eq_true z) (by decide)) (fun _ => ?_)⟩
      refine ⟨_, rfl, rfl, _, rfl, ite2 (fun _ => q) (fun z => absurd (decide_eq_true rfl) z)⟩
    | threads l h =>
      refine ⟨_, rfl, _, rfl, b, _, _, _, rfl, rfl, hb, first 1 rfl, _, rfl, rfl, _, rfl, ite2 (fun _ => ?_) (fun z => absurd (decide_eq_true rfl) z)⟩
      refine iteT ⟨_, rfl, _, rfl, _, _, rfl, rfl, b, _, _, _, rfl, rfl, hb, second _ rfl, _, _, rfl, rfl, ?_⟩
      have e : (2 : Int) + ((l.length : Nat) : Int) = (((1 : Int) :: ((l.length : Nat) : Int) :: l.map fun (n : Nat) => (n : Int)).length : Nat) := by
        rw [List.length_cons, List.length_cons, List.length_map]; omega
      show Q (V.int ((2 : Int) + ((l.length : Nat) : Int))) H
      rw [e]
      exact q
    | best =>
      refine ⟨_, rfl, _, rfl, b, _, _, _, rfl, rfl, hb, first 2 rfl, _, rfl, rfl, _, rfl, ite2 (fun z => absurd (of_decide_eq_true z) (by decide)) (fun _ => ?_)⟩
      refine ⟨_, rfl, rfl, _, rfl, ite2 (fun z => absurd (of_decide_eq_true z) (by decide)) (fun _ => ?_)⟩
      refine ⟨_, rfl, rfl, _, rfl, ite2 (fun z => absurd (of_decide_eq_true z) (by decide)) (fun _ => ?_)⟩
      refine ⟨_, rfl, rfl, _, rfl, ite2 (fun z => absurd (of_decide_eq_true z) (by decide)) (fun _ => q)⟩
    | check p h =>
      refine ⟨_, rfl, _, rfl, b, _, _, _, rfl, rfl, hb, first 3 rfl, _, rfl, rfl, _, rfl, ite2 (fun z => absurd (of_decide_eq_true z) (by decide)) (fun _ => ?_)⟩
      refine ⟨_, rfl, rfl, _, rfl, ite2 (fun _ => ?_) (fun z => absurd (decide_eq_true rfl) z)⟩
      refine ⟨_, rfl, _, rfl, _, _, rfl, rfl, b, _, _, _, rfl, rfl, hb, second _ rfl, _, _, rfl, rfl, ?_⟩
      have e : (2 : Int) + ((2 * p.length : Nat) : Int) = (((3 : Int) :: ((2 * p.length : Nat) : Int) :: flatI p).length : Nat) := by
        rw [List.length_cons, List.length_cons, flatI_len]; omega
      show Q (V.int ((2 : Int) + ((2 * p.length : Nat) : Int))) H
      rw [e]
      exact q
    | wind sc =>
      refine ⟨_, rfl, _, rfl, b, _, _, _, rfl, rfl, hb, first 4 rfl, _, rfl, rfl, _, rfl, ite2 (fun z => absurd (of_decide_eq_true z) (by decide)) (fun _ => ?_)⟩
      refine ⟨_, rfl, rfl, _, rfl, ite2 (fun z => absurd (of_decide_eq_true z) (by decide)) (fun _ => ?_)⟩
      refine ⟨_, rfl, rfl, _, rfl, ite2 (fun z => absurd (of_decide_eq_true z) (by decide)) (fun _ => ?_)⟩
      refine ⟨_, rfl, rfl, _, rfl, ite2 (fun _ => q) (fun z => absurd (decide_eq_true rfl) z)⟩
    | rack =>
      refine ⟨_, rfl, _, rfl, b, _, _, _, rfl, rfl, hb, first 5 rfl, _, rfl, rfl, _, rfl, ite2 (fun z => absurd (of_decide_eq_true z) (by decide)) (fun _ => ?_)⟩
      refine ⟨_, rfl, rfl, _, rfl, ite2 (fun z => absurd (of_decide_eq_true z) (by decide)) (fun _ => ?_)⟩
      refine ⟨_, rfl, rfl, _, rfl, ite2 (fun z => absurd (of_decide_eq_true z) (by decide)) (fun _ => ?_)⟩
      refine ⟨_, rfl, rfl, _, rfl, ite2 (fun z => absurd (of_decide_eq_true z) (by decide)) (fun _ => q)⟩
    | colours =>
      refine ⟨_, rfl, _, rfl, b, _, _, _, rfl, rfl, hb, first 6 rfl, _, rfl, rfl, _, rfl, ite2 (fun z => absurd (of_decide_eq_true z) (by decide)) (fun _ => ?_)⟩
      refine ⟨_, rfl, rfl, _, rfl, ite2 (fun z => absurd (of_decide_eq_true z) (by decide)) (fun _ => ?_)⟩
      refine ⟨_, rfl, rfl, _, rfl, ite2 (fun z => absurd (of_decide_eq_true z) (by decide)) (fun _ => ?_)⟩
      refine ⟨_, rfl, rfl, _, rfl, ite2 (fun z => absurd (of_decide_eq_true z) (by decide)) (fun _ => q)⟩
theorem Post.mono {C p : Addr} {s : St8} {c : Sw88.Call} {H H1 : Hp} {Q : VK} (k : Post C p s c H Q) (sm : Same H H1) : Post C p s c H1 Q :=
  fun a H' ha hl hw sx => k a H' (sm.free ha) hl hw ((SameX.of sm).trans sx)
theorem intL_flatI (p : List Sec) : intL (flatI p) = flatP p := by
  unfold flatI flatP intL
  rw [List.map_flatMap]
  rfl
theorem scAnswer : FnScope ["warp", "numbers", "call"] ["warp", "numbers"] (defScope sAnswer) := ⟨rfl, rfl, rfl, by decide +kernel, rfl, by decide +kernel, by decide +kernel⟩
theorem ok_answer {f C : Addr} {fd : FuncData} (F : Fun K "answer" "answer" sAnswer f fd) (N : Kinds mg) (h0 : Has P w K mg base 1 "begins" ["warp", "pegs"] (spBegins C)) (h1 : Has P w K mg base 1 "threads" ["warp", "added"] (spThreads C))
    (h2 : Has P w K mg base 9 "best" ["warp"] (spBest C)) (h3 : Has P w K mg base 3 "check" ["warp", "sections"] (spCheck C)) (h4 : Has P w K mg base 3 "wind" ["warp", "length", "turned"] (spWind C)) (h5 : Has P w K mg base 2 "rack_now" ["warp"] (spRack C))
    (h6 : Has P w K mg base 2 "colours" ["warp"] (spColours C)) : FnOk P w K mg base CX0 11 f fd ["warp", "numbers"] (spAnswer C) := by
  obtain ⟨t0, m0⟩ := N.beg
  obtain ⟨t1, m1⟩ := N.thr
  obtain ⟨t2, m2⟩ := N.bst
  obtain ⟨t3, m3⟩ := N.chk
  obtain ⟨t4, m4⟩ := N.wnd
  obtain ⟨t5, m5⟩ := N.rck
  obtain ⟨f0, d0, G0, b0, g0, k0⟩ := h0
  obtain ⟨f1, d1, G1, b1, g1, k1⟩ := h1
  obtain ⟨f2, d2, G2, b2, g2, k2⟩ := h2
  obtain ⟨f3, d3, G3, b3, g3, k3⟩ := h3
  obtain ⟨f4, d4, G4, b4, g4, k4⟩ := h4
  obtain ⟨f5, d5, G5, b5, g5, k5⟩ := h5
  obtain ⟨f6, d6, G6, b6, g6, k6⟩ := h6
  refine F.ok scAnswer (fun vs H Q E h => ?_) (fun cdv A outer s H vs Q E hr h => ?_)
  · obtain ⟨p, b, c, x, s, rfl, _⟩ := h
    rfl
  · obtain ⟨p, b, c, x, st, rfl, hw, hok, hb, he, k⟩ := h
    have r1 : Room 1 _ := hr.mono (by decide)
    have r2 : Room 2 _ := hr.mono (by decide)
    have r3 : Room 3 _ := hr.mono (by decide)
    have r9 : Room 9 _ := hr.mono (by decide)
    refine ⟨_, pss_cons (ps_set (i := 2) scAnswer.nd rfl (Or.inl rfl) (pe_ix ix_list (pv 1) pe_int (fun _ _ => rfl)))
      (pss_cons (ps_if (pt_cmpR op_eq (pv 2) (pe_glob (v := .int 0) rfl m0 ⟨t0, rfl⟩) (nomark _)) (pss_one (ps_ret (pe_call G0 r1 rfl g0 k0 b0 .nil pass0 (pa_cons (pv 0) (pa_cons (pe_ix ix_list (pv 1) pe_int (fun _ _ => rfl)) pa_nil))))) pss_nil)
      (pss_cons (ps_if (pt_cmpR op_eq (pv 2) (pe_glob (v := .int 1) rfl m1 ⟨t1, rfl⟩) (nomark _)) (pss_one (ps_ret (pe_call G1 r1 rfl g1 k1 b1 .nil pass0 (pa_cons (pv 0) (pa_cons (pe_slice sl_list (pv 1) (po_some pe_int) po_none) pa_nil))))) pss_nil)
      (pss_cons (ps_if (pt_cmpR op_eq (pv 2) (pe_glob (v := .int 2) rfl m2 ⟨t2, rfl⟩) (nomark _)) (pss_one (ps_ret (pe_call G2 r9 rfl g2 k2 b2 .nil pass0 (pa_cons (pv 0) pa_nil)))) pss_nil)
      (pss_cons (ps_if (pt_cmpR op_eq (pv 2) (pe_glob (v := .int 3) rfl m3 ⟨t3, rfl⟩) (nomark _)) (pss_one (ps_ret (pe_call G3 r3 rfl g3 k3 b3 .nil pass0 (pa_cons (pv 0) (pa_cons (pe_slice sl_list (pv 1) (po_some pe_int) po_none) pa_nil))))) pss_nil)
      (pss_cons (ps_if (pt_cmpR op_eq (pv 2) (pe_glob (v := .int 4) rfl m4 ⟨t4, rfl⟩) (nomark _)) (pss_one (ps_ret (pe_call G4 r3 rfl g4 k4 b4 .nil pass0 (pa_cons (pv 0) (pa_cons (pe_ix ix_list (pv 1) pe_int (fun _ _ => rfl)) (pa_cons (pe_ix ix_list (pv 1) pe_int (fun _ _ => rfl)) pa_nil)))))) pss_nil)
      (pss_cons (ps_if (pt_cmpR op_eq (pv 2) (pe_glob (v := .int 5) rfl m5 ⟨t5, rfl⟩) (nomark _)) (pss_one (ps_ret (pe_call G5 r2 rfl g5 k5 b5 .nil pass0 (pa_cons (pv 0) pa_nil)))) pss_nil)
      (pss_one (ps_ret (pe_call G6 r2 rfl g6 k6 b6 .nil pass0 (pa_cons (pv 0) pa_nil)))))))))), ?_⟩
    have at0 : ∀ z : Int, c[0]? = some z → atI (intL c) 0 = some (.int z) := fun z hz => atI_intL hz rfl
    have at1 : ∀ z : Int, c[1]? = some z → atI (intL c) 1 = some (.int z) := fun z hz => atI_intL hz rfl
    have at2 : ∀ z : Int, c[2]? = some z → atI (intL c) 2 = some (.int z) := fun z hz => atI_intL hz rfl
    cases he with
    | begins n =>
      refine ⟨_, rfl, b, _, _, _, rfl, rfl, SqL.of hb, at0 0 rfl, _, rfl, rfl, _, rfl, ite2 (fun _ => ?_) (fun z => absurd (decide_eq_true rfl) z)⟩
      exact ⟨_, rfl, _, rfl, b, _, _, _, rfl, rfl, SqL.of hb, at1 _ rfl, p, n, st, rfl, hw, hok, k⟩
    | threads l hl =>
      refine ⟨_, rfl, b, _, _, _, rfl, rfl, SqL.of hb, at0 1 rfl, _, rfl, rfl, _, rfl, ite2 (fun z => absurd (of_decide_eq_true z) (by decide)) (fun _ => ?_)⟩
      refine ⟨_, rfl, rfl, _, rfl, ite2 (fun _ => ?_) (fun z => absurd (decide_eq_true rfl) z)⟩
      refine ⟨_, rfl, _, rfl, _, rfl, b, _, rfl, SqL.of hb, fun q1 hq1 => ?_⟩
      have t1 := fun (o : HO) => Same.new (o := o) hq1
      refine ⟨p, q1, l, st, rfl, hw.same (t1 _), hok, ?_, by omega, k.mono (t1 _)⟩
      rw [upd_same]
      refine congrArg (fun z => some (HO.lst z)) ?_
      refine (cut_from _ 2).trans ?_
      exact (natT_ints l).symm
    | best =>
      refine ⟨_, rfl, b, _, _, _, rfl, rfl, SqL.of hb, at0 2 rfl, _, rfl, rfl, _, rfl, ite2 (fun z => absurd (of_decide_eq_true z) (by decide)) (fun _ => ?_)⟩
      refine ⟨_, rfl, rfl, _, rfl, ite2 (fun z => absurd (of_decide_eq_true z) (by decide)) (fun _ => ?_)⟩
      refine ⟨_, rfl, rfl, _, rfl, ite2 (fun _ => ?_) (fun z => absurd (decide_eq_true rfl) z)⟩
      exact ⟨_, rfl, p, st, rfl, hw, hok, k⟩
    | check pl hl =>
      refine ⟨_, rfl, b, _, _, _, rfl, rfl, SqL.of hb, at0 3 rfl, _, rfl, rfl, _, rfl, ite2 (fun z => absurd (of_decide_eq_true z) (by decide)) (fun _ => ?_)⟩
      refine ⟨_, rfl, rfl, _, rfl, ite2 (fun z => absurd (of_decide_eq_true z) (by decide)) (fun _ => ?_)⟩
      refine ⟨_, rfl, rfl, _, rfl, ite2 (fun z => absurd (of_decide_eq_true z) (by decide)) (fun _ => ?_)⟩
      refine ⟨_, rfl, rfl, _, rfl, ite2 (fun _ => ?_) (fun z => absurd (decide_eq_true rfl) z)⟩
      refine ⟨_, rfl, _, rfl, _, rfl, b, _, rfl, SqL.of hb, fun q1 hq1 => ?_⟩
      have t1 := fun (o : HO) => Same.new (o := o) hq1
      refine ⟨p, q1, pl, st, rfl, hw.same (t1 _), hok, ?_, by omega, k.mono (t1 _)⟩
      rw [upd_same]
      refine congrArg (fun z => some (HO.lst z)) ?_
      refine (cut_from _ 2).trans ?_
      exact intL_flatI pl
    | wind sc =>
      refine ⟨_, rfl, b, _, _, _, rfl, rfl, SqL.of hb, at0 4 rfl, _, rfl, rfl, _, rfl, ite2 (fun z => absurd (of_decide_eq_true z) (by decide)) (fun _ => ?_)⟩
      refine ⟨_, rfl, rfl, _, rfl, ite2 (fun z => absurd (of_decide_eq_true z) (by decide)) (fun _ => ?_)⟩
      refine ⟨_, rfl, rfl, _, rfl, ite2 (fun z => absurd (of_decide_eq_true z) (by decide)) (fun _ => ?_)⟩
      refine ⟨_, rfl, rfl, _, rfl, ite2 (fun z => absurd (of_decide_eq_true z) (by decide)) (fun _ => ?_)⟩
      refine ⟨_, rfl, rfl, _, rfl, ite2 (fun _ => ?_) (fun z => absurd (decide_eq_true rfl) z)⟩
      exact ⟨_, rfl, _, rfl, b, _, _, _, rfl, rfl, SqL.of hb, at1 _ rfl, _, rfl, b, _, _, _, rfl, rfl, SqL.of hb, at2 _ rfl, p, sc, st, rfl, hw, hok, k⟩
    | rack =>
      refine ⟨_, rfl, b, _, _, _, rfl, rfl, SqL.of hb, at0 5 rfl, _, rfl, rfl, _, rfl, ite2 (fun z => absurd (of_decide_eq_true z) (by decide)) (fun _ => ?_)⟩
      refine ⟨_, rfl, rfl, _, rfl, ite2 (fun z => absurd (of_decide_eq_true z) (by decide)) (fun _ => ?_)⟩
      refine ⟨_, rfl, rfl, _, rfl, ite2 (fun z => absurd (of_decide_eq_true z) (by decide)) (fun _ => ?_)⟩
      refine ⟨_, rfl, rfl, _, rfl, ite2 (fun z => absurd (of_decide_eq_true z) (by decide)) (fun _ => ?_)⟩
      refine ⟨_, rfl, rfl, _, rfl, ite2 (fun z => absurd (of_decide_eq_true z) (by decide)) (fun _ => ?_)⟩
      refine ⟨_, rfl, rfl, _, rfl, ite2 (fun _ => ?_) (fun z => absurd (decide_eq_true rfl) z)⟩
      exact ⟨_, rfl, p, st, rfl, hw, hok, k⟩
    | colours =>
      refine ⟨_, rfl, b, _, _, _, rfl, rfl, SqL.of hb, at0 6 rfl, _, rfl, rfl, _, rfl, ite2 (fun z => absurd (of_decide_eq_true z) (by decide)) (fun _ => ?_)⟩
      refine ⟨_, rfl, rfl, _, rfl, ite2 (fun z => absurd (of_decide_eq_true z) (by decide)) (fun _ => ?_)⟩
      refine ⟨_, rfl, rfl, _, rfl, ite2 (fun z => absurd (of_decide_eq_true z) (by decide)) (fun _ => ?_)⟩
      refine ⟨_, rfl, rfl, _, rfl, ite2 (fun z => absurd (of_decide_eq_true z) (by decide)) (fun _ => ?_)⟩
      refine ⟨_, rfl, rfl, _, rfl, ite2 (fun z => absurd (of_decide_eq_true z) (by decide)) (fun _ => ?_)⟩
      refine ⟨_, rfl, rfl, _, rfl, ite2 (fun z => absurd (of_decide_eq_true z) (by decide)) (fun _ => ?_)⟩
      exact ⟨_, rfl, p, st, rfl, hw, hok, k⟩
theorem enc_pos {c : List Int} {x : Sw88.Call} (h : Enc c x) : 0 < c.length := by cases h <;> simp
theorem scAnswers : FnScope ["calls", "warp", "given", "start", "end", "answered"] ["calls"] (defScope sAnswers) := ⟨rfl, rfl, rfl, by decide +kernel, rfl, by decide +kernel, by decide +kernel⟩
theorem cut_mid {α : Type} (f : α → V) (ns c rest : List α) (k : Nat) (h : ns.drop k = c ++ rest) : cutV (ns.map f) (some (k : Int)) (some (((k : Nat) : Int) + ((c.length : Nat) : Int))) = c.map f := by
  have hl : ns.length - k = c.length + rest.length := by rw [← List.length_drop, h, List.length_append]
  by_cases hc : c.length = 0
  · have e : c = [] := List.length_eq_zero_iff.mp hc
    subst e
    unfold cutV
    rw [show ((k : Nat) : Int) + ((([] : List α).length : Nat) : Int) = ((k : Nat) : Int) by simp, HT.sIx_nat, HT.sIx_nat, Nat.sub_self, List.take_zero]
    rfl
  · have e1 : ((k : Nat) : Int) + ((c.length : Nat) : Int) = ((k + c.length : Nat) : Int) := by omega
    rw [e1, cut_both _ _ _ (by omega) (by rw [List.length_map]; omega), ← List.map_drop, h, show k + c.length - k = c.length by omega, ← List.map_take, List.take_left]
theorem ok_answers {f C fI fS fA : Addr} {fd fdI fdS fdA : FuncData} {j : Nat} (F : Fun K "answers" "answers" sAnswers f fd) (T : TxtP K mg C) (L : Blt mg) (M : Mk K C fI) (GI : FnOk P w K mg base CX0 1 fI fdI ["self", "pegs", "threads"] (spWarpInit C)) (bI : Binds K fdI ["self", "pegs", "threads"] [])
    (GS : FnOk P w K mg base CX0 1 fS fdS ["calls", "start"] (spSize K)) (bS : Binds K fdS ["calls", "start"] []) (mS : mg "call_size" = some (.ref fS)) (kS : PySem.W.keepIn K (.ref fS) = true)
    (GA : FnOk P w K mg base CX0 (j + 1) fA fdA ["warp", "numbers"] (spAnswer C)) (bA : Binds K fdA ["warp", "numbers"] []) (mA : mg "answer" = some (.ref fA)) (kA : PySem.W.keepIn K (.ref fA) = true) : FnOk P w K mg base CX0 (j + 3) f fd ["calls"] (spAnswers K) := by
  refine F.ok scAnswers (fun vs H Q E h => ?_) (fun cdv A outer s H vs Q E hr h => ?_)
  · obtain ⟨b, ns, rfl, _⟩ := h
    rfl
  · obtain ⟨b, ns, rfl, hb, hask, hlen, k⟩ := h
    have r2 : Room 2 _ := hr.mono (by omega)
    have r1 : Room 1 _ := hr.mono (by omega)
    have rA : Room (j + 1) _ := hr.mono (by omega)
    refine ⟨_, pss_cons (ps_set (i := 1) scAnswers.nd rfl (Or.inl rfl) (pe_make M GI r2 rfl T.mgC bI .nil pass0 (pa_cons (pe_tup (pa_cons pe_int pa_nil)) (pa_cons (pe_tup pa_nil) pa_nil))))
      (pss_cons (ps_set (i := 2) scAnswers.nd rfl (Or.inl rfl) (pe_lst pa_nil))
      (pss_cons (ps_set (i := 3) scAnswers.nd rfl (Or.inl rfl) pe_int)
      (pss_cons (ps_while PassesOwn.never (pt_cmpR op_lt (pv 3) (pe_callB call_len_seq (by rfl) L.len PySem.boot_len (pa_cons (pv 0) pa_nil)) (nomark _))
        (pss_cons (ps_set (i := 4) scAnswers.nd rfl (Or.inl rfl) (pe_op op_add (pv 3) (pe_call GS r1 rfl mS kS bS .nil pass0 (pa_cons (pv 0) (pa_cons (pv 3) pa_nil)))))
        (pss_cons (ps_set (i := 5) scAnswers.nd rfl (Or.inl rfl) (pe_call GA rA rfl mA kA bA .nil pass0 (pa_cons (pv 1) (pa_cons (pe_slice sl_list (pv 0) (po_some (pv 3)) (po_some (pv 4))) pa_nil))))
        (pss_cons (ps_expr (pe_bm PySem.F.plainAttrs_list PySem.F.slot_list_append PySem.F.type_list_append mt_append (pv 2) (pa_cons (pe_callB call_len_seq (by rfl) L.len PySem.boot_len (pa_cons (pv 5) pa_nil)) pa_nil)))
        (pss_cons (ps_expr (pe_bm PySem.F.plainAttrs_list PySem.F.slot_list_extend PySem.F.type_list_extend mt_extend (pv 2) (pa_cons (pv 5) pa_nil)))
        (pss_one (ps_set (i := 3) scAnswers.nd rfl (Or.inl rfl) (pv 4))))))))
      (pss_one (ps_ret (pv 2)))))), ?_⟩
    obtain ⟨es, hns, henc, h60, hans, hshort⟩ := asked_enc hask
    refine ⟨by show 1 ≤ sizeLine; decide, fun u1 hu1 => ⟨Nat.zero_le _, fun u2 hu2 => ?_⟩⟩
    have v1 := Same.new (o := .tup [.int 0]) hu1
    have v2 := Same.new (o := .tup []) hu2
    intro x dx nx0 nd0 ne
    have nx : H x = none := (v1.trans v2).free nx0
    have s0 : Same (upd (upd H u1 (.tup [.int 0])) u2 (.tup [])) (upd (upd (upd (upd H u1 (.tup [.int 0])) u2 (.tup [])) dx (.own x)) x (.ins C dx [])) := (Same.new nd0).trans (Same.new (by rw [upd_ne ne.symm]; exact nx0))
    refine ⟨x, dx, u1, u2, Sw88.init, rfl, upd_same, s0 _ _ (v2 _ _ upd_same), s0 _ _ upd_same, fun H1 hw1 sx1 => ⟨rfl, Nat.zero_le _, fun g hg => ?_⟩⟩
    have s1 : Same H H1 := (v1.trans v2).trans (Same.made nx0 nd0 sx1)
    have s2 := Same.new (o := .lst []) hg
    have ng : H g = none := s1.free hg
    refine while_by (fun σ H' => ∃ (v4 v5 : Option V) (pre post : List (List Int × Sw88.Call)) (st : St8) (G : List Int), σ = [some (.ref b), some (.ref x), some (.ref g), some (.int ((((pre.map (·.1)).flatten).length : Nat) : Int)), v4, v5] ∧
        es = pre ++ post ∧ H' g = some (.lst (intL G)) ∧ WarpAt C H' x st ∧ WOk st ∧ PySw88.answers ns = G ++ outs st (post.map (·.2)) ∧ Same H H')
      (fun (σ : L2.St) (_ : Hp) => match σ[3]? with | some (some (V.int z)) => ns.length - z.toNat | _ => 0)
      ⟨none, none, [], es, Sw88.init, [], rfl, rfl, upd_same, hw1.same s2, WOk.init, hans, s1.trans s2⟩ ?_ ?_
    · rintro σ H' ⟨v4, v5, pre, post, st, G, rfl, hes, hgG, hwx, hok, hdue, sm⟩
      have hb' := sm.seq hb
      have hflat : ns = (pre.map (·.1)).flatten ++ (post.map (·.1)).flatten := by rw [hns, hes, List.map_append, List.flatten_append]
      refine ⟨_, rfl, _, rfl, b, _, rfl, .inl hb', _, _, rfl, rfl, _, rfl, ite2 (fun q => ?_) (fun q => ?_)⟩
      · have hlt : ((pre.map (·.1)).flatten).length < ns.length := by
          have := of_decide_eq_true q
          rw [List.length_map] at this
          omega
        match post, hes, hdue, hflat with
        | [], _, _, hflat =>
          rw [hflat] at hlt
          simp at hlt
        | e :: post, hes, hdue, hflat =>
          have he := henc e (by rw [hes]; exact List.mem_append.mpr (.inr (List.mem_cons.mpr (.inl rfl))))
          have hd : ns.drop ((pre.map (·.1)).flatten).length = e.1 ++ (post.map (·.1)).flatten := by
            rw [hflat, List.drop_left]
            rfl
          have hcp := enc_pos he
          refine ⟨_, rfl, _, rfl, _, rfl, b, ((pre.map (·.1)).flatten).length, ns, e.1, _, e.2, rfl, hb', hd, he, _, _, rfl, rfl, ?_⟩
          refine ⟨_, rfl, _, rfl, _, rfl, _, rfl, _, rfl, _, rfl, b, _, rfl, hb', fun q1 hq1 => ?_⟩
          have t1 := fun (o : HO) => Same.new (o := o) hq1
          have ecut := cut_mid V.int ns e.1 _ _ hd
          refine ⟨x, q1, e.1, e.2, st, rfl, hwx.same (t1 _), hok, ?_, he, fun a H3 hfree ha hw3 sx3 => ?_⟩
          · rw [upd_same]
            exact congrArg (fun z => some (HO.lst z)) ecut
          have hgx : g ≠ x := by
            obtain ⟨dxx, pa, ta, hxx, _⟩ := hwx
            exact ne_of hgG hxx (fun z => nomatch z)
          have hg3 : H3 g = some (.lst (intL G)) := sx3 _ _ (t1 _ _ _ hgG) hgx
          have nga : g ≠ a := ne_of_none (t1 _ _ _ hgG) hfree
          have hgl : (G ++ (((Sw88Neutral.out (Sw88.step st e.2).2).length : Int) :: Sw88Neutral.out (Sw88.step st e.2).2)).length ≤ 10000000 := by
            have := hshort
            rw [hdue] at this
            show _ ≤ _
            have e2 : outs st ((e :: post).map (·.2)) = (((Sw88Neutral.out (Sw88.step st e.2).2).length : Int) :: Sw88Neutral.out (Sw88.step st e.2).2) ++ outs (Sw88.step st e.2).1 (post.map (·.2)) := rfl
            rw [e2, ← List.append_assoc, List.length_append] at this
            omega
          rw [List.length_append, List.length_cons] at hgl
          refine ⟨_, rfl, .inl ⟨rfl, _, SqL.of hg3⟩, _, rfl, a, _, rfl, .inl (SqL.of ha), g, _, _, rfl, rfl, hg3, (by rw [List.length_map, sizeLine_eq]; omega), ?_⟩
          refine ⟨_, rfl, .inl ⟨rfl, _, SqL.of upd_same⟩, _, rfl, g, a, _, _, rfl, rfl, upd_same, (by rw [upd_ne nga.symm]; exact ha), (by simp only [List.length_append, List.length_map, List.length_cons, List.length_nil]; rw [sizeLine_eq]; omega), ?_⟩
          have hnx : ∀ c o, H c = some o → c ≠ x := fun c o hc => ne_of_none hc nx
          refine ⟨_, rfl, ⟨some (.int (((((pre.map (·.1)).flatten).length : Nat) : Int) + ((e.1.length : Nat) : Int))), some (.ref a), pre ++ [e], post, (Sw88.step st e.2).1, G ++ (((Sw88Neutral.out (Sw88.step st e.2).2).length : Int) :: Sw88Neutral.out (Sw88.step st e.2).2), ?_, ?_, ?_, ?_, hok.step e.2, ?_, ?_⟩, ?_⟩
          · have el : ((((pre ++ [e]).map (·.1)).flatten.length : Nat) : Int) = ((((pre.map (·.1)).flatten).length : Nat) : Int) + ((e.1.length : Nat) : Int) := by
              rw [List.map_append, List.flatten_append, List.length_append]
              show (((pre.map (·.1)).flatten.length + ((e.1 ++ []).length) : Nat) : Int) = _
              rw [List.append_nil]
              omega
            rw [el]
            rfl
          · rw [hes, List.append_assoc]
            rfl
          · rw [upd_same, intL_append]
            show some (HO.lst (intL G ++ [V.int ((intL (Sw88Neutral.out (Sw88.step st e.2).2)).length : Nat)] ++ intL (Sw88Neutral.out (Sw88.step st e.2).2))) = _
            rw [List.length_map, List.append_assoc]
            rfl
          · obtain ⟨dx3, pa3, ta3, w1, w2, w3⟩ := hw3
            have nn : ∀ c o, H3 c = some o → o ≠ .lst (intL G) → c ≠ g := fun c o hc ho => ne_of hc hg3 ho
            refine ⟨dx3, pa3, ta3, ?_, ?_, ?_⟩
            · rw [upd_ne hgx.symm, upd_ne hgx.symm]; exact w1
            · have n := nn _ _ w2 (fun z => nomatch z)
              rw [upd_ne n, upd_ne n]; exact w2
            · have n := nn _ _ w3 (fun z => nomatch z)
              rw [upd_ne n, upd_ne n]; exact w3
          · rw [hdue, List.append_assoc]
            rfl
          · exact fun c o hc => by
              have n := ne_of_none hc ng
              rw [upd_ne n, upd_ne n]
              exact sx3 _ _ (t1 _ _ _ (sm _ _ hc)) (hnx c o hc)
          · show ns.length - (((((pre.map (·.1)).flatten).length : Nat) : Int) + ((e.1.length : Nat) : Int)).toNat < ns.length - ((((pre.map (·.1)).flatten).length : Nat) : Int).toNat
            omega
      · have hge : ns.length ≤ ((pre.map (·.1)).flatten).length := by
          refine Decidable.byContradiction fun z => q (decide_eq_true ?_)
          rw [List.length_map]
          omega
        have hpost : post = [] := by
          cases post with
          | nil => rfl
          | cons e post =>
            have he := enc_pos (henc e (by rw [hes]; exact List.mem_append.mpr (.inr (List.mem_cons.mpr (.inl rfl)))))
            rw [hflat, List.length_append, List.map_cons, List.flatten_cons, List.length_append] at hge
            omega
        subst hpost
        refine ⟨_, rfl, k g H' ?_⟩
        rw [hdue]
        show H' g = some (.lst (intL (G ++ [])))
        rw [List.append_nil]
        exact hgG
    · rintro σ H' Q1 Q2 hQ ⟨v, e, v0, e0, p, ys, e1, h1, i, j', e2, e3, kk, e4, q⟩
      exact ⟨v, e, v0, e0, p, ys, e1, h1, i, j', e2, e3, kk, e4, hQ _ _ q⟩
end
end Wrp

end
section
set_option Elab.async false
set_option linter.all false
set_option maxRecDepth 100000
set_option maxHeartbeats 4000000
namespace Wrp
open PySem PySem.Spec PyProof.Rows L2
open PySem.W (Codec)
/-! ### what the top has written -/
structure Df (K : PySem.W.Frag) (x : Str) (st : Stmt) (f : Addr) (fd : FuncData) : Prop where
  F : Fun K x x st f fd
  ns : PySem.W.nsIn K mainGlobals x = some (some (.ref f))
  kp : PySem.W.keepIn K (.ref f) = true
theorem df_mk {K : PySem.W.Frag} {x : Str} {st : Stmt} {f : Addr} {oc kV dc pm cd ct : Value} {od an : Option Addr} {sl : Array (Option Value)} (a : PySem.W.nsIn K mainGlobals x = some (some (.ref f)))
    (l : K.lookup f = some ⟨oc, od, .func (PySem.W.fnOf x x (defArgs st) (defBody st) (defScope st) .none kV dc pm an cd ct), sl⟩) (c : PySem.W.codeIn K cd x = true) (k : PySem.W.keepIn K (.ref f) = true) :
    Df K x st f (PySem.W.fnOf x x (defArgs st) (defBody st) (defScope st) .none kV dc pm an cd ct) := ⟨fun_mk (st := st) l c k, a, k⟩
structure Dm (K : PySem.W.Frag) (C : Addr) (m qual : Str) (st : Stmt) (f : Addr) (fd : FuncData) : Prop where
  F : Fun K m qual st f fd
  at_ : PySem.W.findIn K (.ref C) m = some (some (.ref f))
  fn : PySem.W.isFn K (.ref f) = true
  kp : PySem.W.keepIn K (.ref f) = true
theorem dm_mk {K : PySem.W.Frag} {C : Addr} {m qual : Str} {st : Stmt} {f : Addr} {oc kV dc pm cd ct : Value} {od an : Option Addr} {sl : Array (Option Value)} (a : PySem.W.findIn K (.ref C) m = some (some (.ref f))) (i : PySem.W.isFn K (.ref f) = true)
    (l : K.lookup f = some ⟨oc, od, .func (PySem.W.fnOf m qual (defArgs st) (defBody st) (defScope st) .none kV dc pm an cd ct), sl⟩) (c : PySem.W.codeIn K cd qual = true) (k : PySem.W.keepIn K (.ref f) = true) :
    Dm K C m qual st f (PySem.W.fnOf m qual (defArgs st) (defBody st) (defScope st) .none kV dc pm an cd ct) := ⟨fun_mk (st := st) l c k, a, i, k⟩
structure Dc (K : PySem.W.Frag) (x : Str) (C : Addr) : Prop where
  ns : PySem.W.nsIn K mainGlobals x = some (some (.ref C))
  cl : Cls K C
  mk_ : PySem.W.makesIn K C = true
  kc : PySem.W.keepIn K (.ref C) = true
theorem all_mk {P : Program} {w : World} {K : PySem.W.Frag} {h : Heap} {mg : Str → Option Value} {fa : Addr} (X : K.In h) (G : h.Ns mainGlobals mg) (hfa : mg "answers" = some (.ref fa))
    {CWay CWarp fWayinit fWayrank fWarpinit fWarpcan_wind fWarpwind_section f0 f1 f2 f3 f4 f5 f6 f7 f8 f9 f10 f11 f12 f13 f14 f15 f16 f17 f18 : Addr} {dWayinit dWayrank dWarpinit dWarpcan_wind dWarpwind_section d0 d1 d2 d3 d4 d5 d6 d7 d8 d9 d10 d11 d12 d13 d14 d15 d16 d17 d18 : FuncData} {t0 t1 t2 t3 t4 t5 t6 t7 t8 t9 t10 t11 t12 : Tok}
    (cWay : Dc K "Way" CWay)
    (nWaybobbins : PySem.W.findIn K (.ref CWay) "bobbins" = some none)
    (nWaysections : PySem.W.findIn K (.ref CWay) "sections" = some none)
    (nWayplans : PySem.W.findIn K (.ref CWay) "plans" = some none)
    (cWarp : Dc K "Warp" CWarp)
    (nWarppegs : PySem.W.findIn K (.ref CWarp) "pegs" = some none)
    (nWarpthreads : PySem.W.findIn K (.ref CWarp) "threads" = some none)
    (mWayinit : Dm K CWay "__init__" "Way.__init__" sWInit fWayinit dWayinit)
    (mWayrank : Dm K CWay "rank" "Way.rank" sRank fWayrank dWayrank)
    (mWarpinit : Dm K CWarp "__init__" "Warp.__init__" sWarpInit fWarpinit dWarpinit)
    (mWarpcan_wind : Dm K CWarp "can_wind" "Warp.can_wind" sCanWind fWarpcan_wind dWarpcan_wind)
    (mWarpwind_section : Dm K CWarp "wind_section" "Warp.wind_section" sWindSec fWarpwind_section dWarpwind_section)
    (e0 : Df K "colours_wanted" sWanted f0 d0)
    (e1 : Df K "bobbins_put_on" sBob f1 d1)
    (e2 : Df K "pegs_after" sAfter f2 d2)
    (e3 : Df K "joined" sJoined f3 d3)
    (e4 : Df K "section_choices" sChoices f4 d4)
    (e5 : Df K "ways_to" sWays f5 d5)
    (e6 : Df K "best_way" sBestWay f6 d6)
    (e7 : Df K "listed" sListed f7 d7)
    (e8 : Df K "run_count" sRunCount f8 d8)
    (e9 : Df K "begins" sBegins f9 d9)
    (e10 : Df K "threads" sThreads f10 d10)
    (e11 : Df K "best" sBest f11 d11)
    (e12 : Df K "check" sCheck f12 d12)
    (e13 : Df K "wind" sWind f13 d13)
    (e14 : Df K "rack_now" sRackNow f14 d14)
    (e15 : Df K "colours" sColours f15 d15)
    (e16 : Df K "call_size" sSize f16 d16)
    (e17 : Df K "answer" sAnswer f17 d17)
    (e18 : Df K "answers" sAnswers f18 d18)
    (k0 : PySem.W.nsIn K mainGlobals "MOST_PEGS" = some (some (.int 4 t0)))
    (k1 : PySem.W.nsIn K mainGlobals "MOST_COLOURS" = some (some (.int 9 t1)))
    (k2 : PySem.W.nsIn K mainGlobals "MOST_THREADS" = some (some (.int 12 t2)))
    (k3 : PySem.W.nsIn K mainGlobals "OUT_OF_RANGE" = some (some (.int (-1) t3)))
    (k4 : PySem.W.nsIn K mainGlobals "THREADS_LEFT" = some (some (.int (-4) t4)))
    (k5 : PySem.W.nsIn K mainGlobals "TOO_MANY_THREADS" = some (some (.int (-5) t5)))
    (k6 : PySem.W.nsIn K mainGlobals "NOT_TO_BE_WOUND" = some (some (.int (-6) t6)))
    (k7 : PySem.W.nsIn K mainGlobals "BEGINS" = some (some (.int 0 t7)))
    (k8 : PySem.W.nsIn K mainGlobals "THREADS" = some (some (.int 1 t8)))
    (k9 : PySem.W.nsIn K mainGlobals "BEST" = some (some (.int 2 t9)))
    (k10 : PySem.W.nsIn K mainGlobals "CHECK" = some (some (.int 3 t10)))
    (k11 : PySem.W.nsIn K mainGlobals "WIND" = some (some (.int 4 t11)))
    (k12 : PySem.W.nsIn K mainGlobals "RACK" = some (some (.int 5 t12)))
    (zlen : PySem.W.nsIn K mainGlobals "len" = some none)
    (ztuple : PySem.W.nsIn K mainGlobals "tuple" = some none)
    (zreversed : PySem.W.nsIn K mainGlobals "reversed" = some none)
    (zzip : PySem.W.nsIn K mainGlobals "zip" = some none)
    (zrange : PySem.W.nsIn K mainGlobals "range" = some none)
    (zmin : PySem.W.nsIn K mainGlobals "min" = some none)
    (zany : PySem.W.nsIn K mainGlobals "any" = some none)
    (zlist : PySem.W.nsIn K mainGlobals "list" = some none)
    (zsorted : PySem.W.nsIn K mainGlobals "sorted" = some none)
    (zset : PySem.W.nsIn K mainGlobals "set" = some none)
    : ∃ fd : FuncData, (∀ (s : Shared) (us : List Value), us.length = (["calls"] : List Str).length → BindsTo s fd ⟨us, []⟩ ((["calls"] : List Str).zip us)) ∧ ∀ base : Heap, K.In base → base.Ns mainGlobals mg → FnOk P w K mg base CX0 13 fa fd ["calls"] (spAnswers K) := by
  have e := hfa.symm.trans (PySem.W.mg_of X G e18.ns)
  cases e
  have bWayinit := mWayinit.F.binds (ps := ["self", "bobbins", "sections", "plans"]) fun _ _ _ _ _ _ us hl => match us, hl with | [_, _, _, _], _ => rfl
  have bWayrank := mWayrank.F.binds (ps := ["self"]) fun _ _ _ _ _ _ us hl => match us, hl with | [_], _ => rfl
  have bWarpinit := mWarpinit.F.binds (ps := ["self", "pegs", "threads"]) fun _ _ _ _ _ _ us hl => match us, hl with | [_, _, _], _ => rfl
  have bWarpcan_wind := mWarpcan_wind.F.binds (ps := ["self", "length"]) fun _ _ _ _ _ _ us hl => match us, hl with | [_, _], _ => rfl
  have bWarpwind_section := mWarpwind_section.F.binds (ps := ["self", "length", "turned"]) fun _ _ _ _ _ _ us hl => match us, hl with | [_, _, _], _ => rfl
  have b0 := e0.F.binds (ps := ["section", "turned"]) fun _ _ _ _ _ _ us hl => match us, hl with | [_, _], _ => rfl
  have b1 := e1.F.binds (ps := ["pegs", "wanted"]) fun _ _ _ _ _ _ us hl => match us, hl with | [_, _], _ => rfl
  have b2 := e2.F.binds (ps := ["pegs", "wanted"]) fun _ _ _ _ _ _ us hl => match us, hl with | [_, _], _ => rfl
  have b3 := e3.F.binds (ps := ["known", "further"]) fun _ _ _ _ _ _ us hl => match us, hl with | [_, _], _ => rfl
  have b4 := e4.F.binds (ps := ["longest"]) fun _ _ _ _ _ _ us hl => match us, hl with | [_], _ => rfl
  have b5 := e5.F.binds (ps := ["wound", "layers", "threads", "peg_count"]) fun _ _ _ _ _ _ us hl => match us, hl with | [_, _, _, _], _ => rfl
  have b6 := e6.F.binds (ps := ["pegs", "threads"]) fun _ _ _ _ _ _ us hl => match us, hl with | [_, _], _ => rfl
  have b7 := e7.F.binds (ps := ["numbers"]) fun _ _ _ _ _ _ us hl => match us, hl with | [_], _ => rfl
  have b8 := e8.F.binds (ps := ["row"]) fun _ _ _ _ _ _ us hl => match us, hl with | [_], _ => rfl
  have b9 := e9.F.binds (ps := ["warp", "pegs"]) fun _ _ _ _ _ _ us hl => match us, hl with | [_, _], _ => rfl
  have b10 := e10.F.binds (ps := ["warp", "added"]) fun _ _ _ _ _ _ us hl => match us, hl with | [_, _], _ => rfl
  have b11 := e11.F.binds (ps := ["warp"]) fun _ _ _ _ _ _ us hl => match us, hl with | [_], _ => rfl
  have b12 := e12.F.binds (ps := ["warp", "sections"]) fun _ _ _ _ _ _ us hl => match us, hl with | [_, _], _ => rfl
  have b13 := e13.F.binds (ps := ["warp", "length", "turned"]) fun _ _ _ _ _ _ us hl => match us, hl with | [_, _, _], _ => rfl
  have b14 := e14.F.binds (ps := ["warp"]) fun _ _ _ _ _ _ us hl => match us, hl with | [_], _ => rfl
  have b15 := e15.F.binds (ps := ["warp"]) fun _ _ _ _ _ _ us hl => match us, hl with | [_], _ => rfl
  have b16 := e16.F.binds (ps := ["calls", "start"]) fun _ _ _ _ _ _ us hl => match us, hl with | [_, _], _ => rfl
  have b17 := e17.F.binds (ps := ["warp", "numbers"]) fun _ _ _ _ _ _ us hl => match us, hl with | [_, _], _ => rfl
  have b18 : ∀ (s : Shared) (us : List Value), us.length = (["calls"] : List Str).length → BindsTo s d18 ⟨us, []⟩ ((["calls"] : List Str).zip us) := by
    obtain ⟨oc, od, kV, doc, pm, an, cdv, ct, osl, ed, lk, hcd⟩ := e18.F.ex
    rw [ed]
    exact fun s us hu => match us, hu with | [_], _ => .of_eq rfl
  refine ⟨d18, b18, fun base _ _ => ?_⟩
  have L : Blt mg := ⟨PySem.W.mg_none_of X G zlen, PySem.W.mg_none_of X G ztuple, PySem.W.mg_none_of X G zreversed, PySem.W.mg_none_of X G zzip, PySem.W.mg_none_of X G zrange, PySem.W.mg_none_of X G zmin, PySem.W.mg_none_of X G zany, PySem.W.mg_none_of X G zlist, PySem.W.mg_none_of X G zsorted, PySem.W.mg_none_of X G zset⟩
  have TW : TxtW K mg CWay := ⟨cWay.cl, nWaybobbins, nWaysections, nWayplans, PySem.W.mg_of X G cWay.ns⟩
  have TP : TxtP K mg CWarp := ⟨cWarp.cl, nWarppegs, nWarpthreads, PySem.W.mg_of X G cWarp.ns⟩
  have N : Nums mg := ⟨⟨_, PySem.W.mg_of X G k0⟩, ⟨_, PySem.W.mg_of X G k1⟩, ⟨_, PySem.W.mg_of X G k2⟩, ⟨_, PySem.W.mg_of X G k3⟩, ⟨_, PySem.W.mg_of X G k4⟩, ⟨_, PySem.W.mg_of X G k5⟩, ⟨_, PySem.W.mg_of X G k6⟩⟩
  have Ks : Kinds mg := ⟨⟨_, PySem.W.mg_of X G k7⟩, ⟨_, PySem.W.mg_of X G k8⟩, ⟨_, PySem.W.mg_of X G k9⟩, ⟨_, PySem.W.mg_of X G k10⟩, ⟨_, PySem.W.mg_of X G k11⟩, ⟨_, PySem.W.mg_of X G k12⟩⟩
  have MW : Mk K CWay fWayinit := ⟨cWay.mk_, mWayinit.at_, mWayinit.fn, cWay.kc⟩
  have MP : Mk K CWarp fWarpinit := ⟨cWarp.mk_, mWarpinit.at_, mWarpinit.fn, cWarp.kc⟩
  have GWI := ok_winit (P := P) (w := w) (base := base) mWayinit.F TW
  have GPI := ok_warpinit (P := P) (w := w) (base := base) mWarpinit.F TP
  have G0 := ok_wanted (P := P) (w := w) (base := base) e0.F L
  have G1 := ok_bob (P := P) (w := w) (base := base) e1.F L
  have G2 := ok_after (P := P) (w := w) (base := base) e2.F L
  have G3 := ok_joined (P := P) (w := w) (base := base) e3.F TW L MW mWayinit.F bWayinit mWayrank.F bWayrank ⟨mWayrank.at_, mWayrank.fn, mWayrank.kp⟩
  have G4 := ok_choices (P := P) (w := w) (base := base) e4.F L
  have PL : Plans P w K mg base CWay := ⟨TW, L, ⟨_, _, MW, GWI, bWayinit⟩, ⟨_, _, G0, b0, PySem.W.mg_of X G e0.ns, e0.kp⟩, ⟨_, _, G1, b1, PySem.W.mg_of X G e1.ns, e1.kp⟩, ⟨_, _, G2, b2, PySem.W.mg_of X G e2.ns, e2.kp⟩, ⟨_, _, G3, b3, PySem.W.mg_of X G e3.ns, e3.kp⟩, ⟨_, _, G4, b4, PySem.W.mg_of X G e4.ns, e4.kp⟩⟩
  have G5 := ok_ways (P := P) (w := w) (base := base) e5.F PL
  have G6 := ok_bestway (P := P) (w := w) (base := base) e6.F PL G5 b5 (PySem.W.mg_of X G e5.ns) e5.kp
  have G7 := ok_listed (P := P) (w := w) (base := base) e7.F L
  have G9 := ok_begins (P := P) (w := w) (base := base) e9.F TP N
  have G10 := ok_threads (P := P) (w := w) (base := base) e10.F TP N L
  have G11 := ok_best (P := P) (w := w) (base := base) e11.F TP TW L G6 b6 (PySem.W.mg_of X G e6.ns) e6.kp G7 b7 (PySem.W.mg_of X G e7.ns) e7.kp
  have GCW := ok_canwind (P := P) (w := w) (base := base) mWarpcan_wind.F TP L
  have GWS := ok_windsec (P := P) (w := w) (base := base) mWarpwind_section.F TP PL
  have WP : Warps P w K mg base CWarp := ⟨TP, L, ⟨_, _, MP, GPI, bWarpinit⟩, ⟨_, _, ⟨mWarpcan_wind.at_, mWarpcan_wind.fn, mWarpcan_wind.kp⟩, GCW, bWarpcan_wind⟩, ⟨_, _, ⟨mWarpwind_section.at_, mWarpwind_section.fn, mWarpwind_section.kp⟩, GWS, bWarpwind_section⟩⟩
  have G12 := ok_check (P := P) (w := w) (base := base) e12.F N WP ⟨_, _, G7, b7, PySem.W.mg_of X G e7.ns, e7.kp⟩
  have G13 := ok_wind (P := P) (w := w) (base := base) e13.F N WP
  have G14 := ok_rack (P := P) (w := w) (base := base) e14.F TP L ⟨_, _, G7, b7, PySem.W.mg_of X G e7.ns, e7.kp⟩
  have G8 := ok_runs (P := P) (w := w) (base := base) e8.F L
  have G15 := ok_colours (P := P) (w := w) (base := base) e15.F TP L ⟨_, _, G8, b8, PySem.W.mg_of X G e8.ns, e8.kp⟩ ⟨_, _, G7, b7, PySem.W.mg_of X G e7.ns, e7.kp⟩
  have G16 := ok_size (P := P) (w := w) (base := base) e16.F Ks
  have G17 := ok_answer (P := P) (w := w) (base := base) e17.F Ks ⟨_, _, G9, b9, PySem.W.mg_of X G e9.ns, e9.kp⟩ ⟨_, _, G10, b10, PySem.W.mg_of X G e10.ns, e10.kp⟩ ⟨_, _, G11, b11, PySem.W.mg_of X G e11.ns, e11.kp⟩ ⟨_, _, G12, b12, PySem.W.mg_of X G e12.ns, e12.kp⟩ ⟨_, _, G13, b13, PySem.W.mg_of X G e13.ns, e13.kp⟩ ⟨_, _, G14, b14, PySem.W.mg_of X G e14.ns, e14.kp⟩ ⟨_, _, G15, b15, PySem.W.mg_of X G e15.ns, e15.kp⟩
  exact ok_answers (j := 10) e18.F TP L MP GPI bWarpinit G16 b16 (PySem.W.mg_of X G e16.ns) e16.kp G17 b17 (PySem.W.mg_of X G e17.ns) e17.kp
end Wrp
open PySem PySem.W PyProof.Rows
set_option maxRecDepth 100000 in
set_option maxHeartbeats 0 in
theorem PySem.Challenge.cw_warpwinding_s01_answers_holds : PySem.Challenge.rw_warpwinding_s01_answers.Holds := by
  w_on; k_headS; (case hw => exact ⟨[.list [.int 5]], by decide +kernel, by decide +kernel⟩)
  k_fillS
  refine L2.walk_specK (r := PySem.Challenge.rw_warpwinding_s01_answers) (k := 13) (CX := L2.CX0) (ps := ["calls"]) (sp := Wrp.spAnswers) (by decide +kernel) rfl rfl ⟨rfl, by decide, by decide⟩ (fun w h Y => PySem.W.kIn_of Y) ?F ?S (fun _ _ _ _ z => z)
  case F =>
    intro w mg fa h Y KX G hmg
    refine' Wrp.all_mk KX G hmg ⟨?cWaya, ⟨?cWayp, ?cWayd, ?cWayo, ?cWays⟩, ?cWaym, ?cWayk⟩ ?nWaybobbins ?nWaysections ?nWayplans ⟨?cWarpa, ⟨?cWarpp, ?cWarpd, ?cWarpo, ?cWarps⟩, ?cWarpm, ?cWarpk⟩ ?nWarppegs ?nWarpthreads (Wrp.dm_mk (st := Wrp.sWInit) ?mWayinita ?mWayiniti ?mWayinitl ?mWayinitc ?mWayinitk) (Wrp.dm_mk (st := Wrp.sRank) ?mWayranka ?mWayranki ?mWayrankl ?mWayrankc ?mWayrankk) (Wrp.dm_mk (st := Wrp.sWarpInit) ?mWarpinita ?mWarpiniti ?mWarpinitl ?mWarpinitc ?mWarpinitk) (Wrp.dm_mk (st := Wrp.sCanWind) ?mWarpcan_winda ?mWarpcan_windi ?mWarpcan_windl ?mWarpcan_windc ?mWarpcan_windk) (Wrp.dm_mk (st := Wrp.sWindSec) ?mWarpwind_sectiona ?mWarpwind_sectioni ?mWarpwind_sectionl ?mWarpwind_sectionc ?mWarpwind_sectionk) (Wrp.df_mk (st := Wrp.sWanted) ?e0a ?e0l ?e0c ?e0k) (Wrp.df_mk (st := Wrp.sBob) ?e1a ?e1l ?e1c ?e1k) (Wrp.df_mk (st := Wrp.sAfter) ?e2a ?e2l ?e2c ?e2k) (Wrp.df_mk (st := Wrp.sJoined) ?e3a ?e3l ?e3c ?e3k) (Wrp.df_mk (st := Wrp.sChoices) ?e4a ?e4l ?e4c ?e4k) (Wrp.df_mk (st := Wrp.sWays) ?e5a ?e5l ?e5c ?e5k) (Wrp.df_mk (st := Wrp.sBestWay) ?e6a ?e6l ?e6c ?e6k) (Wrp.df_mk (st := Wrp.sListed) ?e7a ?e7l ?e7c ?e7k) (Wrp.df_mk (st := Wrp.sRunCount) ?e8a ?e8l ?e8c ?e8k) (Wrp.df_mk (st := Wrp.sBegins) ?e9a ?e9l ?e9c ?e9k) (Wrp.df_mk (st := Wrp.sThreads) ?e10a ?e10l ?e10c ?e10k) (Wrp.df_mk (st := Wrp.sBest) ?e11a ?e11l ?e11c ?e11k) (Wrp.df_mk (st := Wrp.sCheck) ?e12a ?e12l ?e12c ?e12k) (Wrp.df_mk (st := Wrp.sWind) ?e13a ?e13l ?e13c ?e13k) (Wrp.df_mk (st := Wrp.sRackNow) ?e14a ?e14l ?e14c ?e14k) (Wrp.df_mk (st := Wrp.sColours) ?e15a ?e15l ?e15c ?e15k) (Wrp.df_mk (st := Wrp.sSize) ?e16a ?e16l ?e16c ?e16k) (Wrp.df_mk (st := Wrp.sAnswer) ?e17a ?e17l ?e17c ?e17k) (Wrp.df_mk (st := Wrp.sAnswers) ?e18a ?e18l ?e18c ?e18k) ?k0 ?k1 ?k2 ?k3 ?k4 ?k5 ?k6 ?k7 ?k8 ?k9 ?k10 ?k11 ?k12 ?zlen ?ztuple ?zreversed ?zzip ?zrange ?zmin ?zany ?zlist ?zsorted ?zset
    (case cWaya => k_is)
    (case cWayp => k_is)
    (case cWayd => k_is)
    (case cWayo => k_is)
    (case cWays => k_is)
    (case cWaym => k_is)
    (case cWayk => k_is)
    (case nWaybobbins => k_is)
    (case nWaysections => k_is)
    (case nWayplans => k_is)
    (case cWarpa => k_is)
    (case cWarpp => k_is)
    (case cWarpd => k_is)
    (case cWarpo => k_is)
    (case cWarps => k_is)
    (case cWarpm => k_is)
    (case cWarpk => k_is)
    (case nWarppegs => k_is)
    (case nWarpthreads => k_is)
    (case mWayinita => k_is)
    (case mWayiniti => k_is)
    (case mWayinitl => k_is)
    (case mWayinitc => k_is)
    (case mWayinitk => k_is)
    (case mWayranka => k_is)
    (case mWayranki => k_is)
    (case mWayrankl => k_is)
    (case mWayrankc => k_is)
    (case mWayrankk => k_is)
    (case mWarpinita => k_is)
    (case mWarpiniti => k_is)
    (case mWarpinitl => k_is)
    (case mWarpinitc => k_is)
    (case mWarpinitk => k_is)
    (case mWarpcan_winda => k_is)
    (case mWarpcan_windi => k_is)
    (case mWarpcan_windl => k_is)
    (case mWarpcan_windc => k_is)
    (case mWarpcan_windk => k_is)
    (case mWarpwind_sectiona => k_is)
    (case mWarpwind_sectioni => k_is)
    (case mWarpwind_sectionl => k_is)
    (case mWarpwind_sectionc => k_is)
    (case mWarpwind_sectionk => k_is)
    (case e0a => k_is)
    (case e0l => k_is)
    (case e0c => k_is)
    (case e0k => k_is)
    (case e1a => k_is)
    (case e1l => k_is)
    (case e1c => k_is)
    (case e1k => k_is)
    (case e2a => k_is)
    (case e2l => k_is)
    (case e2c => k_is)
    (case e2k => k_is)
    (case e3a => k_is)
    (case e3l => k_is)
    (case e3c => k_is)
    (case e3k => k_is)
    (case e4a => k_is)
    (case e4l => k_is)
    (case e4c => k_is)
    (case e4k => k_is)
    (case e5a => k_is)
    (case e5l => k_is)
    (case e5c => k_is)
    (case e5k => k_is)
    (case e6a => k_is)
    (case e6l => k_is)
    (case e6c => k_is)
    (case e6k => k_is)
    (case e7a => k_is)
    (case e7l => k_is)
    (case e7c => k_is)
    (case e7k => k_is)
    (case e8a => k_is)
    (case e8l => k_is)
    (case e8c => k_is)
    (case e8k => k_is)
    (case e9a => k_is)
    (case e9l => k_is)
    (case e9c => k_is)
    (case e9k => k_is)
    (case e10a => k_is)
    (case e10l => k_is)
    (case e10c => k_is)
    (case e10k => k_is)
    (case e11a => k_is)
    (case e11l => k_is)
    (case e11c => k_is)
    (case e11k => k_is)
    (case e12a => k_is)
    (case e12l => k_is)
    (case e12c => k_is)
    (case e12k => k_is)
    (case e13a => k_is)
    (case e13l => k_is)
    (case e13c => k_is)
    (case e13k => k_is)
    (case e14a => k_is)
    (case e14l => k_is)
    (case e14c => k_is)
    (case e14k => k_is)
    (case e15a => k_is)
    (case e15l => k_is)
    (case e15c => k_is)
    (case e15k => k_is)
    (case e16a => k_is)
    (case e16l => k_is)
    (case e16c => k_is)
    (case e16k => k_is)
    (case e17a => k_is)
    (case e17l => k_is)
    (case e17c => k_is)
    (case e17k => k_is)
    (case e18a => k_is)
    (case e18l => k_is)
    (case e18c => k_is)
    (case e18k => k_is)
    (case k0 => k_is)
    (case k1 => k_is)
    (case k2 => k_is)
    (case k3 => k_is)
    (case k4 => k_is)
    (case k5 => k_is)
    (case k6 => k_is)
    (case k7 => k_is)
    (case k8 => k_is)
    (case k9 => k_is)
    (case k10 => k_is)
    (case k11 => k_is)
    (case k12 => k_is)
    (case zlen => k_is)
    (case ztuple => k_is)
    (case zreversed => k_is)
    (case zzip => k_is)
    (case zrange => k_is)
    (case zmin => k_is)
    (case zany => k_is)
    (case zlist => k_is)
    (case zsorted => k_is)
    (case zset => k_is)
  case S =>
    intro K H xs a hO hwi hask hx
    cases hx with
    | cons h1 h2 =>
      cases h2
      cases h1 with
      | lst hs ha =>
        have e := L2.ints_dw a.1 _ ha
        subst e
        have q : ((Codec.inLen 0 30000 a.1 && a.1.all (Codec.inInt 0 4294967295)) && true) = true := hwi
        rw [Bool.and_eq_true, Bool.and_eq_true] at q
        exact ⟨_, a.1, rfl, hs, hask, (Codec.inNat_iff.mp q.1.1).2, fun p H' hp => .lst (L2.SqL.of hp) (L2.dw_ints _)⟩
#print axioms PySem.Challenge.cw_warpwinding_s01_answers_holds

end
